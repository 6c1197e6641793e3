import PyProof.Rows.All
import Wide.All
import OpenK.AllK
import Wide.FinOn
import KE.KStateDown
import Lean
import HandS.ForMost
import HandS.SortInts
import HandS.SetFor
import HandS.Wide
import HandS.Defaults
import HandS.IsInst
import HandS.CallLocal
import HandS.More
import HandS.Codes
import HandS.Sort
import HandS.Head0
import HandS.Head1
import HandS.Head2
import HandS.HeadEnd
import HandS.HeadHook1
import HandS.HeadHook2
import HandS.HeadHook3
import HandS.Walk
import HandS.Dict
import HandS.TupAny
import KE.KDictDisplayH
import PySem.Challenge.RW_clockhand_k10_whole_the_worst_row
set_option Elab.async false
set_option linter.all false
set_option maxRecDepth 100000
set_option maxHeartbeats 0
/-! Clockhand: the shared ground of its laws: where a def stands, heaps, the box of the draws. -/
namespace CK
open PySem PySem.Spec PyProof.Rows L2
def top (i : Nat) : Stmt := PySem.Challenge.pw_clockhand_k10_whole_the_worst_row.main.body.getD i (.Pass ⟨0, 0, 0, 0⟩)

/-- a def of the text, behind the top -/
structure DAt (K : PySem.W.Frag) (mg : Str → Option Value) (x : Str) (st : Stmt) (ps : List Str) where
  f : Addr
  fd : FuncData
  fn : FunD K x x (defArgs st) (defBody st) (defScope st) [] [] f fd
  bd : Binds K fd ps []
  g : mg x = some (.ref f)
/-- a method of the class at C -/
structure MAt (K : PySem.W.Frag) (C : Addr) (x q : Str) (st : Stmt) (ps : List Str) where
  f : Addr
  fd : FuncData
  fn : FunD K x q (defArgs st) (defBody st) (defScope st) [] [] f fd
  bd : Binds K fd ps []
  me : Meth K C x f

/-! ### the head's look, by one more Bool -/
def obsX (n : Nat) (fa : List He.Fa) (fn : List He.DefD) (ts : List He.Tab) (xt : PySem.W.Frag → Bool) (g : Addr → Option Obj) : He.AlT × Bool := (He.obsTG n fa fn ts g, xt (He.frG g (He.asD g n)))
def hookX (n : Nat) (fa : List He.Fa) (fn : List He.DefD) (ts : List He.Tab) (xt : PySem.W.Frag → Bool) : PySem.W.Hook where
  α := He.AlT × Bool
  obs := fun s => obsX n fa fn ts xt s.heap.get?
  val := fun w => (He.valT fn ts w, true)
  says := fun w h => ∃ K : PySem.W.Frag, K.In h ∧ He.SaysT fa fn ts w K ∧ xt K = true
  of := fun _ _ e => ⟨_, He.frG_in, congrArg Prod.fst e, congrArg Prod.snd e⟩
  keeps := fun _ _ _ ⟨K, hK, c⟩ k => ⟨K, PySem.W.Frag.In.keeps hK k, c⟩
theorem obsX_eq {n : Nat} {fa : List He.Fa} {fn : List He.DefD} {ts : List He.Tab} {xt : PySem.W.Frag → Bool} {g : Addr → Option Obj} {s : Shared} (h : ∀ a, g a = s.heap.get? a) : obsX n fa fn ts xt g = (hookX n fa fn ts xt).obs s := by
  have e : g = s.heap.get? := funext h
  rw [e] <;> rfl
/-! ### where all stands behind the top -/
structure DialAt (K : PySem.W.Frag) (mg : Str → Option Value) where
  C : Addr
  cl : Cls K C
  g : mg "Dial" = some (.ref C)
  n_hand : NoAttr K C "_hand"
  n_held : NoAttr K C "_held"
  n_lacks : NoAttr K C "_lacks"
  n_marks : NoAttr K C "_marks"
  init : MAt K C "__init__" "Dial.__init__" (inClass (top 19) 0) ["self", "rooms"]
  ask : MAt K C "ask" "Dial.ask" (inClass (top 19) 1) ["self", "page"]
  pages : MAt K C "pages" "Dial.pages" (inClass (top 19) 2) ["self"]
  looked : MAt K C "looked" "Dial.looked" (inClass (top 19) 3) ["self"]
  points : MAt K C "points" "Dial.points" (inClass (top 19) 4) ["self"]
  pass_marked : MAt K C "_pass_marked" "Dial._pass_marked" (inClass (top 19) 6) ["self"]
  exchange : MAt K C "_exchange" "Dial._exchange" (inClass (top 19) 7) ["self", "page"]
  go_on : MAt K C "_go_on" "Dial._go_on" (inClass (top 19) 8) ["self"]
  mkr : Mk K C init.f
  bI : Binds K init.fd ["self", "rooms"] []
structure Prog (K : PySem.W.Frag) (mg : Str → Option Value) where
  check_rooms : DAt K mg "check_rooms" (top 10) ["rooms"]
  is_page : DAt K mg "is_page" (top 11) ["page"]
  check_page : DAt K mg "check_page" (top 12) ["page"]
  find_spells : DAt K mg "find_spells" (top 14) ["row"]
  find_best : DAt K mg "find_best" (top 16) ["rooms", "row"]
  farthest : DAt K mg "_farthest" (top 17) ["there"]
  by_hand : DAt K mg "_by_hand" (top 21) ["rooms", "row"]
  by_unseen : DAt K mg "_by_unseen" (top 22) ["rooms", "row"]
  by_first : DAt K mg "_by_first" (top 23) ["rooms", "row"]
  by_line : DAt K mg "_by_line" (top 24) ["rooms", "row", "renewed"]
  check_rule : DAt K mg "check_rule" (top 26) ["rule"]
  find_lacks : DAt K mg "find_lacks" (top 27) ["rooms", "row", "rule"]
  worst : DAt K mg "worst" (top 31) ["rooms", "pages", "long", "rule"]
  check_size : DAt K mg "_check_size" (top 32) ["pages", "long"]
  are_too_many : DAt K mg "_are_too_many" (top 33) ["pages", "long"]
  all_rows : DAt K mg "_all_rows" (top 34) ["pages", "long"]
  more_lacks : DAt K mg "_more_lacks" (top 35) ["rooms", "row", "rule"]
  law_begun : DAt K mg "_law_begun" (top 37) ["_law_script"]
  law_take : DAt K mg "_law_take" (top 38) ["_law_box", "_law_many"]
  law_alike : DAt K mg "_law_alike" (top 39) ["_law_found", "_law_due"]
  law_dial : DAt K mg "_law_dial" (top 40) ["_law_rooms"]
  law_ask : DAt K mg "_law_ask" (top 41) ["_law_dial_here", "_law_page"]
  law_lacks : DAt K mg "_law_lacks" (top 42) ["_law_rooms", "_law_row", "_law_rule"]
  law_fewest : DAt K mg "_law_fewest" (top 43) ["_law_rooms", "_law_row"]
  law_seldom : DAt K mg "_law_seldom" (top 44) ["_law_rooms", "_law_row"]
  law_sizes : DAt K mg "_law_sizes" (top 45) ["_law_box"]
  Dial : DialAt K mg
  t_MOST_ROOMS : Tok
  g_MOST_ROOMS : mg "MOST_ROOMS" = some (.int 8 t_MOST_ROOMS)
  t_PAGES : Tok
  g_PAGES : mg "PAGES" = some (.int 12 t_PAGES)
  t_MOST_ROWS : Tok
  g_MOST_ROWS : mg "MOST_ROWS" = some (.int 5000 t_MOST_ROWS)
  t_LONGEST : Tok
  g_LONGEST : mg "LONGEST" = some (.int 5000 t_LONGEST)
  bool_ : mg "bool" = none
  dict_ : mg "dict" = none
  enumerate : mg "enumerate" = none
  int_ : mg "int" = none
  isinstance : mg "isinstance" = none
  len : mg "len" = none
  list_ : mg "list" = none
  max : mg "max" = none
  min : mg "min" = none
  range : mg "range" = none
  sorted : mg "sorted" = none
  str_ : mg "str" = none
  tuple_ : mg "tuple" = none
  a_RULES : Addr
  g_RULES : mg "RULES" = some (.ref a_RULES)
  r_RULES_hand : ∃ u, PySem.W.nsIn K a_RULES "hand" = some (some u) ∧ RelV (.ref by_hand.f) u
  r_RULES_unseen : ∃ u, PySem.W.nsIn K a_RULES "unseen" = some (some u) ∧ RelV (.ref by_unseen.f) u
  r_RULES_first : ∃ u, PySem.W.nsIn K a_RULES "first" = some (some u) ∧ RelV (.ref by_first.f) u

/-! ### heaps -/
/-- all that H knows stands in H' as it stood, but for what stands at the places S -/
def But (S : List Addr) (H H' : Hp) : Prop := ∀ b o, H b = some o → b ∉ S → H' b = some o
theorem But.refl (S : List Addr) (H : Hp) : But S H H := fun _ _ h _ => h
theorem But.trans {S : List Addr} {H H1 H2 : Hp} (a : But S H H1) (b : But S H1 H2) : But S H H2 := fun c o h n => b c o (a c o h n) n
theorem But.mono {S T : List Addr} {H H1 : Hp} (a : But S H H1) (h : ∀ x, x ∈ S → x ∈ T) : But T H H1 := fun c o e n => a c o e fun z => n (h c z)
theorem But.same {H H1 : Hp} (a : But [] H H1) : Same H H1 := fun c o e => a c o e (by simp)
theorem But.of {S : List Addr} {H H1 : Hp} (a : Same H H1) : But S H H1 := fun c o e _ => a c o e
theorem But.new {S : List Addr} {H : Hp} {p : Addr} {o : HO} (h : H p = none) : But S H (upd H p o) := fun b u e _ => by
  rw [upd_ne (ne_of_none e h)]
  exact e
theorem But.put {S : List Addr} {H : Hp} {p : Addr} {o : HO} (h : p ∈ S) : But S H (upd H p o) := fun b u e n => by
  rw [upd_ne (fun z => n (by rw [z]; exact h))]
  exact e
/-- a place that H did not know may change -/
theorem But.free {S : List Addr} {p : Addr} {H H' : Hp} (a : But (p :: S) H H') (h : H p = none) : But S H H' := fun b o e n => a b o e fun z => by
  rcases List.mem_cons.mp z with z | z
  · rw [z, h] at e
    cases e
  · exact n z
theorem But.at {S : List Addr} {H H' : Hp} (a : But S H H') {b : Addr} {o : HO} (e : H b = some o) (n : b ∉ S := by first | assumption | simp) : H' b = some o := a b o e n
/-- what is new behind was free ahead, if it isn't of S -/
theorem But.back {S : List Addr} {H H' : Hp} (a : But S H H') {p : Addr} (h : H' p = none) (n : p ∉ S) : H p = none := by
  cases e : H p with
  | none => rfl
  | some o => rw [a p o e n] at h; cases h
theorem Same.new {H : Hp} {p : Addr} {o : HO} (h : H p = none) : Same H (upd H p o) := fun b u e => by
  rw [upd_ne (ne_of_none e h)]
  exact e
theorem Same.back {H H' : Hp} (a : Same H H') {p : Addr} (h : H' p = none) : H p = none := by
  cases e : H p with
  | none => rfl
  | some o => rw [a p o e] at h; cases h
theorem Same.put {H H' : Hp} {p : Addr} {o : HO} (a : Same H H') (h : H p = none) : Same H (upd H' p o) := fun b u e => by
  rw [upd_ne (ne_of_none e h)]
  exact a b u e
theorem ne_fresh {H : Hp} {a b : Addr} {o : HO} (h : H a = some o) (h' : H b = none) : a ≠ b := ne_of_none h h'

/-! ### lists of ints -/
abbrev il (ns : List Int) : List V := ns.map V.int
theorem il_at {ns : List Int} {j : Nat} {n : Int} (h : ns[j]? = some n) : (il ns)[j]? = some (V.int n) := by
  rw [List.getElem?_map, h]
  rfl
theorem il_set {ns : List Int} {j : Nat} {n : Int} : (il ns).set j (V.int n) = il (ns.set j n) := by
  show (ns.map V.int).set j (V.int n) = (ns.set j n).map V.int
  rw [List.map_set]
theorem il_get {ns : List Int} {j : Nat} {y : V} (h : (il ns)[j]? = some y) : ∃ n, ns[j]? = some n ∧ y = V.int n := by
  rw [List.getElem?_map] at h
  cases e : ns[j]? with
  | none => rw [e] at h; cases h
  | some n => rw [e] at h; exact ⟨n, rfl, (Option.some.inj h).symm⟩
theorem il_snoc {ns : List Int} {n : Int} : il ns ++ [V.int n] = il (ns ++ [n]) := by
  show ns.map V.int ++ [V.int n] = (ns ++ [n]).map V.int
  rw [List.map_append]
  rfl
theorem il_app {ns ms : List Int} : il ns ++ il ms = il (ns ++ ms) := by
  show ns.map V.int ++ ms.map V.int = (ns ++ ms).map V.int
  rw [List.map_append]
theorem il_len {ns : List Int} : (il ns).length = ns.length := List.length_map _
theorem flat_il (ns : List Int) : (il ns).all flatV = true := by
  rw [List.all_eq_true]
  intro x hx
  obtain ⟨n, _, rfl⟩ := List.mem_map.mp hx
  rfl
theorem inV_il (n : Int) (ns : List Int) : inV (V.int n) (il ns) = decide (n ∈ ns) := by
  induction ns with
  | nil => rfl
  | cons a r ih =>
    show (eqV (V.int a) (V.int n) || inV (V.int n) (il r)) = _
    rw [ih]
    have e : eqV (V.int a) (V.int n) = decide (a = n) := by
      first
        | rfl
        | (simp [eqV])
    rw [e]
    by_cases h : a = n
    · simp [h]
    · have h2 : ¬ n = a := fun z => h z.symm
      simp [h, h2]
/-! ### data that is read -/
def pd (ns : List Int) : PyData := .list (ns.map PyData.int)
theorem dp_all (K : PySem.W.Frag) (H : Hp) : ∀ ns : List Int, DpAll K H (il ns) (ns.map PyData.int)
  | [] => .nil
  | _ :: r => .cons (.int _) (dp_all K H r)
theorem dp_il {K : PySem.W.Frag} {H : Hp} {a : Addr} {ns : List Int} (h : SqL K H a (il ns)) : Dp K H (.ref a) (pd ns) := .lst h (dp_all K H ns)
theorem eqv_pd : ∀ a b : List Int, PyData.eqvAll (a.map PyData.int) (b.map PyData.int) = decide (a = b)
  | [], [] => rfl
  | [], _ :: _ => rfl
  | _ :: _, [] => rfl
  | x :: r, y :: s => by
    show ((x == y) && PyData.eqvAll (r.map PyData.int) (s.map PyData.int)) = _
    rw [eqv_pd r s]
    by_cases h : x = y
    · by_cases h2 : r = s
      · simp [h, h2]
      · simp [h, h2]
    · simp [h]
theorem eqv_il (a b : List Int) : PyData.eqv (pd a) (pd b) = decide (a = b) := eqv_pd a b
theorem lay_il : ∀ a : List Int, PyData.canLayAll0 (a.map PyData.int) = true
  | [] => rfl
  | _ :: r => by
    show (true && PyData.canLayAll0 (r.map PyData.int)) = true
    rw [lay_il r]
    rfl
theorem dep_il : ∀ a : List Int, PyData.depthAll (a.map PyData.int) = 0
  | [] => rfl
  | _ :: r => by
    show max 0 (PyData.depthAll (r.map PyData.int)) = 0
    rw [dep_il r]
    rfl
theorem shaped_il (a : List Int) : SeqAt.shaped (pd a) = true := by
  unfold SeqAt.shaped pd
  rw [Bool.and_eq_true]
  constructor
  · show PyData.canLayAll0 _ = true
    exact lay_il a
  · apply decide_eq_true
    show PyData.depthAll _ + 1 ≤ 64
    rw [dep_il a]
    decide
theorem sz {n : Nat} (h : n ≤ 100000) : n ≤ sizeLine := Nat.le_trans h (by decide)
theorem szl {n : Nat} (h : n < 100000) : n < sizeLine := Nat.lt_of_lt_of_le h (by decide)

theorem ixn {n : Nat} {i : Int} {j : Nat} (e : i = (j : Int)) (h : j < n) : ixN n i = some j := by
  unfold ixN
  rw [if_pos (by omega), if_pos (by omega), e]
  rfl
theorem seq_ix {n : Nat} {i : Int} {j : Nat} (e : i = (j : Int)) (h : j < n) : seqIndex? i n = some j := (ixN_seq (ixn e h)).1
theorem szd {n : Nat} (h : Nat.ble n 1000 = true) : n ≤ sizeLine := Nat.le_trans (Nat.le_of_ble_eq_true h) (by decide)
theorem il_menu {xs : List Int} {r : Int} (h0 : 0 ≤ r) (h1 : r < xs.length) : ∃ v, v ∈ xs ∧ atI (il xs) r = some (V.int v) := by
  obtain ⟨j, rfl⟩ : ∃ j : Nat, r = (j : Int) := ⟨r.toNat, by omega⟩
  have hj : j < xs.length := by omega
  exact ⟨xs[j], List.getElem_mem hj, atI_nat (il_at (List.getElem?_eq_getElem hj))⟩
theorem il_last {xs : List Int} (h : xs ≠ []) : ∃ v, v ∈ xs ∧ atI (il xs) (-1) = some (V.int v) := by
  obtain ⟨ys, y, rfl⟩ : ∃ ys y, xs = ys ++ [y] := ⟨xs.dropLast, xs.getLast h, (List.dropLast_concat_getLast h).symm⟩
  refine ⟨y, by simp, ?_⟩
  rw [← il_snoc]
  exact atI_last _ _
theorem ifT {c : Bool} {A B : Prop} (e : c = true) (h : A) : if c = true then A else B := by
  rw [if_pos e]
  exact h
theorem ifF {c : Bool} {A B : Prop} (e : c = false) (h : B) : if c = true then A else B := by
  rw [e]
  exact iteF h
theorem int0 {a b : Int} (h : a < b) : a < b := h
/-! ### the box of the draws -/
/-- the box at b: the numbers left, in the list at l, and a number by which draws go on -/
structure BoxAt (H : Hp) (b l : Addr) : Prop where
  ne : b ≠ l
  ex : ∃ (ns : List Int) (z : Int), H b = some (.lst [.ref l, .int z]) ∧ H l = some (.lst (il ns)) ∧ 0 ≤ z ∧ z < 2147483647
theorem BoxAt.but {S : List Addr} {H H' : Hp} {b l : Addr} (B : BoxAt H b l) (k : But S H H') (hb : b ∉ S) (hl : l ∉ S) : BoxAt H' b l := by
  obtain ⟨ns, z, h1, h2, h3⟩ := B.ex
  exact ⟨B.ne, ns, z, k _ _ h1 hb, k _ _ h2 hl, h3⟩
theorem BoxAt.same {H H' : Hp} {b l : Addr} (B : BoxAt H b l) (k : Same H H') : BoxAt H' b l := by
  obtain ⟨ns, z, h1, h2, h3⟩ := B.ex
  exact ⟨B.ne, ns, z, k _ _ h1, k _ _ h2, h3⟩

/-! ### the promises of the draws -/
/-- a new box over the script's ints -/
def spBegun (K : PySem.W.Frag) : Sp := fun vs H Q _ => ∃ (a : Addr) (ns : List Int), vs = [.ref a] ∧ SqL K H a (il ns) ∧ ns.length ≤ 63 ∧
  ∀ (b l : Addr) (H' : Hp), H b = none → H l = none → Same H H' → BoxAt H' b l → Q (.ref b) H'
/-- a draw: some number below m, and the box is still one -/
def spTake : Sp := fun vs H Q _ => ∃ (b l : Addr) (m : Int), vs = [.ref b, .int m] ∧ BoxAt H b l ∧ 0 < m ∧ m < 1000000000 ∧
  ∀ (r : Int) (H' : Hp), 0 ≤ r → r < m → But [b, l] H H' → BoxAt H' b l → Q (.int r) H'
/-- a row: asks for pages below twelve, at most as many as asked for -/
def spRow : Sp := fun vs H Q _ => ∃ (b l : Addr) (m : Int), vs = [.ref b, .int m] ∧ BoxAt H b l ∧ 0 ≤ m ∧ m ≤ 100 ∧
  ∀ (row : List Int) (r : Addr) (H' : Hp), H r = none → (∀ p ∈ row, 0 ≤ p ∧ p < 12) → (row.length : Int) ≤ m → But [b, l] H H' → H' r = some (.lst (il row)) → BoxAt H' b l → Q (.ref r) H'
end CK

namespace CK
open PySem PySem.Spec PyProof.Rows L2
section
variable {P : Program} {w : World} {K : PySem.W.Frag} {mg : Str → Option Value} {base : Heap}
/-! ### a draw -/
theorem sc_law_take : FnScope ["_law_box", "_law_many", "_law_number"] ["_law_box", "_law_many"] (defScope (top 38)) := ⟨rfl, rfl, rfl, by decide +kernel, rfl, by decide +kernel, by decide +kernel⟩
theorem ok_law_take (T : Prog K mg) : FnOk P w K mg base CX0 1 T.law_take.f T.law_take.fd ["_law_box", "_law_many"] spTake := by
  refine T.law_take.fn.ok sc_law_take (fun vs H Q E h => ?len) (fun cdv A outer s H vs Q E hr h => ?body)
  case len =>
    obtain ⟨b, l, m, rfl, _⟩ := h
    rfl
  case body =>
    have hu := hu_of hr
    obtain ⟨b, l, m, rfl, B, m0, m1, k⟩ := h
    refine ⟨_, PSs.nox (pss_cons (ps_if (pt_cmpR (op_eqD hr.units) (pe_ix ix_list (pv 0) pe_int (fun _ _ => rfl)) (pe_lst pa_nil) (nomark _))
        (pss_cons (ps_asg (pe_op op_mod (pe_op op_mul (pe_ix ix_list (pv 0) pe_int (fun _ _ => rfl)) pe_int) pe_int) (pg_sub (pv 0) pe_int set_list))
        (pss_one (ps_ret (pe_op op_mod (pe_op op_fdiv (pe_ix ix_list (pv 0) pe_int (fun _ _ => rfl)) pe_int) (pv 1)))))
        pss_nil)
        (pss_cons (ps_set (i := 2) sc_law_take.nd rfl (Or.inl rfl) (pe_ix ix_list (pe_ix ix_list (pv 0) pe_int (fun _ _ => rfl)) pe_int (fun _ _ => rfl)))
        (pss_cons (ps_asg (pe_op op_fdiv (pv 2) (pv 1)) (pg_sub (pe_ix ix_list (pv 0) pe_int (fun _ _ => rfl)) pe_int set_list))
        (pss_cons (ps_if (PW.pt (pw_or (pt_cmpR op_eq (pe_ix ix_list (pe_ix ix_list (pv 0) pe_int (fun _ _ => rfl)) pe_int (fun _ _ => rfl)) pe_int (nomark _)) (pw_or1 (pt_cmpR op_eq (pe_ix ix_list (pe_ix ix_list (pv 0) pe_int (fun _ _ => rfl)) pe_int (fun _ _ => rfl)) (pe_un un_neg pe_int) (nomark _)))))
        (pss_one (ps_expr (pe_bm PySem.F.plainAttrs_list PySem.F.slot_list_pop PySem.F.type_list_pop mt_popAt (pe_ix ix_list (pv 0) pe_int (fun _ _ => rfl)) (pa_cons pe_int pa_nil))))
        pss_nil)
        (pss_one (ps_ret (pe_op op_mod (pv 2) (pv 1)))))))), ?_⟩
    have B0 := B
    obtain ⟨ns, z, hb, hl, z0, z1⟩ := B.ex
    -- if box[0] == []
    refine ⟨_, rfl, b, _, _, _, rfl, rfl, SqL.of hb, atI_nat (j := 0) rfl, by decide, fun e he => ?_⟩
    have eb : b ≠ e := ne_fresh hb he
    have el : l ≠ e := ne_fresh hl he
    have s1 : But [b, l] H (upd H e (.lst [])) := But.new he
    have hb1 : upd H e (.lst []) b = some (.lst [.ref l, .int z]) := by rw [upd_ne eb]; exact hb
    have hl1 : upd H e (.lst []) l = some (.lst (il ns)) := by rw [upd_ne el]; exact hl
    refine ⟨pd ns, pd [], dp_il (SqL.of hl1), dp_il (ns := []) (SqL.of upd_same), shaped_il _, shaped_il _, _, rfl, ?_⟩
    rw [eqv_il]
    refine ite2 (fun hn => ?_) (fun hn => ?_)
    · -- box[1] = box[1] * 48271 % 2147483647; return box[1] // 7 % many
      refine ⟨_, rfl, b, _, _, _, rfl, rfl, SqL.of hb1, atI_nat (j := 1) rfl, _, _, rfl, rfl, .inl ⟨by omega, by omega⟩, _, _, rfl, rfl, int0 (by decide), ?_⟩
      refine ⟨_, rfl, b, _, 1, 1, rfl, rfl, hb1, rfl, ?_⟩
      refine ⟨_, rfl, b, _, _, _, rfl, rfl, SqL.of upd_same, atI_nat (j := 1) rfl, _, _, rfl, rfl, ⟨by decide, by decide⟩, _, rfl, _, _, rfl, rfl, m0, ?_⟩
      refine k _ _ (Int.emod_nonneg _ (by omega)) (Int.emod_lt_of_pos _ m0) (s1.trans (But.put (by simp))) ⟨B.ne, ns, _, upd_same, ?_, Int.emod_nonneg _ (by decide), Int.emod_lt_of_pos _ (by decide)⟩
      rw [upd_ne (Ne.symm B.ne)]
      exact hl1
    · -- number = box[0][0]
      obtain ⟨n, r, rfl⟩ : ∃ n r, ns = n :: r := by
        cases ns with
        | nil => exact absurd (by simp) hn
        | cons n r => exact ⟨n, r, rfl⟩
      refine ⟨_, rfl, b, _, _, _, rfl, rfl, SqL.of hb1, atI_nat (j := 0) rfl, l, _, _, _, rfl, rfl, SqL.of hl1, atI_nat (j := 0) rfl, ?_⟩
      -- box[0][0] = number // many
      refine ⟨_, rfl, _, rfl, _, _, rfl, rfl, ⟨m0, by omega⟩, ?_⟩
      refine ⟨_, rfl, b, _, _, _, rfl, rfl, SqL.of hb1, atI_nat (j := 0) rfl, l, _, 0, 0, rfl, rfl, hl1, ixn rfl (by simp), ?_⟩
      have hb2 : ∀ o, upd (upd H e (.lst [])) l o b = some (.lst [.ref l, .int z]) := fun o => by rw [upd_ne B.ne]; exact hb1
      have hl2 : upd (upd H e (.lst [])) l (.lst ((il (n :: r)).set 0 (.int (n / m)))) l = some (.lst (il ((n / m) :: r))) := upd_same
      have s2 : But [b, l] H (upd (upd H e (.lst [])) l (.lst ((il (n :: r)).set 0 (.int (n / m))))) := s1.trans (But.put (by simp))
      have r0 : 0 ≤ n % m := Int.emod_nonneg _ (by omega)
      have r1 : n % m < m := Int.emod_lt_of_pos _ m0
      -- if box[0][0] == 0 or box[0][0] == -1
      refine ⟨_, rfl, b, _, _, _, rfl, rfl, SqL.of (hb2 _), atI_nat (j := 0) rfl, l, _, _, _, rfl, rfl, SqL.of hl2, atI_nat (j := 0) rfl, rfl, _, rfl, ?_⟩
      have pop : ∀ (σ : L2.St), ∀ D : Ends, σ[0]? = some (some (.ref b)) → (∀ H', But [b, l] H H' → BoxAt H' b l → D.nx σ H') → tDrop (tBM K "list" rPopAt (tOp (rIxL K) (tVar 0) (tC (.int 0))) (tCons (tC (.int 0)) tNil)) D σ (upd (upd H e (.lst [])) l (.lst ((il (n :: r)).set 0 (.int (n / m))))) := by
        intro σ D hσ hD
        refine ⟨_, hσ, b, _, _, _, rfl, rfl, SqL.of (hb2 _), atI_nat (j := 0) rfl, .inl ⟨rfl, _, SqL.of hl2⟩, l, _, 0, 0, _, rfl, rfl, hl2, by decide, by decide, seq_ix rfl (by simp), rfl, ?_⟩
        refine hD _ (s2.trans (But.put (by simp))) ⟨B.ne, r, z, ?_, upd_same, z0, z1⟩
        rw [upd_ne B.ne]
        exact hb2 _
      have out : ∀ H', But [b, l] H H' → BoxAt H' b l → tRet (tOp (rI (fun _ j => 0 < j) fun i j => V.int (i % j)) (tVar 2) (tVar 1)) { nx := fun _ H' => Q .non H', rt := Q } [some (.ref b), some (.int m), some (.int n)] H' := fun H' k1 B1 => by
        refine ⟨_, rfl, _, rfl, _, _, rfl, rfl, m0, ?_⟩
        exact k _ _ r0 r1 k1 B1
      refine ite2 (fun _ => iteT (pop _ _ rfl out)) (fun _ => ?_)
      refine ⟨_, rfl, b, _, _, _, rfl, rfl, SqL.of (hb2 _), atI_nat (j := 0) rfl, l, _, _, _, rfl, rfl, SqL.of hl2, atI_nat (j := 0) rfl, _, rfl, rfl, _, rfl, ?_⟩
      refine ite2 (fun _ => pop _ _ rfl out) (fun _ => ?_)
      exact out _ s2 ⟨B.ne, _, z, hb2 _, hl2, z0, z1⟩
/-! ### the box -/
theorem sc_law_begun : FnScope ["_law_script", "_law_stirred", "_law_cell"] ["_law_script"] (defScope (top 37)) := ⟨rfl, rfl, rfl, by decide +kernel, rfl, by decide +kernel, by decide +kernel⟩
theorem ok_law_begun (T : Prog K mg) : FnOk P w K mg base CX0 1 T.law_begun.f T.law_begun.fd ["_law_script"] (spBegun K) := by
  refine T.law_begun.fn.ok sc_law_begun (fun vs H Q E h => ?len) (fun cdv A outer s H vs Q E hr h => ?body)
  case len =>
    obtain ⟨a, ns, rfl, _⟩ := h
    rfl
  case body =>
    have hu := hu_of hr
    obtain ⟨a, ns, rfl, hS, hlen, k⟩ := h
    refine ⟨_, PSs.nox (pss_cons (ps_set (i := 1) sc_law_begun.nd rfl (Or.inl rfl) pe_int)
        (pss_cons (ps_for PassesOwn.never rfl (pi_list (pv 0)) (pg_name (i := 2) sc_law_begun.nd rfl (Or.inl rfl))
        (pss_one (ps_set (i := 1) sc_law_begun.nd rfl (Or.inl rfl) (pe_op op_mod (pe_op op_add (pe_op op_add (pe_op op_mul (pv 1) pe_int) (pe_op op_mul (pv 2) pe_int)) pe_int) pe_int))))
        (pss_one (ps_ret (pe_lst (pa_cons (pe_callTy call_list_of (by rfl) T.list_ (by decide +kernel) (pa_cons (pv 0) pa_nil)) (pa_cons (pe_op op_mul (pv 1) (pe_callTy call_int1 (by rfl) T.int_ (by decide +kernel) (pa_cons (pe_cmpR op_gt (pe_callB call_len_seq (by rfl) T.len PySem.boot_len (pa_cons (pv 0) pa_nil)) pe_int (nomark _)) pa_nil))) pa_nil))))))), ?_⟩
    refine ⟨_, rfl, a, rfl, ⟨_, hS⟩, for_list (K := K) (a := a) (xs := il ns) (fun i σ H2 => ∃ (z : Int) (v : Option V), σ = [some (.ref a), some (.int z), v] ∧ H2 = H ∧ 0 ≤ z ∧ z < 2147483647)
      ⟨0, none, rfl, rfl, by decide, by decide⟩ (fun i σ H2 _ ⟨_, _, _, e, _⟩ => by rw [e]; exact hS) ?_ ?_⟩
    · rintro i y σ H2 hi ⟨z, v, rfl, rfl, z0, z1⟩
      obtain ⟨n, _, rfl⟩ := il_get hi
      refine ⟨_, rfl, _, _, rfl, rfl, .inl ⟨by omega, by omega⟩, _, rfl, _, _, rfl, rfl, .inr ⟨by omega, by omega⟩, _, _, rfl, rfl, _, _, rfl, rfl, _, _, rfl, rfl, int0 (by decide), ?_⟩
      exact ⟨_, _, rfl, rfl, Int.emod_nonneg _ (by decide), Int.emod_lt_of_pos _ (by decide)⟩
    · rintro σ H2 ⟨z, v, rfl, rfl, z0, z1⟩
      refine ⟨_, rfl, a, _, rfl, .inl hS, fun l hl => ?_⟩
      have s1 : Same H2 (upd H2 l (.lst (il ns))) := Same.new hl
      refine ⟨_, rfl, _, rfl, a, _, rfl, .inl (s1.seq hS), _, _, rfl, rfl, .inr ⟨_, rfl, _, _, rfl, rfl, .inl ⟨by omega, by omega⟩, ?_⟩⟩
      refine ⟨szd rfl, fun b hb => ?_⟩
      have lb : l ≠ b := ne_fresh (H := upd H2 l (.lst (il ns))) upd_same hb
      have hl2 : upd (upd H2 l (.lst (il ns))) b (.lst [V.ref l, V.int (z * (if decide ((2 : Int) < ((il ns).length : Int)) = true then 1 else 0))]) l = some (.lst (il ns)) := by
        rw [upd_ne lb]
        exact upd_same
      refine k b l _ (Same.back s1 hb) hl (s1.trans (Same.new hb)) ⟨Ne.symm lb, ns, _, upd_same, hl2, ?_, ?_⟩
      · by_cases h2 : decide ((2 : Int) < ((il ns).length : Int)) = true
        · rw [if_pos h2]; omega
        · rw [if_neg h2]; omega
      · by_cases h2 : decide ((2 : Int) < ((il ns).length : Int)) = true
        · rw [if_pos h2]; omega
        · rw [if_neg h2]; omega
/-! ### a row -/
-- _law_row is not in this text
end
end CK

namespace CK
open PySem PySem.Spec PyProof.Rows L2
/-! ### two things that read as the same data are alike -/
mutual
/-- no list of it is longer than a thousand -/
def smallD : PyData → Prop
  | .list ds => ds.length ≤ 1000 ∧ smallAll ds
  | .tuple ds => ds.length ≤ 1000 ∧ smallAll ds
  | _ => True
def smallAll : List PyData → Prop
  | [] => True
  | d :: ds => smallD d ∧ smallAll ds
end
theorem small_at : ∀ {ds : List PyData} {i : Nat} {d : PyData}, smallAll ds → ds[i]? = some d → smallD d
  | [], _, _, _, h => by simp at h
  | a :: r, 0, d, s, h => by
    have e : a = d := Option.some.inj h
    rw [← e]
    exact s.1
  | a :: r, i + 1, d, s, h => small_at (ds := r) (i := i) s.2 h
def spAlike (K : PySem.W.Frag) (n : Nat) : Sp := fun vs H Q _ => ∃ (x y : V) (d : PyData), vs = [x, y] ∧ Dp K H x d ∧ Dp K H y d ∧ d.depth < n ∧ smallD d ∧ Q (.bl true) H
theorem dpAll_len {K : PySem.W.Frag} {H : Hp} : ∀ {xs : List V} {ds : List PyData}, DpAll K H xs ds → xs.length = ds.length
  | _, _, .nil => rfl
  | _, _, .cons _ t => congrArg Nat.succ (dpAll_len t)
theorem dpAll_at {K : PySem.W.Frag} {H : Hp} : ∀ {xs : List V} {ds : List PyData} {i : Nat}, DpAll K H xs ds → i < ds.length → ∃ x d, xs[i]? = some x ∧ ds[i]? = some d ∧ Dp K H x d
  | _, _, _, .nil, h => absurd h (Nat.not_lt_zero _)
  | x :: _, d :: _, 0, .cons a _, _ => ⟨x, d, rfl, rfl, a⟩
  | _ :: xs, _ :: ds, i + 1, .cons _ t, h => by
    obtain ⟨x, d, e1, e2, e3⟩ := dpAll_at (i := i) t (Nat.lt_of_succ_lt_succ h)
    exact ⟨x, d, e1, e2, e3⟩
theorem dep_at : ∀ {ds : List PyData} {i : Nat} {d : PyData}, ds[i]? = some d → d.depth ≤ PyData.depthAll ds
  | [], _, _, h => by simp at h
  | a :: r, 0, d, h => by
    have e : a = d := Option.some.inj h
    rw [← e]
    exact Nat.le_max_left _ _
  | a :: r, i + 1, d, h => Nat.le_trans (dep_at (ds := r) (i := i) h) (Nat.le_max_right _ _)
theorem ty_list {K : PySem.W.Frag} {H : Hp} {a : Addr} {xs : List V} (h : SqL K H a xs) : TyX K H (.ref a) (.type "list") := by
  rcases h with (h | ⟨o, h⟩) | ⟨o, its, n, hk, hc, _⟩
  · exact .base (.lst h)
  · exact .base (.frz h)
  · exact .kList hk hc
theorem ty_tup {K : PySem.W.Frag} {H : Hp} {a : Addr} {xs : List V} (h : SqT K H a xs) : TyX K H (.ref a) (.type "tuple") := by
  rcases h with (h | ⟨o, h⟩) | ⟨o, its, n, hk, hc, _⟩
  · exact .base (.tup h)
  · exact .fTuple h
  · exact .kTuple hk hc
section
variable {P : Program} {w : World} {K : PySem.W.Frag} {mg : Str → Option Value} {base : Heap}
theorem sc_law_alike : FnScope ["_law_found", "_law_due", "_law_k"] ["_law_found", "_law_due"] (defScope (top 39)) := ⟨rfl, rfl, rfl, by decide +kernel, rfl, by decide +kernel, by decide +kernel⟩
theorem ok_law_alike (T : Prog K mg) (n : Nat) (G_law_alike : FnOk P w K mg base CX0 n T.law_alike.f T.law_alike.fd ["_law_found", "_law_due"] (spAlike K n)) : FnOk P w K mg base CX0 (n + 1) T.law_alike.f T.law_alike.fd ["_law_found", "_law_due"] (spAlike K (n + 1)) := by
  refine T.law_alike.fn.ok sc_law_alike (fun vs H Q E h => ?len) (fun cdv A outer s H vs Q E hr h => ?body)
  case len =>
    obtain ⟨x, y, d, rfl, _⟩ := h
    rfl
  case body =>
    have hu := hu_of hr
    have hr_law_alike : Room n _ := hr
    obtain ⟨x, y, d, rfl, dx, dy, hn, hsm, k⟩ := h
    refine ⟨_, PSs.nox (pss_cons (ps_if (pt_cmpR op_isN (pv 1) pe_non (nomark _))
        (pss_one (ps_ret (pe_cmpR op_isN (pv 0) pe_non (nomark _))))
        pss_nil)
        (pss_cons (ps_if (pt_val (pe_callB call_isi (by rfl) T.isinstance (by decide +kernel) (pa_cons (pv 1) (pa_cons (pe_bltn (v := L2.V.ty "bool") (by rfl) T.bool_ (by decide +kernel) rfl) pa_nil))))
        (pss_one (ps_ret (pe_and (pe_callB call_isi (by rfl) T.isinstance (by decide +kernel) (pa_cons (pv 0) (pa_cons (pe_bltn (v := L2.V.ty "bool") (by rfl) T.bool_ (by decide +kernel) rfl) pa_nil))) (pe_one (pe_cmpR op_eq (pv 0) (pv 1) (nomark _))))))
        pss_nil)
        (pss_cons (ps_if (pt_val (pe_callB call_isi (by rfl) T.isinstance (by decide +kernel) (pa_cons (pv 1) (pa_cons (pe_bltn (v := L2.V.ty "int") (by rfl) T.int_ (by decide +kernel) rfl) pa_nil))))
        (pss_one (ps_ret (pe_and (pe_callB call_isi (by rfl) T.isinstance (by decide +kernel) (pa_cons (pv 0) (pa_cons (pe_bltn (v := L2.V.ty "int") (by rfl) T.int_ (by decide +kernel) rfl) pa_nil))) (pe_and (pe_not (pe_callB call_isi (by rfl) T.isinstance (by decide +kernel) (pa_cons (pv 0) (pa_cons (pe_bltn (v := L2.V.ty "bool") (by rfl) T.bool_ (by decide +kernel) rfl) pa_nil)))) (pe_one (pe_cmpR op_eq (pv 0) (pv 1) (nomark _)))))))
        pss_nil)
        (pss_cons (ps_if (pt_val (pe_callB call_isi (by rfl) T.isinstance (by decide +kernel) (pa_cons (pv 1) (pa_cons (pe_bltn (v := L2.V.ty "str") (by rfl) T.str_ (by decide +kernel) rfl) pa_nil))))
        (pss_one (ps_ret (pe_and (pe_callB call_isi (by rfl) T.isinstance (by decide +kernel) (pa_cons (pv 0) (pa_cons (pe_bltn (v := L2.V.ty "str") (by rfl) T.str_ (by decide +kernel) rfl) pa_nil))) (pe_one (pe_cmpR op_eq (pv 0) (pv 1) (nomark _))))))
        pss_nil)
        (pss_cons (ps_if (PW.pt (pw_or (pt_cmpR op_ne (pe_callB call_isi (by rfl) T.isinstance (by decide +kernel) (pa_cons (pv 1) (pa_cons (pe_bltn (v := L2.V.ty "tuple") (by rfl) T.tuple_ (by decide +kernel) rfl) pa_nil))) (pe_callB call_isi (by rfl) T.isinstance (by decide +kernel) (pa_cons (pv 0) (pa_cons (pe_bltn (v := L2.V.ty "tuple") (by rfl) T.tuple_ (by decide +kernel) rfl) pa_nil))) (nomark _)) (pw_or1 (pt_cmpR op_ne (pe_callB call_isi (by rfl) T.isinstance (by decide +kernel) (pa_cons (pv 1) (pa_cons (pe_bltn (v := L2.V.ty "list") (by rfl) T.list_ (by decide +kernel) rfl) pa_nil))) (pe_callB call_isi (by rfl) T.isinstance (by decide +kernel) (pa_cons (pv 0) (pa_cons (pe_bltn (v := L2.V.ty "list") (by rfl) T.list_ (by decide +kernel) rfl) pa_nil))) (nomark _)))))
        (pss_one (ps_ret pe_bl))
        pss_nil)
        (pss_cons (ps_if (pt_cmpR op_ne (pe_callB call_len_seq (by rfl) T.len PySem.boot_len (pa_cons (pv 0) pa_nil)) (pe_callB call_len_seq (by rfl) T.len PySem.boot_len (pa_cons (pv 1) pa_nil)) (nomark _))
        (pss_one (ps_ret pe_bl))
        pss_nil)
        (pss_cons (ps_for PassesOwn.never rfl (pi_range1 (by rfl) T.range (pa_cons (pe_callB call_len_seq (by rfl) T.len PySem.boot_len (pa_cons (pv 1) pa_nil)) pa_nil)) (pg_name (i := 2) sc_law_alike.nd rfl (Or.inl rfl))
        (pss_one (ps_if (pt_not (pt_val (pe_call G_law_alike hr_law_alike (by rfl) T.law_alike.g T.law_alike.fn.kp T.law_alike.bd .nil pass0 (pa_cons (pe_ix ix_seq (pv 0) (pv 2) (fun _ _ => rfl)) (pa_cons (pe_ix ix_seq (pv 1) (pv 2) (fun _ _ => rfl)) pa_nil)))))
        (pss_one (ps_ret pe_bl))
        pss_nil)))
        (pss_one (ps_ret pe_bl))))))))), ?_⟩
    refine ⟨_, rfl, rfl, _, rfl, ?_⟩
    cases dy with
    | non =>
      cases dx
      exact ifT rfl ⟨_, rfl, rfl, k⟩
    | bl c =>
      cases dx
      refine ifF rfl ⟨_, rfl, _, _, _, _, _, rfl, .ty _, .base (.bl _), kit_ty (by decide +kernel), _, rfl, iteT ?_⟩
      refine ⟨_, rfl, _, _, _, _, _, rfl, .ty _, .base (.bl _), kit_ty (by decide +kernel), _, rfl, iteT ?_⟩
      refine ⟨_, rfl, _, rfl, rfl, ?_⟩
      rw [decide_eq_true rfl]
      exact k
    | int i =>
      cases dx
      refine ifF rfl ⟨_, rfl, _, _, _, _, _, rfl, .ty _, .base (.int _), kit_ty (by decide +kernel), _, rfl, iteF ?_⟩
      refine ⟨_, rfl, _, _, _, _, _, rfl, .ty _, .base (.int _), kit_ty (by decide +kernel), _, rfl, iteT ?_⟩
      refine ⟨_, rfl, _, _, _, _, _, rfl, .ty _, .base (.int _), kit_ty (by decide +kernel), _, rfl, iteT ?_⟩
      refine ⟨_, rfl, _, _, _, _, _, rfl, .ty _, .base (.int _), kit_ty (r := false) (by decide +kernel), _, rfl, _, rfl, iteT ?_⟩
      refine ⟨_, rfl, _, rfl, rfl, ?_⟩
      rw [decide_eq_true rfl]
      exact k
    | str z =>
      cases dx
      refine ifF rfl ⟨_, rfl, _, _, _, _, _, rfl, .ty _, .base (.str _), kit_ty (by decide +kernel), _, rfl, iteF ?_⟩
      refine ⟨_, rfl, _, _, _, _, _, rfl, .ty _, .base (.str _), kit_ty (by decide +kernel), _, rfl, iteF ?_⟩
      refine ⟨_, rfl, _, _, _, _, _, rfl, .ty _, .base (.str _), kit_ty (by decide +kernel), _, rfl, iteT ?_⟩
      refine ⟨_, rfl, _, _, _, _, _, rfl, .ty _, .base (.str _), kit_ty (by decide +kernel), _, rfl, iteT ?_⟩
      refine ⟨_, rfl, _, rfl, rfl, ?_⟩
      rw [decide_eq_true rfl]
      exact k
    | @lst a xs ds ha hall =>
      cases dx with
      | @lst a' xs' _ ha' hall' =>
      refine ifF rfl ⟨_, rfl, _, _, _, _, _, rfl, .ty _, ty_list ha, kit_ty (by decide +kernel), _, rfl, iteF ?_⟩
      refine ⟨_, rfl, _, _, _, _, _, rfl, .ty _, ty_list ha, kit_ty (by decide +kernel), _, rfl, iteF ?_⟩
      refine ⟨_, rfl, _, _, _, _, _, rfl, .ty _, ty_list ha, kit_ty (by decide +kernel), _, rfl, iteF ?_⟩
      refine ⟨_, rfl, _, _, _, _, _, rfl, .ty _, ty_list ha, kit_ty (r := false) (by decide +kernel), _, rfl, _, _, _, _, _, rfl, .ty _, ty_list ha', kit_ty (r := false) (by decide +kernel), rfl, _, rfl, ?_⟩
      refine ifF rfl ⟨_, rfl, _, _, _, _, _, rfl, .ty _, ty_list ha, kit_ty (r := true) (by decide +kernel), _, rfl, _, _, _, _, _, rfl, .ty _, ty_list ha', kit_ty (r := true) (by decide +kernel), rfl, _, rfl, ?_⟩
      refine ifF rfl ?_
      have e1 := dpAll_len hall
      have e2 := dpAll_len hall'
      have hs1 : ds.length ≤ 1000 := hsm.1
      refine ⟨_, rfl, _, _, rfl, .inl ha', _, rfl, _, _, rfl, .inl ha, rfl, _, rfl, ?_⟩
      refine ifF (by rw [e1, e2]; simp) ?_
      refine ⟨_, rfl, _, _, rfl, .inl ha, _, rfl, by omega, by omega, ?_⟩
      refine for_range (lo := 0) (n := ((xs.length : Int)).toNat) (fun i σ H' => ∃ v, σ = [some (.ref a'), some (.ref a), v] ∧ H' = H) ⟨_, rfl, rfl⟩ ?_ ?_
      · rintro i σ H' hi ⟨v, rfl, rfl⟩
        have hi' : i < ds.length := by omega
        obtain ⟨x1, d1, f1, f2, f3⟩ := dpAll_at hall hi'
        obtain ⟨x2, d2, g1, g2, g3⟩ := dpAll_at hall' hi'
        have ed : d2 = d1 := Option.some.inj (g2.symm.trans f2)
        subst ed
        have hat1 : atI xs (0 + (i : Int)) = some x1 := by rw [Int.zero_add]; exact atI_nat f1
        have hat2 : atI xs' (0 + (i : Int)) = some x2 := by rw [Int.zero_add]; exact atI_nat g1
        have hdep : d2.depth < n := by
          have h1 := dep_at f2
          have h2 : PyData.depthAll ds + 1 < n + 1 := hn
          omega
        refine ⟨_, rfl, _, rfl, .inl ⟨_, _, _, _, rfl, rfl, ha', hat2, _, rfl, _, rfl, .inl ⟨_, _, _, _, rfl, rfl, ha, hat1, ?_⟩⟩⟩
        refine ⟨_, _, d2, rfl, g3, f3, hdep, small_at hsm.2 f2, _, rfl, ?_⟩
        exact iteF ⟨_, rfl, rfl⟩
      · rintro σ H' ⟨v, rfl, rfl⟩
        exact k
    | @tup a xs ds ha hall =>
      cases dx with
      | @tup a' xs' _ ha' hall' =>
      refine ifF rfl ⟨_, rfl, _, _, _, _, _, rfl, .ty _, ty_tup ha, kit_ty (by decide +kernel), _, rfl, iteF ?_⟩
      refine ⟨_, rfl, _, _, _, _, _, rfl, .ty _, ty_tup ha, kit_ty (by decide +kernel), _, rfl, iteF ?_⟩
      refine ⟨_, rfl, _, _, _, _, _, rfl, .ty _, ty_tup ha, kit_ty (by decide +kernel), _, rfl, iteF ?_⟩
      refine ⟨_, rfl, _, _, _, _, _, rfl, .ty _, ty_tup ha, kit_ty (r := true) (by decide +kernel), _, rfl, _, _, _, _, _, rfl, .ty _, ty_tup ha', kit_ty (r := true) (by decide +kernel), rfl, _, rfl, ?_⟩
      refine ifF rfl ⟨_, rfl, _, _, _, _, _, rfl, .ty _, ty_tup ha, kit_ty (r := false) (by decide +kernel), _, rfl, _, _, _, _, _, rfl, .ty _, ty_tup ha', kit_ty (r := false) (by decide +kernel), rfl, _, rfl, ?_⟩
      refine ifF rfl ?_
      have e1 := dpAll_len hall
      have e2 := dpAll_len hall'
      have hs1 : ds.length ≤ 1000 := hsm.1
      refine ⟨_, rfl, _, _, rfl, .inr ha', _, rfl, _, _, rfl, .inr ha, rfl, _, rfl, ?_⟩
      refine ifF (by rw [e1, e2]; simp) ?_
      refine ⟨_, rfl, _, _, rfl, .inr ha, _, rfl, by omega, by omega, ?_⟩
      refine for_range (lo := 0) (n := ((xs.length : Int)).toNat) (fun i σ H' => ∃ v, σ = [some (.ref a'), some (.ref a), v] ∧ H' = H) ⟨_, rfl, rfl⟩ ?_ ?_
      · rintro i σ H' hi ⟨v, rfl, rfl⟩
        have hi' : i < ds.length := by omega
        obtain ⟨x1, d1, f1, f2, f3⟩ := dpAll_at hall hi'
        obtain ⟨x2, d2, g1, g2, g3⟩ := dpAll_at hall' hi'
        have ed : d2 = d1 := Option.some.inj (g2.symm.trans f2)
        subst ed
        have hat1 : atI xs (0 + (i : Int)) = some x1 := by rw [Int.zero_add]; exact atI_nat f1
        have hat2 : atI xs' (0 + (i : Int)) = some x2 := by rw [Int.zero_add]; exact atI_nat g1
        have hdep : d2.depth < n := by
          have h1 := dep_at f2
          have h2 : PyData.depthAll ds + 1 < n + 1 := hn
          omega
        refine ⟨_, rfl, _, rfl, .inr (.inl ⟨_, _, _, _, rfl, rfl, ha', hat2, _, rfl, _, rfl, .inr (.inl ⟨_, _, _, _, rfl, rfl, ha, hat1, ?_⟩)⟩)⟩
        refine ⟨_, _, d2, rfl, g3, f3, hdep, small_at hsm.2 f2, _, rfl, ?_⟩
        exact iteF ⟨_, rfl, rfl⟩
      · rintro σ H' ⟨v, rfl, rfl⟩
        exact k
/-- so of any depth, by its levels -/
theorem ok_alike (T : Prog K mg) : ∀ n : Nat, FnOk P w K mg base CX0 n T.law_alike.f T.law_alike.fd ["_law_found", "_law_due"] (spAlike K n)
  | 0 => ⟨fun vs H Q E ⟨x, y, d, e, _⟩ => by rw [e]; rfl, fun A outer s H args us vs Q E _ _ _ _ ⟨x, y, d, _, _, _, h, _⟩ => absurd h (Nat.not_lt_zero _)⟩
  | n + 1 => ok_law_alike T n (ok_alike T n)
end
end CK

/-! The dial as plain data, and what an ask does to it. -/
namespace CK
structure DS where
  held : List (Option Int)
  marks : List Bool
  hand : Nat
  lacks : Nat
structure DS.WF (s : DS) (n : Nat) : Prop where
  h : s.held.length = n
  m : s.marks.length = n
  n : s.hand < n
def DS.new (n : Nat) : DS := ⟨List.replicate n none, List.replicate n false, 0, 0⟩
/-- the hand past the marked rooms: so many rounds at most -/
def passF : Nat → List Bool → Nat → List Bool × Nat × List Nat
  | 0, m, h => (m, h, [])
  | k + 1, m, h => if m[h]? = some true then
      let r := passF k (m.set h false) ((h + 1) % m.length)
      (r.1, r.2.1, h :: r.2.2)
    else (m, h, [])
def DS.pass (s : DS) : List Bool × Nat × List Nat := passF (s.marks.count true) s.marks s.hand
def DS.lack (s : DS) (p : Int) : DS :=
  ⟨s.held.set s.pass.2.1 (some p), s.pass.1.set s.pass.2.1 true, (s.pass.2.1 + 1) % s.held.length, s.lacks + 1⟩
def DS.hit (s : DS) (p : Int) : DS := { s with marks := s.marks.set (s.held.idxOf (some p)) true }
def DS.ask (s : DS) (p : Int) : DS := if some p ∈ s.held then s.hit p else s.lack p
/-- what an ask tells -/
def DS.tells (s : DS) (p : Int) : Bool × Option Int × List Nat :=
  if some p ∈ s.held then (false, none, []) else (true, (s.held[s.pass.2.1]?).getD none, s.pass.2.2)
def afterL (s : DS) (row : List Int) : DS := row.foldl DS.ask s
def tellsL : DS → List Int → List (Bool × Option Int × List Nat)
  | _, [] => []
  | s, p :: r => s.tells p :: tellsL (s.ask p) r
theorem afterL_snoc (s : DS) (xs : List Int) (p : Int) : afterL s (xs ++ [p]) = (afterL s xs).ask p := by
  unfold afterL
  rw [List.foldl_append]
  rfl
theorem tellsL_snoc : ∀ (s : DS) (xs : List Int) (p : Int), tellsL s (xs ++ [p]) = tellsL s xs ++ [(afterL s xs).tells p]
  | _, [], _ => rfl
  | s, x :: r, p => congrArg (s.tells x :: ·) (tellsL_snoc (s.ask x) r p)
theorem tellsL_len : ∀ (s : DS) (xs : List Int), (tellsL s xs).length = xs.length
  | _, [] => rfl
  | s, x :: r => congrArg Nat.succ (tellsL_len (s.ask x) r)
/-- the places of what is true -/
def placesT : Nat → List Bool → List Nat
  | _, [] => []
  | i, b :: r => if b = true then i :: placesT (i + 1) r else placesT (i + 1) r
theorem placesT_snoc : ∀ (i : Nat) (xs : List Bool) (b : Bool), placesT i (xs ++ [b]) = placesT i xs ++ (if b = true then [i + xs.length] else [])
  | i, [], b => by
    show (if b = true then i :: [] else []) = [] ++ _
    rfl
  | i, x :: r, b => by
    show (if x = true then i :: placesT (i + 1) (r ++ [b]) else placesT (i + 1) (r ++ [b])) = (if x = true then i :: placesT (i + 1) r else placesT (i + 1) r) ++ _
    rw [placesT_snoc (i + 1) r b]
    have e : i + 1 + r.length = i + (x :: r).length := by simp; omega
    rw [e]
    by_cases h : x = true
    · rw [if_pos h, if_pos h]; rfl
    · rw [if_neg h, if_neg h]
theorem placesT_le : ∀ (i : Nat) (xs : List Bool), (placesT i xs).length ≤ xs.length
  | _, [] => Nat.le_refl _
  | i, x :: r => by
    have q := placesT_le (i + 1) r
    unfold placesT
    split
    · simpa using q
    · simp; omega
/-- the line of the other rules -/
def lineStep (n : Nat) (re : Bool) (l : List Int) (p : Int) : List Int :=
  if p ∈ l then (if re = true then l.eraseIdx (l.idxOf p) ++ [p] else l) else (if l.length = n then l.eraseIdx 0 else l) ++ [p]
def lineAt (n : Nat) (re : Bool) (row : List Int) : List Int := row.foldl (lineStep n re) []
def lineL (n : Nat) (re : Bool) : List Int → List Int → List Bool
  | _, [] => []
  | l, p :: r => (!decide (p ∈ l)) :: lineL n re (lineStep n re l p) r
theorem lineAt_snoc (n : Nat) (re : Bool) (xs : List Int) (p : Int) : lineAt n re (xs ++ [p]) = lineStep n re (lineAt n re xs) p := by
  unfold lineAt
  rw [List.foldl_append]
  rfl
theorem lineL_snoc : ∀ (n : Nat) (re : Bool) (l xs : List Int) (p : Int), lineL n re l (xs ++ [p]) = lineL n re l xs ++ [!decide (p ∈ xs.foldl (lineStep n re) l)]
  | _, _, _, [], _ => rfl
  | n, re, l, x :: r, p => congrArg (_ :: ·) (lineL_snoc n re (lineStep n re l x) r p)
theorem lineL_len : ∀ (n : Nat) (re : Bool) (l xs : List Int), (lineL n re l xs).length = xs.length
  | _, _, _, [] => rfl
  | n, re, l, x :: r => congrArg Nat.succ (lineL_len n re (lineStep n re l x) r)
structure LineOk (n : Nat) (l : List Int) : Prop where
  nd : l.Nodup
  le : l.length ≤ n
theorem erase_line {l : List Int} (nd : l.Nodup) (p : Int) : l.eraseIdx (l.idxOf p) = l.filter (· != p) := by
  rw [← List.erase_eq_eraseIdx_of_idxOf (a := p) (l := l) (i := l.idxOf p) rfl]
  exact nd.erase_eq_filter p
theorem line_ok {n : Nat} {re : Bool} {l : List Int} {p : Int} (h : LineOk n l) (hn : 0 < n) : LineOk n (lineStep n re l p) := by
  unfold lineStep
  split
  · rename_i hp
    split
    · have hlt := List.idxOf_lt_length_of_mem hp
      have e := erase_line h.nd p
      refine ⟨?_, ?_⟩
      · rw [e]
        rw [List.nodup_append]
        refine ⟨h.nd.filter _, by simp, fun a ha b hb => ?_⟩
        have hb' : b = p := by simpa using hb
        have ha' : a ≠ p := by
          have := (List.mem_filter.mp ha).2
          simpa using this
        rw [hb']
        exact ha'
      · rw [List.length_append, List.length_eraseIdx_of_lt hlt]
        have := h.le
        simp
        omega
    · exact h
  · rename_i hp
    split
    · rename_i hl
      refine ⟨?_, ?_⟩
      · rw [List.nodup_append]
        refine ⟨h.nd.sublist (List.eraseIdx_sublist _ _), by simp, fun a ha b hb => ?_⟩
        have hb' : b = p := by simpa using hb
        intro z
        rw [z, hb'] at ha
        exact hp ((List.eraseIdx_sublist l 0).subset ha)
      · rw [List.length_append, List.length_eraseIdx_of_lt (by omega)]
        have := h.le
        simp
        omega
    · refine ⟨?_, ?_⟩
      · rw [List.nodup_append]
        refine ⟨h.nd, by simp, fun a ha b hb => ?_⟩
        have hb' : b = p := by simpa using hb
        intro z
        rw [z, hb'] at ha
        exact hp ha
      · rw [List.length_append]
        have := h.le
        simp
        omega
theorem lineAt_ok {n : Nat} {re : Bool} (hn : 0 < n) (row : List Int) : LineOk n (lineAt n re row) := by
  have q : ∀ (row l : List Int), LineOk n l → LineOk n (row.foldl (lineStep n re) l) := by
    intro row
    induction row with
    | nil => exact fun l h => h
    | cons p r ih => exact fun l h => ih _ (line_ok h hn)
  exact q row [] ⟨by simp, by simp⟩
/-- the lacks by a rule: which asks, their places -/
inductive Rl where
  | hand | unseen | first
def Rl.s : Rl → PySem.Str
  | .hand => "hand"
  | .unseen => "unseen"
  | .first => "first"
def lackB (n : Nat) : Rl → List Int → List Bool
  | .hand, row => (tellsL (DS.new n) row).map (·.1)
  | .unseen, row => lineL n true [] row
  | .first, row => lineL n false [] row
def lacksR (n : Nat) (rule : Rl) (row : List Int) : List Nat := placesT 0 (lackB n rule row)
/-- what the law's own going keeps by a rule -/
def keptR (n : Nat) : Rl → List Int → List Int
  | .hand, _ => []
  | .unseen, row => lineAt n true row
  | .first, row => lineAt n false row
def dialR (n : Nat) : Rl → List Int → DS
  | .hand, row => afterL (DS.new n) row
  | _, _ => DS.new n
def lackR (n : Nat) (rule : Rl) (row : List Int) (p : Int) : Bool := match rule with
  | .hand => ((afterL (DS.new n) row).tells p).1
  | _ => !decide (p ∈ keptR n rule row)
theorem lackB_snoc (n : Nat) (rule : Rl) (row : List Int) (p : Int) : lackB n rule (row ++ [p]) = lackB n rule row ++ [lackR n rule row p] := by
  cases rule
  · show (tellsL (DS.new n) (row ++ [p])).map (·.1) = _
    rw [tellsL_snoc, List.map_append]
    rfl
  · exact lineL_snoc n true [] row p
  · exact lineL_snoc n false [] row p
theorem lackB_len (n : Nat) (rule : Rl) (row : List Int) : (lackB n rule row).length = row.length := by
  cases rule
  · show ((tellsL (DS.new n) row).map (·.1)).length = _
    rw [List.length_map, tellsL_len]
  · exact lineL_len _ _ _ _
  · exact lineL_len _ _ _ _
theorem lacksR_le (n : Nat) (rule : Rl) (row : List Int) : (lacksR n rule row).length ≤ row.length := by
  have q := placesT_le 0 (lackB n rule row)
  rw [lackB_len] at q
  exact q
theorem count_set {m : List Bool} {h : Nat} (e : m[h]? = some true) : (m.set h false).count true + 1 = m.count true := by
  induction m generalizing h with
  | nil => simp at e
  | cons a r ih =>
    cases h with
    | zero =>
      have ea : a = true := Option.some.inj e
      subst ea
      simp
    | succ h =>
      have e' : r[h]? = some true := e
      have q := ih e'
      simp only [List.set_cons_succ, List.count_cons]
      omega
theorem count_pos {m : List Bool} {h : Nat} (e : m[h]? = some true) : 0 < m.count true := by
  have := count_set e
  omega
theorem passF_len : ∀ (k : Nat) (m : List Bool) (h : Nat), (passF k m h).1.length = m.length
  | 0, _, _ => rfl
  | k + 1, m, h => by
    unfold passF
    split
    · have q := passF_len k (m.set h false) ((h + 1) % m.length)
      rw [List.length_set] at q
      exact q
    · rfl
theorem passF_lt : ∀ (k : Nat) (m : List Bool) (h : Nat), h < m.length → (passF k m h).2.1 < m.length
  | 0, _, _, l => l
  | k + 1, m, h, l => by
    unfold passF
    split
    · have q := passF_lt k (m.set h false) ((h + 1) % m.length) (by rw [List.length_set]; exact Nat.mod_lt _ (by omega))
      rw [List.length_set] at q
      exact q
    · exact l
/-- the loop's own word: from (m, h), with l passed so far, the end is e -/
structure PassInv (e : List Bool × Nat × List Nat) (m : List Bool) (h : Nat) (l : List Nat) : Prop where
  a : (passF (m.count true) m h).1 = e.1
  b : (passF (m.count true) m h).2.1 = e.2.1
  c : l ++ (passF (m.count true) m h).2.2 = e.2.2
theorem PassInv.start (m : List Bool) (h : Nat) : PassInv (passF (m.count true) m h) m h [] := ⟨rfl, rfl, rfl⟩
theorem passF_step {m : List Bool} {h : Nat} (e : m[h]? = some true) : passF (m.count true) m h =
    ((passF ((m.set h false).count true) (m.set h false) ((h + 1) % m.length)).1, (passF ((m.set h false).count true) (m.set h false) ((h + 1) % m.length)).2.1, h :: (passF ((m.set h false).count true) (m.set h false) ((h + 1) % m.length)).2.2) := by
  rw [← count_set e]
  show (if m[h]? = some true then _ else _) = _
  rw [if_pos e]
theorem passF_stop {m : List Bool} {h k : Nat} (e : m[h]? = some false) : passF k m h = (m, h, []) := by
  cases k with
  | zero => rfl
  | succ k =>
    show (if m[h]? = some true then _ else _) = _
    rw [if_neg (by rw [e]; simp)]
theorem PassInv.go {e : List Bool × Nat × List Nat} {m : List Bool} {h : Nat} {l : List Nat} (I : PassInv e m h l) (t : m[h]? = some true) : PassInv e (m.set h false) ((h + 1) % m.length) (l ++ [h]) := by
  obtain ⟨a, b, c⟩ := I
  rw [passF_step t] at a b c
  refine ⟨a, b, ?_⟩
  rw [← c, List.append_assoc]
  rfl
theorem PassInv.end {e : List Bool × Nat × List Nat} {m : List Bool} {h : Nat} {l : List Nat} (I : PassInv e m h l) (t : m[h]? = some false) : e = (m, h, l) := by
  obtain ⟨a, b, c⟩ := I
  rw [passF_stop t] at a b c
  obtain ⟨x, y, z⟩ := e
  simp only [List.append_nil] at a b c
  rw [a, b, c]
theorem DS.WF.pos {s : DS} {n : Nat} (w : s.WF n) : 0 < n := Nat.lt_of_le_of_lt (Nat.zero_le _) w.n
theorem DS.WF.passlt {s : DS} {n : Nat} (w : s.WF n) : s.pass.2.1 < n := by
  have q := passF_lt (s.marks.count true) s.marks s.hand (by rw [w.m]; exact w.n)
  rw [w.m] at q
  exact q
theorem DS.WF.passm {s : DS} {n : Nat} (w : s.WF n) : s.pass.1.length = n := by
  have q := passF_len (s.marks.count true) s.marks s.hand
  rw [w.m] at q
  exact q
theorem DS.new_wf {n : Nat} (h : 0 < n) : (DS.new n).WF n := ⟨List.length_replicate, List.length_replicate, h⟩
theorem DS.lack_wf {s : DS} {n : Nat} {p : Int} (w : s.WF n) : (s.lack p).WF n := by
  refine ⟨?_, ?_, ?_⟩
  · show (s.held.set _ _).length = n
    rw [List.length_set]; exact w.h
  · show (s.pass.1.set _ _).length = n
    rw [List.length_set]; exact w.passm
  · show (s.pass.2.1 + 1) % s.held.length < n
    rw [w.h]; exact Nat.mod_lt _ w.pos
theorem DS.hit_wf {s : DS} {n : Nat} {p : Int} (w : s.WF n) : (s.hit p).WF n :=
  ⟨w.h, by show (s.marks.set _ _).length = n; rw [List.length_set]; exact w.m, w.n⟩
theorem DS.ask_wf {s : DS} {n : Nat} {p : Int} (w : s.WF n) : (s.ask p).WF n := by
  unfold DS.ask
  split
  · exact hit_wf w
  · exact lack_wf w
theorem afterL_wf {s : DS} {n : Nat} (w : s.WF n) : ∀ row : List Int, (afterL s row).WF n := by
  intro row
  induction row generalizing s with
  | nil => exact w
  | cons p r ih => exact ih (DS.ask_wf w)
/-- the first place of a thing -/
theorem idx_at {α : Type} [BEq α] [LawfulBEq α] {l : List α} {x : α} (h : x ∈ l) : l[l.idxOf x]? = some x := by
  have q := List.idxOf_lt_length_of_mem h
  rw [List.getElem?_eq_getElem q]
  exact congrArg some (List.getElem_idxOf q)
theorem idx_no {α : Type} [BEq α] [LawfulBEq α] : ∀ {l : List α} {x y : α} {m : Nat}, m < l.idxOf x → l[m]? = some y → ¬ y = x
  | [], _, _, _, h, _ => by simp at h
  | a :: r, x, y, m, h, e => by
    intro q
    subst q
    by_cases ha : a = y
    · subst ha
      simp [List.idxOf_cons] at h
    · have hb : (a == y) = false := by simpa using ha
      rw [List.idxOf_cons, hb] at h
      cases m with
      | zero => exact ha (Option.some.inj e)
      | succ m => exact idx_no (l := r) (m := m) (by simpa using h) e rfl
theorem take_snoc {α : Type} {l : List α} {i : Nat} {x : α} (h : l[i]? = some x) : l.take (i + 1) = l.take i ++ [x] := by
  rw [List.take_add_one, h]
  rfl
/-! ### as values -/
open PySem L2
def pgV : Option Int → V
  | none => .non
  | some p => .int p
abbrev HL (l : List (Option Int)) : List V := l.map pgV
abbrev BL (l : List Bool) : List V := l.map V.bl
theorem flat_hl (l : List (Option Int)) : (HL l).all flatV = true := by
  rw [List.all_eq_true]
  intro x hx
  obtain ⟨n, _, rfl⟩ := List.mem_map.mp hx
  cases n <;> rfl
theorem eqV_pg (a : Option Int) (p : Int) : eqV (pgV a) (.int p) = decide (a = some p) := by
  cases a with
  | none => rfl
  | some n =>
    show (n == p) = _
    by_cases h : n = p <;> simp [h]
theorem inV_hl (p : Int) (l : List (Option Int)) : inV (V.int p) (HL l) = decide (some p ∈ l) := by
  induction l with
  | nil => rfl
  | cons a r ih =>
    show (eqV (pgV a) (V.int p) || inV (V.int p) (HL r)) = _
    rw [ih, eqV_pg]
    by_cases h : a = some p
    · simp [h]
    · have h2 : ¬ some p = a := fun z => h z.symm
      simp [h, h2]
theorem hl_set {l : List (Option Int)} {j : Nat} {p : Int} : (HL l).set j (V.int p) = HL (l.set j (some p)) := by
  show (l.map pgV).set j (pgV (some p)) = (l.set j (some p)).map pgV
  rw [List.map_set]
theorem bl_set {l : List Bool} {j : Nat} {b : Bool} : (BL l).set j (V.bl b) = BL (l.set j b) := by
  show (l.map V.bl).set j (V.bl b) = (l.set j b).map V.bl
  rw [List.map_set]
theorem bl_at {l : List Bool} {j : Nat} {b : Bool} (h : l[j]? = some b) : (BL l)[j]? = some (V.bl b) := by
  rw [List.getElem?_map, h]
  rfl
theorem hl_at {l : List (Option Int)} {j : Nat} {b : Option Int} (h : l[j]? = some b) : (HL l)[j]? = some (pgV b) := by
  rw [List.getElem?_map, h]
  rfl
abbrev NL (l : List Nat) : List V := l.map fun n : Nat => V.int (n : Int)
/-- rReps: n times one thing -/
theorem rep_one {x : V} {n : Nat} : (List.replicate n [x]).flatten = List.replicate n x := by
  induction n with
  | zero => rfl
  | succ n ih =>
    rw [List.replicate_succ, List.flatten_cons, ih, List.replicate_succ]
    rfl
theorem hl_new (n : Nat) : HL (DS.new n).held = List.replicate n .non := by
  show (List.replicate n none).map pgV = _
  rw [List.map_replicate]
  rfl
theorem bl_new (n : Nat) : BL (DS.new n).marks = List.replicate n (.bl false) := by
  show (List.replicate n false).map V.bl = _
  rw [List.map_replicate]
end CK

/-! The program's checks. -/
namespace CK
open PySem PySem.Spec PyProof.Rows L2
theorem NL_snoc {ns : List Nat} {n : Nat} : NL ns ++ [V.int (n : Int)] = NL (ns ++ [n]) := by
  show ns.map _ ++ _ = (ns ++ [n]).map _
  rw [List.map_append]
  rfl
theorem NL_il (ns : List Nat) : NL ns = il (ns.map fun n : Nat => (n : Int)) := by
  show ns.map _ = (ns.map _).map V.int
  rw [List.map_map]
  rfl
theorem NL_at {ns : List Nat} {j : Nat} {y : V} (h : (NL ns)[j]? = some y) : ∃ n, ns[j]? = some n ∧ y = V.int (n : Int) := by
  rw [List.getElem?_map] at h
  cases e : ns[j]? with
  | none => rw [e] at h; cases h
  | some n => rw [e] at h; exact ⟨n, rfl, (Option.some.inj h).symm⟩
abbrev rLenQ (K : PySem.W.Frag) : List V → Hp → VK → Prop := fun xs H Q => ∃ p ys, xs = [.ref p] ∧ (SqL K H p ys ∨ SqT K H p ys) ∧ Q (.int ys.length) H
/-! ### places in the text -/
def sub (s : Stmt) (i : Nat) : Stmt := match s with
  | .FunctionDef _ _ b _ _ _ _ _ _ _ => b.getD i (.Pass ⟨0, 0, 0, 0⟩)
  | .For _ _ b _ _ => b.getD i (.Pass ⟨0, 0, 0, 0⟩)
  | .While _ b _ _ => b.getD i (.Pass ⟨0, 0, 0, 0⟩)
  | .If _ b o _ => (b ++ o).getD i (.Pass ⟨0, 0, 0, 0⟩)
  | s => s
def valE : Stmt → Expr
  | .Return (some e) _ => e
  | .Assign _ e _ => e
  | .Expr e _ => e
  | _ => .Name "" ⟨0, 0, 0, 0⟩
def lcSc : Expr → Scope
  | .ListComp _ _ sc _ => sc
  | _ => { kind := .function, names := [], isGenerator := false, isCoroutine := false }
theorem BoxAt.off {H : Hp} {b l c : Addr} (B : BoxAt H b l) (h : H c = none) : c ∉ [b, l] := by
  obtain ⟨_, _, q1, q2, _⟩ := B.ex
  have z1 := ne_fresh q1 h
  have z2 := ne_fresh q2 h
  simp [Ne.symm z1, Ne.symm z2]
theorem BoxAt.notup {H : Hp} {b l : Addr} (B : BoxAt H b l) : ∀ d ∈ [b, l], ∀ u, H d ≠ some (.tup u) := by
  obtain ⟨_, _, q1, q2, _⟩ := B.ex
  intro d hd u z
  rcases List.mem_cons.mp hd with e | e
  · rw [e, q1] at z; cases z
  · rw [List.mem_singleton.mp e, q2] at z; cases z
def spCheckRooms : Sp := fun vs H Q _ => ∃ n : Int, vs = [.int n] ∧ 1 ≤ n ∧ n ≤ 8 ∧ Q .non H
def spIsPage : Sp := fun vs H Q _ => ∃ p : Int, vs = [.int p] ∧ Q (.bl (decide (0 ≤ p ∧ p < 12))) H
/-- a row as it may be handed in -/
def RowOk (row : List Int) : Prop := row.length ≤ 100 ∧ ∀ p ∈ row, 0 ≤ p ∧ p < 12
def spCheckRow (K : PySem.W.Frag) : Sp := fun vs H Q _ => ∃ (r : Addr) (row : List Int), vs = [.ref r] ∧ SqL K H r (il row) ∧ RowOk row ∧ ∀ H', Same H H' → Q .non H'
def spLaw (K : PySem.W.Frag) : Sp := fun vs H Q _ => ∃ (a : Addr) (ns : List Int), vs = [.ref a] ∧ SqL K H a (il ns) ∧ ns.length ≤ 63 ∧ ∀ H', Q (.bl true) H'
theorem depth_pd (a : List Int) : (pd a).depth = 1 := by
  show PyData.depthAll _ + 1 = 1
  rw [dep_il]
theorem small_ints : ∀ a : List Int, smallAll (a.map PyData.int)
  | [] => trivial
  | _ :: r => ⟨trivial, small_ints r⟩
theorem small_pd {a : List Int} (h : a.length ≤ 1000) : smallD (pd a) := ⟨by rw [List.length_map]; exact h, small_ints a⟩
section
variable {P : Program} {w : World} {K : PySem.W.Frag} {mg : Str → Option Value} {base : Heap}
theorem sc_check_rooms : FnScope ["rooms"] ["rooms"] (defScope (top 10)) := ⟨rfl, rfl, rfl, by decide +kernel, rfl, by decide +kernel, by decide +kernel⟩
theorem ok_check_rooms (T : Prog K mg) : FnOk P w K mg base CX0 1 T.check_rooms.f T.check_rooms.fd ["rooms"] spCheckRooms := by
  refine T.check_rooms.fn.ok sc_check_rooms (fun vs H Q E h => ?len) (fun cdv A outer s H vs Q E hr h => ?body)
  case len =>
    obtain ⟨n, rfl, _⟩ := h
    rfl
  case body =>
    have hu := hu_of hr
    obtain ⟨n, rfl, n1, n8, k⟩ := h
    refine ⟨_, PSs.nox (pss_one (ps_if (pt_not (pt_chain op_le op_le pe_int (pv 0) (pe_glob (v := L2.V.int 8) rfl T.g_MOST_ROOMS ⟨_, rfl⟩)))
        (pss_one ps_never)
        pss_nil)), ?_⟩
    refine ⟨_, rfl, _, _, rfl, rfl, _, rfl, ifT (decide_eq_true n1) ⟨_, _, rfl, rfl, _, rfl, ?_⟩⟩
    exact ifF (by rw [decide_eq_true n8]; rfl) k
theorem sc_is_page : FnScope ["page"] ["page"] (defScope (top 11)) := ⟨rfl, rfl, rfl, by decide +kernel, rfl, by decide +kernel, by decide +kernel⟩
theorem ok_is_page (T : Prog K mg) : FnOk P w K mg base CX0 1 T.is_page.f T.is_page.fd ["page"] spIsPage := by
  refine T.is_page.fn.ok sc_is_page (fun vs H Q E h => ?len) (fun cdv A outer s H vs Q E hr h => ?body)
  case len =>
    obtain ⟨n, rfl, _⟩ := h
    rfl
  case body =>
    have hu := hu_of hr
    obtain ⟨p, rfl, k⟩ := h
    refine ⟨_, PSs.nox (pss_one (ps_ret (pe_chain op_le op_lt pe_int (pv 0) (pe_glob (v := L2.V.int 12) rfl T.g_PAGES ⟨_, rfl⟩)))), ?_⟩
    refine ⟨_, rfl, _, _, rfl, rfl, _, rfl, ?_⟩
    by_cases h0 : 0 ≤ p
    · refine ifT (decide_eq_true h0) ⟨_, _, rfl, rfl, ?_⟩
      have e : decide (p < 12) = decide (0 ≤ p ∧ p < 12) := by simp [h0]
      rw [← e] at k
      exact k
    · refine ifF (decide_eq_false h0) ?_
      have e : false = decide (0 ≤ p ∧ p < 12) := by simp [h0]
      rw [← e] at k
      exact k
-- check_row is not in this text
end
end CK

/-! Spells as plain data. -/
namespace CK
open PySem PySem.Spec PyProof.Rows L2
/-- where p was asked for last, ahead of i -/
def lastB (row : List Int) (p : Int) : Nat → Option Nat
  | 0 => none
  | i + 1 => if row[i]? = some p then some i else lastB row p i
theorem lastB_lt {row : List Int} {p : Int} : ∀ {i b : Nat}, lastB row p i = some b → b < i ∧ row[b]? = some p
  | 0, b, h => by cases h
  | i + 1, b, h => by
    unfold lastB at h
    by_cases q : row[i]? = some p
    · rw [if_pos q] at h
      have e := Option.some.inj h
      subst e
      exact ⟨Nat.lt_succ_self _, q⟩
    · rw [if_neg q] at h
      have ⟨z1, z2⟩ := lastB_lt h
      exact ⟨Nat.lt_succ_of_lt z1, z2⟩
def spOf : Option Nat → Nat → List (Nat × Nat)
  | some b, i => [(b, i)]
  | none, _ => []
/-- the spell that ends at i -/
def spellAt (row : List Int) (i : Nat) : List (Nat × Nat) :=
  match row[i]? with
  | some p => spOf (lastB row p i) i
  | none => []
theorem spellAt_eq {row : List Int} {i : Nat} {p : Int} (hp : row[i]? = some p) : spellAt row i = spOf (lastB row p i) i := by
  unfold spellAt
  rw [hp]
def spellsTo (row : List Int) : Nat → List (Nat × Nat)
  | 0 => []
  | i + 1 => spellsTo row i ++ spellAt row i
def spellsL (row : List Int) : List (Nat × Nat) := spellsTo row row.length
theorem spellAt_one (row : List Int) (i : Nat) : (spellAt row i).length ≤ 1 := by
  cases hp : row[i]? with
  | none => unfold spellAt; rw [hp]; exact Nat.zero_le _
  | some p =>
    rw [spellAt_eq hp]
    cases lastB row p i with
    | none => exact Nat.zero_le _
    | some b => exact Nat.le_refl _
theorem spellsTo_le (row : List Int) : ∀ i, (spellsTo row i).length ≤ i
  | 0 => Nat.le_refl _
  | i + 1 => by
    have h1 := spellsTo_le row i
    have h2 := spellAt_one row i
    show (spellsTo row i ++ spellAt row i).length ≤ i + 1
    rw [List.length_append]
    omega
theorem spellsL_le (row : List Int) : (spellsL row).length ≤ row.length := spellsTo_le row _
theorem spellAt_lt {row : List Int} {i : Nat} {x : Nat × Nat} (h : x ∈ spellAt row i) : x.1 < x.2 ∧ x.2 = i := by
  cases hp : row[i]? with
  | none => unfold spellAt at h; rw [hp] at h; simp at h
  | some p =>
    rw [spellAt_eq hp] at h
    cases hb : lastB row p i with
    | none => rw [hb] at h; simp [spOf] at h
    | some b =>
      rw [hb] at h
      have e : x = (b, i) := by simpa [spOf] using h
      rw [e]
      exact ⟨(lastB_lt hb).1, rfl⟩
/-! ### lists of pairs -/
/-- the tuples at as are the pairs xs -/
structure PairsAt (H : Hp) (as : List Addr) (xs : List (Nat × Nat)) : Prop where
  len : as.length = xs.length
  at_ : ∀ (i : Nat) (a : Addr) (x : Nat × Nat), as[i]? = some a → xs[i]? = some x → H a = some (.tup [.int (x.1 : Nat), .int (x.2 : Nat)])
theorem PairsAt.nil {H : Hp} : PairsAt H [] [] := ⟨rfl, fun i a x h => by simp at h⟩
theorem PairsAt.mem {H : Hp} {as : List Addr} {xs : List (Nat × Nat)} (h : PairsAt H as xs) {a : Addr} (ha : a ∈ as) : ∃ u, H a = some (.tup u) := by
  obtain ⟨i, hi, e⟩ := List.mem_iff_getElem.mp ha
  have hx : i < xs.length := by rw [← h.len]; exact hi
  exact ⟨_, h.at_ i a _ (by rw [List.getElem?_eq_getElem hi, e]) (List.getElem?_eq_getElem hx)⟩
theorem PairsAt.same {H H' : Hp} {as : List Addr} {xs : List (Nat × Nat)} (h : PairsAt H as xs) (k : Same H H') : PairsAt H' as xs :=
  ⟨h.len, fun i a x ha hx => k _ _ (h.at_ i a x ha hx)⟩
/-- a list that is written is none of the tuples -/
theorem PairsAt.put {H : Hp} {as : List Addr} {xs : List (Nat × Nat)} (h : PairsAt H as xs) {d : Addr} {o o' : HO} (e : H d = some o) (ne : ∀ u, o ≠ .tup u) : PairsAt (upd H d o') as xs :=
  ⟨h.len, fun i a x ha hx => by
    have q := h.at_ i a x ha hx
    rw [upd_ne (ne_of q e fun z => ne _ z.symm)]
    exact q⟩
theorem PairsAt.but {S : List Addr} {H H' : Hp} {as : List Addr} {xs : List (Nat × Nat)} (h : PairsAt H as xs) (k : But S H H') (n : ∀ d ∈ S, ∀ u, H d ≠ some (.tup u)) : PairsAt H' as xs :=
  ⟨h.len, fun i a x ha hx => by
    have q := h.at_ i a x ha hx
    exact k _ _ q fun z => n _ z _ q⟩
theorem PairsAt.snoc {H : Hp} {as : List Addr} {xs : List (Nat × Nat)} (h : PairsAt H as xs) {t : Addr} {x : Nat × Nat} (e : H t = some (.tup [.int (x.1 : Nat), .int (x.2 : Nat)])) : PairsAt H (as ++ [t]) (xs ++ [x]) := by
  refine ⟨by simp [h.len], fun j c y hc hy => ?_⟩
  by_cases hj : j < as.length
  · rw [List.getElem?_append_left hj] at hc
    rw [List.getElem?_append_left (by rw [← h.len]; exact hj)] at hy
    exact h.at_ j c y hc hy
  · have ej : j = as.length := by
      have := (List.getElem?_eq_some_iff.mp hc).1
      simp at this
      omega
    subst ej
    rw [List.getElem?_append_right (Nat.le_refl _), Nat.sub_self] at hc
    rw [List.getElem?_append_right (by rw [h.len]; exact Nat.le_refl _), h.len, Nat.sub_self] at hy
    have ec : t = c := Option.some.inj hc
    have ex : x = y := Option.some.inj hy
    rw [← ec, ← ex]
    exact e
theorem PairsAt.tail {H : Hp} {a : Addr} {x : Nat × Nat} {as : List Addr} {xs : List (Nat × Nat)} (h : PairsAt H (a :: as) (x :: xs)) : H a = some (.tup [.int (x.1 : Nat), .int (x.2 : Nat)]) ∧ PairsAt H as xs :=
  ⟨h.at_ 0 a x rfl rfl, Nat.succ.inj h.len, fun i c y hc hy => h.at_ (i + 1) c y hc hy⟩
theorem PairsAt.app {H : Hp} : ∀ {as bs : List Addr} {xs ys : List (Nat × Nat)}, PairsAt H as xs → PairsAt H bs ys → PairsAt H (as ++ bs) (xs ++ ys) := by
  intro as bs
  induction bs generalizing as with
  | nil =>
    intro xs ys h1 h2
    cases ys with
    | nil => rw [List.append_nil, List.append_nil]; exact h1
    | cons y ys => exact absurd h2.len (by simp)
  | cons b bs ih =>
    intro xs ys h1 h2
    cases ys with
    | nil => exact absurd h2.len (by simp)
    | cons y ys =>
      have q := ih (h1.snoc h2.tail.1) h2.tail.2
      rw [List.append_assoc, List.append_assoc] at q
      exact q
/-! ### pairs as data -/
def pdp (x : Nat × Nat) : PyData := .tuple [.int (x.1 : Nat), .int (x.2 : Nat)]
def pds (xs : List (Nat × Nat)) : PyData := .list (xs.map pdp)
theorem dp_pairsAll {K : PySem.W.Frag} {H : Hp} : ∀ {as : List Addr} {xs : List (Nat × Nat)}, PairsAt H as xs → DpAll K H (as.map V.ref) (xs.map pdp)
  | [], [], _ => .nil
  | [], _ :: _, h => absurd h.len (by simp)
  | _ :: _, [], h => absurd h.len (by simp)
  | a :: as, x :: xs, h => .cons (.tup (SqT.of h.tail.1) (.cons (.int _) (.cons (.int _) .nil))) (dp_pairsAll h.tail.2)
theorem dp_pairs {K : PySem.W.Frag} {H : Hp} {d : Addr} {as : List Addr} {xs : List (Nat × Nat)} (e : SqL K H d (as.map V.ref)) (h : PairsAt H as xs) : Dp K H (.ref d) (pds xs) := .lst e (dp_pairsAll h)
theorem depAll_pairs : ∀ xs : List (Nat × Nat), PyData.depthAll (xs.map pdp) ≤ 1
  | [] => Nat.zero_le _
  | x :: xs => Nat.max_le.mpr ⟨Nat.le_refl _, depAll_pairs xs⟩
theorem depth_pds (xs : List (Nat × Nat)) : (pds xs).depth ≤ 2 := Nat.succ_le_succ (depAll_pairs xs)
theorem small_pairsAll : ∀ xs : List (Nat × Nat), smallAll (xs.map pdp)
  | [] => trivial
  | _ :: xs => ⟨⟨by show 2 ≤ 1000; decide, trivial, trivial, trivial⟩, small_pairsAll xs⟩
theorem small_pds {xs : List (Nat × Nat)} (h : xs.length ≤ 1000) : smallD (pds xs) := ⟨by rw [List.length_map]; exact h, small_pairsAll xs⟩
end CK

/-! The best, as plain data. -/
namespace CK
open PySem PySem.Spec PyProof.Rows L2
theorem lastB_max {row : List Int} {p : Int} : ∀ {e b : Nat}, lastB row p e = some b → ∀ j, b < j → j < e → row[j]? ≠ some p
  | 0, b, h, _, _, _ => by cases h
  | e + 1, b, h, j, hj, hl => by
    unfold lastB at h
    by_cases q : row[e]? = some p
    · rw [if_pos q] at h
      have e1 := Option.some.inj h
      omega
    · rw [if_neg q] at h
      by_cases z : j = e
      · rw [z]; exact q
      · exact lastB_max h j hj (by omega)
theorem lastB_some {row : List Int} {p : Int} {i : Nat} (hi : row[i]? = some p) : ∀ {e : Nat}, i < e → ∃ b, lastB row p e = some b ∧ i ≤ b
  | 0, h => absurd h (Nat.not_lt_zero _)
  | e + 1, h => by
    unfold lastB
    by_cases q : row[e]? = some p
    · rw [if_pos q]
      exact ⟨e, rfl, by omega⟩
    · rw [if_neg q]
      have z : i ≠ e := fun z => q (by rw [← z]; exact hi)
      exact lastB_some hi (by omega)
/-- the place of the next ask for y, from i on; the number of asks where there is none -/
def nxt (row : List Int) (y : Int) (i : Nat) : Nat := i + (row.drop i).idxOf y
theorem drop_at {row : List Int} {i : Nat} {p : Int} (h : row[i]? = some p) : row.drop i = p :: row.drop (i + 1) := by
  have hi := (List.getElem?_eq_some_iff.mp h).1
  rw [List.drop_eq_getElem_cons hi, (List.getElem?_eq_some_iff.mp h).2]
theorem nxt_ge (row : List Int) (y : Int) (i : Nat) : i ≤ nxt row y i := Nat.le_add_right _ _
theorem nxt_le {row : List Int} {y : Int} {i : Nat} (h : i ≤ row.length) : nxt row y i ≤ row.length := by
  have := List.idxOf_le_length (a := y) (l := row.drop i)
  rw [List.length_drop] at this
  unfold nxt
  omega
theorem nxt_hit {row : List Int} {i : Nat} {p : Int} (h : row[i]? = some p) : nxt row p i = i := by
  unfold nxt
  rw [drop_at h, List.idxOf_cons_self]
  rfl
theorem nxt_on {row : List Int} {i : Nat} {p y : Int} (h : row[i]? = some p) (ne : y ≠ p) : nxt row y i = nxt row y (i + 1) := by
  unfold nxt
  rw [drop_at h, List.idxOf_cons]
  have e : (p == y) = false := by simpa using fun z => ne z.symm
  rw [e]
  show i + ((row.drop (i + 1)).idxOf y + 1) = _
  omega
theorem nxt_at {row : List Int} {y : Int} {i : Nat} (h : nxt row y i < row.length) : row[nxt row y i]? = some y := by
  unfold nxt at h ⊢
  have hl : (row.drop i).idxOf y < (row.drop i).length := by
    rw [List.length_drop]
    omega
  have q := List.getElem_idxOf hl
  rw [← List.getElem?_drop, List.getElem?_eq_getElem hl, q]
theorem idx_before {xs : List Int} {y : Int} {k : Nat} (h : k < xs.idxOf y) : xs[k]? ≠ some y := by
  induction xs generalizing k with
  | nil => simp
  | cons a r ih =>
    by_cases e : a = y
    · rw [e, List.idxOf_cons_self] at h
      exact absurd h (Nat.not_lt_zero _)
    · rw [List.idxOf_cons] at h
      have e1 : (a == y) = false := by simpa using e
      rw [e1] at h
      cases k with
      | zero =>
        intro z
        exact e (Option.some.inj z)
      | succ k => exact ih (k := k) (Nat.lt_of_succ_lt_succ h)
theorem nxt_before {row : List Int} {y : Int} {i j : Nat} (h1 : i ≤ j) (h2 : j < nxt row y i) : row[j]? ≠ some y := by
  unfold nxt at h2
  have q := idx_before (xs := row.drop i) (y := y) (k := j - i) (by omega)
  rw [List.getElem?_drop] at q
  have e : i + (j - i) = j := by omega
  rw [e] at q
  exact q
/-! ### the dict of the next asks -/
def kvS (xs : List (Nat × Nat)) : List (Key × V) := xs.map fun x => (Sum.inl (x.1 : Int), V.int (x.2 : Nat))
theorem merge_snoc (a more : List (Key × V)) (x : Key × V) : mergeK a (more ++ [x]) = putK (mergeK a more) x.1 x.2 := by
  unfold mergeK
  rw [List.foldl_append]
  rfl
theorem next_asks {row : List Int} {i : Nat} {p : Int} (hi : row[i]? = some p) : ∀ e, e ≤ row.length → valV (mergeK [] (kvS (spellsTo row e))) (Sum.inl (i : Int)) = if nxt row p (i + 1) < e then some (V.int (nxt row p (i + 1) : Nat)) else none
  | 0, _ => by rw [if_neg (Nat.not_lt_zero _)]; rfl
  | e + 1, he => by
    have ih := next_asks hi e (by omega)
    have he' : e < row.length := by omega
    have eq : row[e]? = some (row[e]'he') := List.getElem?_eq_getElem he'
    have e0 : spellsTo row (e + 1) = spellsTo row e ++ spellAt row e := rfl
    rw [e0, spellAt_eq eq]
    generalize row[e]'he' = q at *
    have ge := nxt_ge row p (i + 1)
    -- where the page's next ask is e, the spell that ends there begins at i
    have back : nxt row p (i + 1) = e → lastB row q e = some i := by
      intro h
      have hp : row[e]? = some p := by
        rw [← h]
        exact nxt_at (by omega)
      have eqp : q = p := Option.some.inj (eq.symm.trans hp)
      rw [eqp]
      obtain ⟨b, hb, hib⟩ := lastB_some hi (show i < e by omega)
      have hb2 := lastB_lt hb
      by_cases z : b = i
      · rw [← z]; exact hb
      · exact absurd hb2.2 (nxt_before (i := i + 1) (by omega) (by omega))
    cases hb : lastB row q e with
    | none =>
      show valV (mergeK [] (kvS (spellsTo row e ++ []))) _ = _
      rw [List.append_nil, ih]
      by_cases h : nxt row p (i + 1) < e
      · rw [if_pos h, if_pos (by omega)]
      · rw [if_neg h, if_neg (fun z => by
          have := back (by omega)
          rw [hb] at this
          cases this)]
    | some b =>
      have ek : kvS (spellsTo row e ++ spOf (some b) e) = kvS (spellsTo row e) ++ [(Sum.inl (b : Int), V.int (e : Nat))] := by
        unfold kvS
        rw [List.map_append]
        rfl
      rw [ek, merge_snoc, valV_put]
      have hb2 := lastB_lt hb
      by_cases z : b = i
      · subst z
        rw [if_pos rfl]
        have eqp : q = p := Option.some.inj (hb2.2.symm.trans hi)
        have h1 : nxt row p (b + 1) = e := by
          have a1 : ¬ e < nxt row p (b + 1) := fun a1 => nxt_before (i := b + 1) (by omega) a1 (by rw [eq, eqp])
          have a2 : ¬ nxt row p (b + 1) < e := fun a2 => by
            have := nxt_at (row := row) (y := p) (i := b + 1) (by omega)
            rw [← eqp] at this
            rw [eqp] at hb this
            exact lastB_max hb _ (by omega) a2 this
          omega
        rw [if_pos (by omega), h1]
      · rw [if_neg (by intro h; injection h with h; omega), ih]
        by_cases h : nxt row p (i + 1) < e
        · rw [if_pos h, if_pos (by omega)]
        · rw [if_neg h, if_neg (fun h2 => by
            have := back (by omega)
            rw [hb] at this
            exact z (Option.some.inj this))]
theorem next_get {row : List Int} {i : Nat} {p : Int} (hi : row[i]? = some p) : ((valV (mergeK [] (kvS (spellsL row))) (Sum.inl (i : Int))).getD (V.int (row.length : Nat))) = V.int (nxt row p (i + 1) : Nat) := by
  have h := next_asks hi row.length (Nat.le_refl _)
  unfold spellsL
  rw [h]
  have hl := (List.getElem?_eq_some_iff.mp hi).1
  have le := nxt_le (row := row) (y := p) (i := i + 1) (by omega)
  by_cases z : nxt row p (i + 1) < row.length
  · rw [if_pos z]; rfl
  · rw [if_neg z]
    have e : nxt row p (i + 1) = row.length := by omega
    rw [e]; rfl
/-! ### who is let go -/
/-- f is the one of C whose next ask is farthest, of several the least -/
structure IsFar (row : List Int) (i : Nat) (C : List Int) (f : Int) : Prop where
  mem : f ∈ C
  far : ∀ y ∈ C, nxt row y i ≤ nxt row f i
  least : ∀ y ∈ C, nxt row y i = nxt row f i → f ≤ y
theorem IsFar.one {row : List Int} {i : Nat} {C : List Int} {f g : Int} (h : IsFar row i C f) (k : IsFar row i C g) : f = g := by
  have h1 := h.far g k.mem
  have h2 := k.far f h.mem
  have e : nxt row f i = nxt row g i := by omega
  have h3 := h.least g k.mem e.symm
  have h4 := k.least f h.mem e
  omega
theorem far_is {row : List Int} {i : Nat} : ∀ {C : List Int}, C ≠ [] → ∃ f, IsFar row i C f
  | [], h => absurd rfl h
  | [a], _ => ⟨a, by simp, fun y hy => by rw [List.mem_singleton.mp hy]; exact Nat.le_refl _, fun y hy _ => by rw [List.mem_singleton.mp hy]; exact Int.le_refl _⟩
  | a :: b :: C, _ => by
    obtain ⟨f, hf⟩ := far_is (row := row) (i := i) (C := b :: C) (by simp)
    by_cases h : nxt row a i < nxt row f i ∨ (nxt row a i = nxt row f i ∧ f ≤ a)
    · refine ⟨f, List.mem_cons_of_mem _ hf.mem, fun y hy => ?_, fun y hy e => ?_⟩
      · rcases List.mem_cons.mp hy with z | z
        · rw [z]; omega
        · exact hf.far y z
      · rcases List.mem_cons.mp hy with z | z
        · rw [z] at e ⊢; omega
        · exact hf.least y z e
    · refine ⟨a, List.mem_cons_self, fun y hy => ?_, fun y hy e => ?_⟩
      · rcases List.mem_cons.mp hy with z | z
        · rw [z]; exact Nat.le_refl _
        · have := hf.far y z; omega
      · rcases List.mem_cons.mp hy with z | z
        · rw [z]; exact Int.le_refl _
        · have q := hf.far y z
          have e2 : nxt row y i = nxt row f i := by omega
          have := hf.least y z e2
          omega
noncomputable def far (row : List Int) (i : Nat) (C : List Int) : Int := if h : C ≠ [] then Classical.choose (far_is (row := row) (i := i) h) else 0
theorem far_ok {row : List Int} {i : Nat} {C : List Int} (h : C ≠ []) : IsFar row i C (far row i C) := by
  unfold far
  rw [dif_pos h]
  exact Classical.choose_spec (far_is h)
/-- the pages there, the places of the lacks, what was let go -/
structure BS where
  C : List Int
  lacks : List Nat
  gone : List (Nat × Int)
noncomputable def BS.step (n : Nat) (row : List Int) (i : Nat) (p : Int) (s : BS) : BS :=
  if p ∈ s.C then s else if s.C.length = n then ⟨s.C.filter (· != far row i s.C) ++ [p], s.lacks ++ [i], s.gone ++ [(i, far row i s.C)]⟩ else ⟨s.C ++ [p], s.lacks ++ [i], s.gone⟩
noncomputable def bestTo (n : Nat) (row : List Int) : Nat → BS
  | 0 => ⟨[], [], []⟩
  | i + 1 => match row[i]? with
    | some p => (bestTo n row i).step n row i p
    | none => bestTo n row i
theorem bestTo_succ {n : Nat} {row : List Int} {i : Nat} {p : Int} (h : row[i]? = some p) : bestTo n row (i + 1) = (bestTo n row i).step n row i p := by
  show (match row[i]? with | some p => (bestTo n row i).step n row i p | none => bestTo n row i) = _
  rw [h]
noncomputable def bestS (n : Nat) (row : List Int) : BS := bestTo n row row.length
structure BS.Ok (n i : Nat) (s : BS) : Prop where
  nd : s.C.Nodup
  le : s.C.length ≤ n
  lk : s.lacks.length ≤ i
  gn : s.gone.length ≤ i
theorem filter_less {C : List Int} {f : Int} (h : f ∈ C) : (C.filter (· != f)).length < C.length := by
  rcases Nat.lt_or_ge (C.filter (· != f)).length C.length with z | z
  · exact z
  · have e := List.length_filter_eq_length_iff.mp (Nat.le_antisymm (List.length_filter_le _ _) z)
    have := e f h
    simp at this
theorem nodup_snoc {C : List Int} {p : Int} (h : C.Nodup) (hp : p ∉ C) : (C ++ [p]).Nodup := by
  rw [List.nodup_append]
  refine ⟨h, by simp, fun a ha b hb => ?_⟩
  rw [List.mem_singleton.mp hb]
  intro z
  exact hp (by rw [← z]; exact ha)
theorem bestTo_ok {n : Nat} (hn : 0 < n) (row : List Int) : ∀ i, (bestTo n row i).Ok n i
  | 0 => ⟨List.nodup_nil, Nat.zero_le _, Nat.le_refl _, Nat.le_refl _⟩
  | i + 1 => by
    have ih := bestTo_ok hn row i
    cases hp : row[i]? with
    | none =>
      have e : bestTo n row (i + 1) = bestTo n row i := by
        show (match row[i]? with | some p => (bestTo n row i).step n row i p | none => bestTo n row i) = _
        rw [hp]
      rw [e]
      exact ⟨ih.nd, ih.le, Nat.le_succ_of_le ih.lk, Nat.le_succ_of_le ih.gn⟩
    | some p =>
      rw [bestTo_succ hp]
      unfold BS.step
      have h1 := ih.lk
      have h2 := ih.gn
      have h3 := ih.le
      split
      · exact ⟨ih.nd, ih.le, Nat.le_succ_of_le ih.lk, Nat.le_succ_of_le ih.gn⟩
      · rename_i hC
        split
        · rename_i hl
          have hne : (bestTo n row i).C ≠ [] := by intro z; rw [z] at hl; simp at hl; omega
          have hf := filter_less (far_ok (row := row) (i := i) hne).mem
          refine ⟨nodup_snoc (ih.nd.filter _) (fun z => hC (List.mem_filter.mp z).1), ?_, ?_, ?_⟩
          · show (_ ++ [p]).length ≤ n
            rw [List.length_append]; simp; omega
          · show (_ ++ [i]).length ≤ i + 1
            rw [List.length_append]; simp; omega
          · show (_ ++ [_]).length ≤ i + 1
            rw [List.length_append]; simp; omega
        · rename_i hl
          refine ⟨nodup_snoc ih.nd hC, ?_, ?_, Nat.le_succ_of_le ih.gn⟩
          · show (_ ++ [p]).length ≤ n
            rw [List.length_append]; simp; omega
          · show (_ ++ [i]).length ≤ i + 1
            rw [List.length_append]; simp; omega
/-! ### the dict of the pages there -/
def kvN (row : List Int) (i : Nat) (C : List Int) : List (Key × V) := C.map fun y => (Sum.inl y, V.int (nxt row y i : Nat))
theorem kvN_val (row : List Int) (i : Nat) : ∀ (C : List Int) (p : Int), valV (kvN row i C) (Sum.inl p) = if p ∈ C then some (V.int (nxt row p i : Nat)) else none
  | [], p => rfl
  | a :: C, p => by
    by_cases h : a = p
    · subst h
      rw [if_pos List.mem_cons_self]
      exact valV_pos rfl
    · have e : valV (kvN row i (a :: C)) (Sum.inl p) = valV (kvN row i C) (Sum.inl p) := valV_neg (by intro z; injection z with z; exact h z)
      rw [e, kvN_val row i C p]
      by_cases h2 : p ∈ C
      · rw [if_pos h2, if_pos (List.mem_cons_of_mem _ h2)]
      · rw [if_neg h2, if_neg (by intro z; rcases List.mem_cons.mp z with z | z; · exact h z.symm
                                  · exact h2 z)]
theorem kvN_drop (row : List Int) (i : Nat) (f : Int) : ∀ C : List Int, dropK (kvN row i C) (Sum.inl f) = kvN row i (C.filter (· != f))
  | [] => rfl
  | a :: C => by
    by_cases h : a = f
    · subst h
      have e : dropK (kvN row i (a :: C)) (Sum.inl a) = dropK (kvN row i C) (Sum.inl a) := dropK_pos rfl
      rw [e, kvN_drop row i a C]
      simp
    · have e : dropK (kvN row i (a :: C)) (Sum.inl f) = (Sum.inl a, V.int (nxt row a i : Nat)) :: dropK (kvN row i C) (Sum.inl f) := dropK_neg (by intro z; injection z with z; exact h z)
      have e2 : (a :: C).filter (· != f) = a :: C.filter (· != f) := by simp [h]
      rw [e, kvN_drop row i f C, e2]
      rfl
/-- the asked page's next ask is written; all others' stay -/
theorem kvN_put {row : List Int} {i : Nat} {p : Int} (hp : row[i]? = some p) {C : List Int} (h : p ∈ C) : putK (kvN row i C) (Sum.inl p) (V.int (nxt row p (i + 1) : Nat)) = kvN row (i + 1) C := by
  have ha : ((kvN row i C).any fun kv => decide (kv.1 = Sum.inl p)) = true := by
    rw [valV_any, kvN_val, if_pos h]
    rfl
  unfold putK
  rw [if_pos ha]
  unfold kvN
  rw [List.map_map]
  refine List.map_congr_left fun y hy => ?_
  show (if (Sum.inl y : Key) = Sum.inl p then _ else _) = _
  by_cases e : y = p
  · subst e
    rw [if_pos rfl]
  · rw [if_neg (by intro z; injection z with z; exact e z), nxt_on hp e]
theorem kvN_new {row : List Int} {i : Nat} {p : Int} (hp : row[i]? = some p) {C : List Int} (h : p ∉ C) : putK (kvN row i C) (Sum.inl p) (V.int (nxt row p (i + 1) : Nat)) = kvN row (i + 1) (C ++ [p]) := by
  rw [putK_new _ (by rw [kvN_val, if_neg h])]
  unfold kvN
  rw [List.map_append]
  congr 1
  refine List.map_congr_left fun y hy => ?_
  rw [nxt_on hp (by intro z; rw [z] at hy; exact h hy)]
/-! ### lists of tuples -/
structure TupsAt (H : Hp) (as : List Addr) (xs : List (List V)) : Prop where
  len : as.length = xs.length
  at_ : ∀ (i : Nat) (a : Addr) (x : List V), as[i]? = some a → xs[i]? = some x → H a = some (.tup x)
theorem TupsAt.nil {H : Hp} : TupsAt H [] [] := ⟨rfl, fun i a x h => by simp at h⟩
theorem TupsAt.but {S : List Addr} {H H' : Hp} {as : List Addr} {xs : List (List V)} (h : TupsAt H as xs) (k : But S H H') (n : ∀ d ∈ S, ∀ u, H d ≠ some (.tup u)) : TupsAt H' as xs :=
  ⟨h.len, fun i a x ha hx => by
    have q := h.at_ i a x ha hx
    exact k _ _ q fun z => n _ z _ q⟩
theorem TupsAt.same {H H' : Hp} {as : List Addr} {xs : List (List V)} (h : TupsAt H as xs) (k : Same H H') : TupsAt H' as xs := h.but (S := []) (But.of k) (fun d hd => by simp at hd)
theorem TupsAt.put {H : Hp} {as : List Addr} {xs : List (List V)} (h : TupsAt H as xs) {d : Addr} {o o' : HO} (e : H d = some o) (ne : ∀ u, o ≠ .tup u) : TupsAt (upd H d o') as xs :=
  h.but (S := [d]) (But.put (by simp)) (fun c hc u z => by rw [List.mem_singleton.mp hc, e] at z; exact ne u (Option.some.inj z))
theorem TupsAt.snoc {H : Hp} {as : List Addr} {xs : List (List V)} (h : TupsAt H as xs) {t : Addr} {x : List V} (e : H t = some (.tup x)) : TupsAt H (as ++ [t]) (xs ++ [x]) := by
  refine ⟨by simp [h.len], fun j c y hc hy => ?_⟩
  by_cases hj : j < as.length
  · rw [List.getElem?_append_left hj] at hc
    rw [List.getElem?_append_left (by rw [← h.len]; exact hj)] at hy
    exact h.at_ j c y hc hy
  · have ej : j = as.length := by
      have := (List.getElem?_eq_some_iff.mp hc).1
      simp at this
      omega
    subst ej
    rw [List.getElem?_append_right (Nat.le_refl _), Nat.sub_self] at hc
    rw [List.getElem?_append_right (by rw [h.len]; exact Nat.le_refl _), h.len, Nat.sub_self] at hy
    have ec : t = c := Option.some.inj hc
    have ex : x = y := Option.some.inj hy
    rw [← ec, ← ex]
    exact e
theorem TupsAt.tail {H : Hp} {a : Addr} {x : List V} {as : List Addr} {xs : List (List V)} (h : TupsAt H (a :: as) (x :: xs)) : H a = some (.tup x) ∧ TupsAt H as xs :=
  ⟨h.at_ 0 a x rfl rfl, Nat.succ.inj h.len, fun i c y hc hy => h.at_ (i + 1) c y hc hy⟩
abbrev gV (xs : List (Nat × Int)) : List (List V) := xs.map fun x => [V.int (x.1 : Nat), V.int x.2]
theorem gV_snoc {xs : List (Nat × Int)} {x : Nat × Int} : gV (xs ++ [x]) = gV xs ++ [[V.int (x.1 : Nat), V.int x.2]] := by
  show (xs ++ [x]).map _ = _
  rw [List.map_append]
  rfl
end CK

/-! The program's spells. -/
namespace CK
open PySem PySem.Spec PyProof.Rows L2
/-- a new list of the spells of a row -/
def spFind (K : PySem.W.Frag) : Sp := fun vs H Q _ => ∃ (r : Addr) (row : List Int), vs = [.ref r] ∧ SqL K H r (il row) ∧ row.length ≤ 1000 ∧
  ∀ (d : Addr) (as : List Addr) (H' : Hp), H d = none → Same H H' → H' d = some (.lst (as.map V.ref)) → PairsAt H' as (spellsL row) → Q (.ref d) H'
def lastV (row : List Int) (i : Nat) (p : Int) : Option V := (lastB row p i).map fun n => V.int (n : Nat)
section
variable {P : Program} {w : World} {K : PySem.W.Frag} {mg : Str → Option Value} {base : Heap}
theorem sc_find_spells : FnScope ["row", "latest", "found", "place", "page"] ["row"] (defScope (top 14)) := ⟨rfl, rfl, rfl, by decide +kernel, rfl, by decide +kernel, by decide +kernel⟩
theorem ok_find_spells (T : Prog K mg) : FnOk P w K mg base CX0 1 T.find_spells.f T.find_spells.fd ["row"] (spFind K) := by
  refine T.find_spells.fn.ok sc_find_spells (fun vs H Q E h => ?len) (fun cdv A outer s H vs Q E hr h => ?body)
  case len =>
    obtain ⟨r, row, rfl, _⟩ := h
    rfl
  case body =>
    have hu := hu_of hr
    obtain ⟨r, row, rfl, hS, hlen, k⟩ := h
    refine ⟨_, PSs.nox (pss_cons (ps_set (i := 1) sc_find_spells.nd rfl (Or.inl rfl) pe_dnewK)
        (pss_cons (ps_set (i := 2) sc_find_spells.nd rfl (Or.inl rfl) (pe_lst pa_nil))
        (pss_cons (ps_for PassesOwn.never rfl (pi_enum (by rfl) T.enumerate (pa_cons (pv 0) pa_nil)) (pg_tup rfl (pgs_cons (pg_name (i := 3) sc_find_spells.nd rfl (Or.inl rfl)) (pgs_cons (pg_name (i := 4) sc_find_spells.nd rfl (Or.inl rfl)) pgs_nil)))
        (C8.pss_cut (ps_if (pt_cmp (pc_din hu (pv 4) (pv 1)))
        (pss_one (ps_expr (pe_bm PySem.F.plainAttrs_list PySem.F.slot_list_append PySem.F.type_list_append mt_append (pv 2) (pa_cons (pe_tup (pa_cons (pe_dget hu (pv 1) (pv 4) (fun _ _ => rfl)) (pa_cons (pv 3) pa_nil))) pa_nil))))
        pss_nil)
        (pss_one (ps_dput hu (pv 1) (pv 4) (pv 3) rfl))))
        (pss_one (ps_ret (pv 2)))))), ?_⟩
    refine fun l hl => ⟨szd rfl, fun c hc => ?_⟩
    have s1 : Same H (upd (upd H l (.dK [])) c (.lst [])) := (Same.new hl).trans (Same.new hc)
    have lc : l ≠ c := ne_fresh (H := upd H l (.dK [])) upd_same hc
    have cH : H c = none := Same.back (Same.new hl) hc
    refine ⟨_, rfl, r, _, rfl, s1.seq hS, for_it (walk_enum (K := K) (a := r) (xs := il row)) (fun i σ H' => (∃ v3 v4, σ = [some (.ref r), some (.ref l), some (.ref c), v3, v4]) ∧ Same H H' ∧ (∃ kvs : List (Key × V), H' l = some (.dK kvs) ∧ kvs.length ≤ i ∧ ∀ p, valV kvs (Sum.inl p) = lastV row i p) ∧
      ∃ as : List Addr, H' c = some (.lst (as.map V.ref)) ∧ PairsAt H' as (spellsTo row i))
      ⟨⟨_, _, rfl⟩, s1, ⟨[], by rw [upd_ne lc]; exact upd_same, Nat.le_refl _, fun p => rfl⟩, [], upd_same, PairsAt.nil⟩ (fun i σ H' _ h => h.2.1.seq hS) ?_ ?_⟩
    · rintro i x σ H1 H2 hi ⟨⟨v3, v4, rfl⟩, s2, ⟨kvs, hl1, hkl, hkv⟩, as, hc1, hp1⟩ ⟨t, x1, x2, rfl, ht, rfl, ha, hb⟩
      have ea : V.int (i : Nat) = x1 := Option.some.inj ha
      subst ea
      obtain ⟨p, hp, rfl⟩ := il_get hb
      rw [il_len] at hi
      have sT := Same.new (o := .tup [V.int (i : Nat), V.int p]) ht
      have hl2 := sT _ _ hl1
      have hc2 := sT _ _ hc1
      have hp2 := hp1.same sT
      have hal : as.length ≤ i := by rw [hp1.len]; exact spellsTo_le row i
      refine ⟨t, _, rfl, SqT.of upd_same, rfl, _, _, rfl, _, _, rfl, rfl, ?_⟩
      refine ⟨fun σ' H' => σ' = [some (.ref r), some (.ref l), some (.ref c), some (.int (i : Nat)), some (.int p)] ∧ Same H H' ∧ H' l = some (.dK kvs) ∧ ∃ as : List Addr, H' c = some (.lst (as.map V.ref)) ∧ PairsAt H' as (spellsTo row (i + 1)), ?_, ?_⟩
      · refine ⟨_, rfl, _, rfl, l, _, rfl, DGet.k (k := Sum.inl p) hl2, _, rfl, ?_⟩
        have e0 : spellsTo row (i + 1) = spellsTo row i ++ spellAt row i := rfl
        have e1 := spellAt_eq hp
        rw [e0, e1]
        have ev := hkv p
        unfold lastV at ev
        cases eb : lastB row p i with
        | none =>
          rw [eb] at ev
          refine ifF (by rw [ev]; rfl) ?_
          refine ⟨rfl, s2.trans sT, hl2, as, hc2, ?_⟩
          show PairsAt _ as (spellsTo row i ++ [])
          rw [List.append_nil]
          exact hp2
        | some b =>
          rw [eb] at ev
          refine ifT (by rw [ev]; rfl) ?_
          refine ⟨_, rfl, .inl ⟨rfl, _, SqL.of hc2⟩, _, rfl, _, rfl, l, V.int (b : Nat), rfl, (by have q := DGet.k (k := Sum.inl p) hl2; rw [ev] at q; exact q), _, rfl, szd rfl, fun q hq => ?_⟩
          have sQ := Same.new (o := .tup [V.int (b : Nat), V.int (i : Nat)]) hq
          have hc3 := sQ _ _ hc2
          refine ⟨c, _, _, rfl, rfl, hc3, szl (by rw [List.length_map]; omega), ?_⟩
          refine ⟨rfl, Same.put ((s2.trans sT).trans sQ) cH, ?_, as ++ [q], ?_, ?_⟩
          · rw [upd_ne lc]; exact sQ _ _ hl2
          · rw [upd_same, List.map_append]; rfl
          · exact ((hp2.same sQ).snoc (x := (b, i)) upd_same).put hc3 (by intro u z; cases z)
      · rintro σ' H' ⟨rfl, s3, hl3, as', hc3, hp3⟩
        refine ⟨_, rfl, _, rfl, _, rfl, l, _, rfl, DPut.k (k := Sum.inl p) hl3 (szl (by omega)), ?_⟩
        refine ⟨⟨_, _, rfl⟩, Same.put s3 hl, ⟨_, upd_same, ?_, fun q => ?_⟩, as', ?_, hp3.put hl3 (by intro u z; cases z)⟩
        · have := length_putK kvs (Sum.inl p) (V.int (i : Nat))
          omega
        · rw [valV_put]
          unfold lastV lastB
          by_cases e : p = q
          · subst e
            rw [if_pos rfl, if_pos hp]
            rfl
          · rw [if_neg (by intro z; injection z with z; exact e z.symm), if_neg (by intro z; rw [hp] at z; exact e (Option.some.inj z))]
            exact hkv q
        · rw [upd_ne (Ne.symm lc)]; exact hc3
    · rintro σ H' ⟨⟨v3, v4, rfl⟩, s2, _, as, hc1, hp1⟩
      rw [il_len] at hp1
      exact ⟨_, rfl, k c as H' cH s2 hc1 hp1⟩
end
end CK

/-! max(d.values()). -/
namespace CKZ
open PySem PySem.Spec PyProof.Rows L2
open PySem.Sem (wp)
variable {X : Cx}
/-- a dict of ints, one at least: the greatest -/
def tMaxVals (td : TE) : TE := fun σ H Q => td σ H fun x H1 => ∃ (a : Addr) (ds : List (Key × V)) (ns : List Int), x = V.ref a ∧ H1 a = some (.dK ds) ∧ ds.map (·.2) = ns.map V.int ∧ ns ≠ [] ∧ ∀ m, m ∈ ns → (∀ j ∈ ns, j ≤ m) → Q (.int m) H1
theorem pe_maxVals {o : Expr} {p pos apos mpos : Pos} {td : TE} (hc : X.calm = true) (hg : Gl X "max") (hm : X.mg "max" = none) (hd : PE X o td) (hb : attributeBase o "values" X.env (eval o X.env) = eval o X.env := by rfl) (hl : (apos.endLine == mpos.line) = true := by rfl)
    (hs : starEach [Expr.Call (.Attribute o "values" apos) [] [] mpos] X.env = [(false, eval (Expr.Call (.Attribute o "values" apos) [] [] mpos) X.env)] := by rfl) :
    PE X (.Call (.Name "max" p) [.Call (.Attribute o "values" apos) [] [] mpos] [] pos) (tMaxVals td) := by
  constructor; intro pins s σ H Q I h
  refine wpAny_Call_Name_kw (ld_blt I hg hm (u := .builtin "max") (by first | rfl | decide +kernel) ?_ (by first | decide +kernel | decide) (by first | decide +kernel | decide)); rw [hs]
  refine PySem.callWith_builtin1 (wpAny_Call_method0_late hb hl (thn (hd.run pins s σ H _ I h) fun v s1 ⟨x, H1, I1, r1, a, ds, ns, ex, ha, hv, hne, q⟩ => ?_))
  subst ex; obtain rfl : v = Value.ref a := r1
  obtain ⟨_, hsys, vs, rel, dof⟩ := dk_of I1.hok ha
  obtain ⟨ep, dat⟩ := dof.dictAt
  obtain ⟨ob, es, ho, ex, hdat, hko, hpr, hnd⟩ := id dat
  refine ⟨"dict", "dict.values", F.plainAttrs_dict, F.slot_dict_values, F.type_dict_values, ⟨ob, ho, ex.1⟩, fun b e => ?_, Calls.callWith_builtin rfl (PySem.evalArgs_none ?_)⟩
  · cases e; exact ⟨ob, ho, ex.2.1⟩
  refine call_meetsIn F.slot_dict_values ⟨ob, ho, ex.1⟩ F.entry_dict_values (F.args_dict_values_1 _) (meets_dict_values (mixKind X.prog X.w) a hsys) ⟨⟨vs, dof⟩, ?_⟩
  generalize eo : ({ cls := .type "dict_values", data := .fields #[.ref a] } : Obj) = vo
  have k1 : ∀ b u, s1.heap.get? b = some u → (s1.heap.push vo).get? b = some u := fun b u e => Heap.get?_push_of_some _ e
  have dat1 : (s1.heap.push vo).DictAt (mixKind X.prog X.w) a vs ep := dat.keep k1
  have hlv : vs.length = ns.length := by
    have e1 := congrArg List.length hv
    rw [List.length_map, List.length_map] at e1
    exact (KV.length rel).symm.trans e1
  have hpos : 0 < vs.length := by rw [hlv]; exact List.length_pos_iff.mpr hne
  have hval : ∀ (i : Nat) (v : Value), (∃ k, vs[i]? = some (k, v)) → ∃ t, v = Value.int (ns.getD i 0) t := fun i v ⟨k, hk⟩ => by
    obtain ⟨x, f1, f2⟩ := KV.at' rel hk
    have e1 : (ds.map (·.2))[i]? = some x := by rw [List.getElem?_map, f1] <;> rfl
    rw [hv, List.getElem?_map] at e1
    obtain ⟨j, hj, e2⟩ := Option.map_eq_some_iff.mp e1
    subst e2
    obtain ⟨t, e3⟩ := f2
    exact ⟨t, by rw [e3, List.getD_eq_getElem?_getD, hj] <;> rfl⟩
  have hlt : a < s1.heap.objs.size := Heap.lt_size ho
  have hsz : (s1.heap.push vo).objs.size = s1.heap.objs.size + 1 := Heap.size_push _ _
  refine call_max_walk (wpAny_pyIter_values (v := s1.heap.objs.size) (d := a) ⟨_, Heap.get?_push_size _ (by rw [← eo] <;> rfl), by rw [← eo], by rw [← eo]⟩ dat1 ?_)
  refine ⟨_, _, _, _, _, _, _, rfl, Walks.dictValues (knd := mixKind X.prog X.w) (A := X.A.in1) (I.ok.hd hc) (s1.heap.push vo).objs.size a (by rw [hsz]; exact Nat.ne_of_lt (Nat.lt_succ_of_lt hlt)) vs ep,
    ⟨⟨_, Heap.get?_push_size _ rfl, rfl, rfl⟩, dat1.keep fun b u e => Heap.get?_push_of_some _ e⟩, fun b hb => ?_, hpos, CmpOf.ints_gt (fun i => ns.getD i 0) hval, fun v h' tk hP hk => ?_⟩
  · show b < ((s1.heap.push _).push _).objs.size
    rw [Heap.size_push, Heap.size_push]
    rw [hsz] at hb
    rcases List.mem_cons.mp hb with e | hb
    · rw [e]; exact Nat.lt_succ_self _
    · rw [List.mem_singleton.mp hb]; exact Nat.lt_succ_of_lt (Nat.lt_succ_of_lt hlt)
  · obtain ⟨t, rfl⟩ := hval _ v hP
    obtain ⟨b1, b2⟩ := argBest_gt (fun i => ns.getD i 0) (vs.length - 1)
    refine ⟨.int _, H1, I1.kept (t' := tk) fun b u e => hk b u (fun hmem => ?_) (Heap.get?_push_of_some _ (k1 b u e)), ⟨t, rfl⟩, q _ ?_ fun j hj => ?_⟩
    · have e1 : b = (s1.heap.push vo).objs.size := List.mem_singleton.mp hmem
      have e2 := Heap.lt_size e
      rw [e1, hsz] at e2
      exact absurd e2 (Nat.not_lt.mpr (Nat.le_succ _))
    · have hb : argBest (fun i j => decide (ns.getD i 0 > ns.getD j 0)) (vs.length - 1) < ns.length := by omega
      rw [List.getD_eq_getElem?_getD, List.getElem?_eq_getElem hb]; exact List.getElem_mem hb
    · obtain ⟨i, hi, e⟩ := List.mem_iff_getElem.mp hj
      have e2 : ns.getD i 0 = j := by rw [List.getD_eq_getElem?_getD, List.getElem?_eq_getElem hi, ← e] <;> rfl
      rw [← e2]
      exact b2 i (by omega)
end CKZ

/-! The program's best. -/
namespace CK
open PySem PySem.Spec PyProof.Rows L2
def spFarthest : Sp := fun vs H Q _ => ∃ (d : Addr) (row : List Int) (i : Nat) (C : List Int), vs = [.ref d] ∧ H d = some (.dK (kvN row i C)) ∧ C ≠ [] ∧ C.length ≤ 1000 ∧
  ∀ H' : Hp, Same H H' → Q (.int (far row i C)) H'
/-- a new tuple of the places of the lacks, and of what was let go -/
def spFindBest (K : PySem.W.Frag) : Sp := fun vs H Q _ => ∃ (n : Int) (r : Addr) (row : List Int), vs = [.int n, .ref r] ∧ 1 ≤ n ∧ n ≤ 8 ∧ SqL K H r (il row) ∧ row.length ≤ 1000 ∧
  ∀ (t l g : Addr) (as : List Addr) (H' : Hp), H t = none → H l = none → H g = none → l ≠ g → Same H H' → H' t = some (.tup [.ref l, .ref g]) → H' l = some (.lst (NL (bestS n.toNat row).lacks)) → H' g = some (.lst (as.map V.ref)) → TupsAt H' as (gV (bestS n.toNat row).gone) → Q (.ref t) H'
def spBest (K : PySem.W.Frag) : Sp := fun vs H Q _ => ∃ (n : Int) (r : Addr) (row : List Int), vs = [.int n, .ref r] ∧ 1 ≤ n ∧ n ≤ 8 ∧ SqL K H r (il row) ∧ RowOk row ∧
  ∀ (t l g : Addr) (as : List Addr) (H' : Hp), H t = none → H l = none → H g = none → l ≠ g → Same H H' → H' t = some (.tup [.ref l, .ref g]) → H' l = some (.lst (NL (bestS n.toNat row).lacks)) → H' g = some (.lst (as.map V.ref)) → TupsAt H' as (gV (bestS n.toNat row).gone) → Q (.ref t) H'
theorem kvN_vals (row : List Int) (i : Nat) (C : List Int) : (kvN row i C).map (·.2) = (C.map fun y => ((nxt row y i : Nat) : Int)).map V.int := by
  unfold kvN
  rw [List.map_map, List.map_map]
  rfl
theorem pairs_kv {K : PySem.W.Frag} {H : Hp} : ∀ {as : List Addr} {xs : List (Nat × Nat)}, PairsAt H as xs → Paired (fun p kv => SqT K H p [kV kv.1, kv.2]) as (kvS xs)
  | [], [], _ => .nil
  | [], _ :: _, h => absurd h.len (by simp)
  | _ :: _, [], h => absurd h.len (by simp)
  | a :: as, x :: xs, h => .cons (SqT.of h.tail.1) (pairs_kv h.tail.2)
section
variable {P : Program} {w : World} {K : PySem.W.Frag} {mg : Str → Option Value} {base : Heap}
theorem sc_farthest : FnScope ["there", "farthest", "page"] ["there"] (defScope (top 17)) := ⟨rfl, rfl, rfl, by decide +kernel, rfl, by decide +kernel, by decide +kernel⟩
theorem ok_farthest (T : Prog K mg) : FnOk P w K mg base CX0 1 T.farthest.f T.farthest.fd ["there"] spFarthest := by
  refine T.farthest.fn.ok sc_farthest (fun vs H Q E h => ?len) (fun cdv A outer s H vs Q E hr h => ?body)
  case len =>
    obtain ⟨d, row, i, C, rfl, _⟩ := h
    rfl
  case body =>
    have hu := hu_of hr
    obtain ⟨d, row, i, C, rfl, hd, hC, hl, k⟩ := h
    refine ⟨_, PSs.nox (pss_cons (ps_set (i := 1) sc_farthest.nd rfl (Or.inr rfl) (CKZ.pe_maxVals rfl (by rfl) T.max (pv 0)))
        (pss_one (ps_ret (pe_callB (cr_min rfl) (by rfl) T.min (by decide +kernel) (pa_cons (pe_lock (pe_lc (own := [("page", 2)]) (g := gName 2) (tt := (tTest (tOp _ (tDGet (tVar 0) (tVar 2)) (tVar 1)))) (te := (tVar 2)) rfl sc_farthest.nd ((pi_keys (pv 0))) (blkOk_by (own := [("page", 2)]) (N := ["there", "farthest", "page"]) (sc := defScope (top 17)) (by decide +kernel)) (fun _ _ _ _ _ => (by exact (pg_name (i := 2) sc_farthest.nd rfl (Or.inl rfl)))) (fun _ _ _ _ _ => (by exact (pts_one (pt_cmpR op_eq (pe_dget hu (pv 0) (pv 2) (fun _ _ => rfl)) (pv 1) (nomark _))))) (fun _ _ _ _ _ => (by exact (pv 2))))) pa_nil))))), ?_⟩
    have F := far_ok (row := row) (i := i) hC
    have hmem : ((nxt row (far row i C) i : Nat) : Int) ∈ C.map fun y => ((nxt row y i : Nat) : Int) := List.mem_map.mpr ⟨_, F.mem, rfl⟩
    refine ⟨_, rfl, d, _, _, rfl, hd, kvN_vals row i C, by simpa using hC, fun m hm hmax => ?_⟩
    have em : m = ((nxt row (far row i C) i : Nat) : Int) := by
      obtain ⟨y, hy, e⟩ := List.mem_map.mp hm
      have h1 := hmax _ hmem
      have h2 := F.far y hy
      omega
    subst em
    -- [page for page in there if there[page] == farthest], the dict locked
    refine ⟨d, _, hd, trivial, fun od => ?_⟩
    have hd1 : upd H d (.frz od (.dK (kvN row i C))) d = some (.frz od (.dK (kvN row i C))) := upd_same
    refine ⟨_, rfl, d, od, rfl, .inl ⟨_, hd1, fun D hD => ?_⟩⟩
    have Dd : D ≠ d := by intro z; rw [z, upd_same] at hD; cases hD
    have hDH : H D = none := by rw [upd_ne Dd] at hD; exact hD
    have hlk : (kvN row i C).length = C.length := List.length_map _
    refine lc_it (walk_keys (d := d) (o := od) (kvs := kvN row i C)) (fun j H' => H' D = some (.lst (il ((C.take j).filter fun y => decide (nxt row y i = nxt row (far row i C) i)))) ∧ H' d = some (.frz od (.dK (kvN row i C))) ∧ ∀ c o, c ≠ d → H c = some o → H' c = some o) ?_ (fun j H' _ h => h.2.1) ?_ ?_
    · refine ⟨upd_same, by rw [upd_ne (Ne.symm Dd)]; exact hd1, fun c o h1 h2 => ?_⟩
      rw [upd_ne (ne_fresh h2 hDH), upd_ne h1]
      exact h2
    · rintro j x H1 H2 hj ⟨hD1, hd1, hk⟩ ⟨rfl, k0, v0, hkv, rfl⟩
      rw [hlk] at hj
      have ej : C[j]? = some (C[j]'hj) := List.getElem?_eq_getElem hj
      have ekv : (kvN row i C)[j]? = some (Sum.inl (C[j]'hj), V.int (nxt row (C[j]'hj) i : Nat)) := by
        unfold kvN
        rw [List.getElem?_map, ej]
        rfl
      have e1 := Option.some.inj (hkv.symm.trans ekv)
      have e2 : k0 = Sum.inl (C[j]'hj) := congrArg Prod.fst e1
      subst e2
      have hm := List.getElem_mem hj
      rw [take_snoc ej, List.filter_append]
      have hle := List.length_filter_le (fun y => decide (nxt row y i = nxt row (far row i C) i)) (C.take j)
      rw [List.length_take] at hle
      have hv : valV (kvN row i C) (Sum.inl (C[j]'hj)) = some (V.int (nxt row (C[j]'hj) i : Nat)) := by rw [kvN_val, if_pos hm]
      generalize C[j]'hj = y at *
      refine ⟨rfl, _, rfl, _, rfl, d, _, rfl, .inl ⟨_, Sum.inl y, .inr ⟨_, hd1⟩, rfl, hv.symm⟩, _, rfl, rfl, _, rfl, ?_⟩
      by_cases q : nxt row y i = nxt row (far row i C) i
      · refine ifT (decide_eq_true (by rw [q])) ⟨_, rfl, _, hD1, szl (by rw [il_len]; omega), ?_, ?_, fun c o h1 h2 => ?_⟩
        · rw [upd_same]
          show some (HO.lst (il _ ++ [V.int y])) = _
          rw [il_snoc]
          simp [q]
        · rw [upd_ne (Ne.symm Dd)]; exact hd1
        · rw [upd_ne (ne_fresh h2 hDH)]; exact hk c o h1 h2
      · refine ifF (decide_eq_false (by intro z; injection z with z; omega)) ⟨?_, hd1, hk⟩
        simpa [q] using hD1
    · rintro H1 ⟨hD1, hd1, hk⟩
      rw [hlk, List.take_length] at hD1
      refine ⟨hd1, ?_⟩
      have hDm : upd H1 d (.dK (kvN row i C)) D = some (.lst (il (C.filter fun y => decide (nxt row y i = nxt row (far row i C) i)))) := by rw [upd_ne Dd]; exact hD1
      have fm : far row i C ∈ C.filter fun y => decide (nxt row y i = nxt row (far row i C) i) := List.mem_filter.mpr ⟨F.mem, by simp⟩
      refine ⟨D, _, rfl, SqL.of hDm, List.length_pos_of_mem fm, fun m hm hmin => ?_⟩
      have e : m = far row i C := by
        have h1 := hmin _ fm
        have h2 := List.mem_filter.mp hm
        have h3 := F.least m h2.1 (by simpa using h2.2)
        omega
      rw [e]
      refine k _ fun c o hc => ?_
      by_cases z : c = d
      · rw [z] at hc ⊢
        rw [hd] at hc
        rw [upd_same]
        exact hc
      · rw [upd_ne z]
        exact hk c o z hc
theorem sc_find_best : FnScope ["rooms", "row", "next_asks", "there", "lacks", "gone", "place", "page", "leaving"] ["rooms", "row"] (defScope (top 16)) := ⟨rfl, rfl, rfl, by decide +kernel, rfl, by decide +kernel, by decide +kernel⟩
theorem ok_find_best (T : Prog K mg) : FnOk P w K mg base CX0 2 T.find_best.f T.find_best.fd ["rooms", "row"] (spFindBest K) := by
  have G_find_spells := ok_find_spells (P := P) (w := w) (base := base) T
  have G_farthest := ok_farthest (P := P) (w := w) (base := base) T
  refine T.find_best.fn.ok sc_find_best (fun vs H Q E h => ?len) (fun cdv A outer s H vs Q E hr h => ?body)
  case len =>
    obtain ⟨n, r, row, rfl, _⟩ := h
    rfl
  case body =>
    have hr_find_spells : Room 1 _ := hr.mono (by decide)
    have hr_farthest : Room 1 _ := hr.mono (by decide)
    have hu := hu_of hr
    obtain ⟨n, r, row, rfl, n1, n8, hS, hl, k⟩ := h
    refine ⟨_, PSs.nox (pss_cons (ps_set (i := 2) sc_find_best.nd rfl (Or.inl rfl) (pe_callTy (call_dictP rfl) (by rfl) T.dict_ (by decide +kernel) (pa_cons (pe_call G_find_spells hr_find_spells (by rfl) T.find_spells.g T.find_spells.fn.kp T.find_spells.bd .nil pass0 (pa_cons (pv 1) pa_nil)) pa_nil)))
        (pss_cons (ps_set (i := 3) sc_find_best.nd rfl (Or.inl rfl) pe_dnewK)
        (pss_cons (ps_set (i := 4) sc_find_best.nd rfl (Or.inl rfl) (pe_lst pa_nil))
        (pss_cons (ps_set (i := 5) sc_find_best.nd rfl (Or.inl rfl) (pe_lst pa_nil))
        (pss_cons (ps_for PassesOwn.never rfl (pi_enum (by rfl) T.enumerate (pa_cons (pv 1) pa_nil)) (pg_tup rfl (pgs_cons (pg_name (i := 6) sc_find_best.nd rfl (Or.inl rfl)) (pgs_cons (pg_name (i := 7) sc_find_best.nd rfl (Or.inl rfl)) pgs_nil)))
        (pss_cons (ps_if (pt_cmp (pc_dnotin hu (pv 7) (pv 3)))
        (pss_cons (ps_expr (pe_bm PySem.F.plainAttrs_list PySem.F.slot_list_append PySem.F.type_list_append mt_append (pv 4) (pa_cons (pv 6) pa_nil)))
        (pss_one (ps_if (pt_cmpR op_eq (pe_callB call_lenD (by rfl) T.len PySem.boot_len (pa_cons (pv 3) pa_nil)) (pv 0) (nomark _))
        (pss_cons (ps_set (i := 8) sc_find_best.nd rfl (Or.inl rfl) (pe_call G_farthest hr_farthest (by rfl) T.farthest.g T.farthest.fn.kp T.farthest.bd .nil pass0 (pa_cons (pv 3) pa_nil)))
        (pss_cons (ps_expr (pe_bm PySem.F.plainAttrs_list PySem.F.slot_list_append PySem.F.type_list_append mt_append (pv 5) (pa_cons (pe_tup (pa_cons (pv 6) (pa_cons (pv 8) pa_nil))) pa_nil)))
        (pss_one (ps_ddel (pv 3) (pv 8)))))
        pss_nil)))
        pss_nil)
        (pss_one (ps_dput hu (pv 3) (pv 7) (pe_dget2 hu (pv 2) (pv 6) (pe_callB call_len_seq (by rfl) T.len PySem.boot_len (pa_cons (pv 1) pa_nil)) ⟨rfl, rfl, rfl, rfl⟩) rfl))))
        (pss_one (ps_ret (pe_tup (pa_cons (pv 4) (pa_cons (pv 5) pa_nil)))))))))), ?_⟩
    have hn0 : 0 < n.toNat := by omega
    -- next_asks = dict(find_spells(row))
    refine ⟨_, rfl, r, row, rfl, hS, hl, fun s as0 H1 hs1 s1 hs hp0 => ?_⟩
    refine ⟨s, as0, kvS (spellsL row), rfl, SqL.of hs, pairs_kv hp0, fun nd hnd => ?_⟩
    have s2 := Same.new (o := .dK (mergeK [] (kvS (spellsL row)))) hnd
    -- there = {}; lacks = []; gone = []
    refine fun th hth => ?_
    have s3 := Same.new (o := .dK []) hth
    refine ⟨szd rfl, fun la hla => ?_⟩
    have s4 := Same.new (o := .lst []) hla
    refine ⟨szd rfl, fun go hgo => ?_⟩
    have s5 := Same.new (o := .lst []) hgo
    have s15 := (((s1.trans s2).trans s3).trans s4).trans s5
    have thH : H th = none := Same.back (s1.trans s2) hth
    have laH : H la = none := Same.back ((s1.trans s2).trans s3) hla
    have goH : H go = none := Same.back (((s1.trans s2).trans s3).trans s4) hgo
    have ndth : nd ≠ th := ne_fresh (H := upd H1 nd _) upd_same hth
    have ndla : nd ≠ la := ne_fresh (s3 _ _ (upd_same (H := H1) (a := nd))) hla
    have ndgo : nd ≠ go := ne_fresh (s4 _ _ (s3 _ _ (upd_same (H := H1) (a := nd)))) hgo
    have thla : th ≠ la := ne_fresh (H := upd _ th _) upd_same hla
    have thgo : th ≠ go := ne_fresh (s4 _ _ upd_same) hgo
    have lago : la ≠ go := ne_fresh (H := upd _ la _) upd_same hgo
    refine ⟨_, rfl, r, _, rfl, s15.seq hS, for_it (walk_enum (K := K) (a := r) (xs := il row)) (fun i σ H' => (∃ v6 v7 v8, σ = [some (.int n), some (.ref r), some (.ref nd), some (.ref th), some (.ref la), some (.ref go), v6, v7, v8]) ∧ Same H H' ∧ H' nd = some (.dK (mergeK [] (kvS (spellsL row)))) ∧ H' th = some (.dK (kvN row i (bestTo n.toNat row i).C)) ∧
      H' la = some (.lst (NL (bestTo n.toNat row i).lacks)) ∧ ∃ as : List Addr, H' go = some (.lst (as.map V.ref)) ∧ TupsAt H' as (gV (bestTo n.toNat row i).gone)) ?_ (fun i σ H' _ h => h.2.1.seq hS) ?_ ?_⟩
    · refine ⟨⟨_, _, _, rfl⟩, s15, ?_, ?_, ?_, [], upd_same, TupsAt.nil⟩
      · rw [upd_ne ndgo, upd_ne ndla, upd_ne ndth, upd_same]
      · rw [upd_ne thgo, upd_ne thla, upd_same]; rfl
      · rw [upd_ne lago, upd_same]; rfl
    · rintro i x σ H2 H3 hi ⟨⟨v6, v7, v8, rfl⟩, s6, hnd2, hth2, hla2, as, hgo2, hg2⟩ ⟨t, x1, x2, rfl, ht, rfl, ha, hb⟩
      have ea : V.int (i : Nat) = x1 := Option.some.inj ha
      subst ea
      obtain ⟨p, hp, rfl⟩ := il_get hb
      rw [il_len] at hi
      have sT := Same.new (o := .tup [V.int (i : Nat), V.int p]) ht
      have Ok := bestTo_ok hn0 row i
      rw [bestTo_succ hp]
      unfold BS.step
      generalize hB : bestTo n.toNat row i = B at *
      have o1 := Ok.le
      have o2 := Ok.lk
      have o3 := Ok.gn
      have s7 := s6.trans sT
      have hnd3 := sT _ _ hnd2
      have hth3 := sT _ _ hth2
      have hla3 := sT _ _ hla2
      have hgo3 := sT _ _ hgo2
      have hg3 := hg2.same sT
      have hal : as.length ≤ i := by rw [hg2.len, List.length_map]; exact o3
      generalize hH3 : upd H2 t (.tup [V.int (i : Nat), V.int p]) = H3 at *
      refine ⟨t, _, rfl, SqT.of (by rw [← hH3]; exact upd_same), rfl, _, _, rfl, _, _, rfl, rfl, ?_⟩
      -- there[page] = next_asks.get(place, len(row))
      have ge := next_get hp
      refine ⟨_, rfl, _, rfl, th, _, rfl, DGet.k (k := Sum.inl p) hth3, _, rfl, ?_⟩
      rw [kvN_val]
      by_cases hin : p ∈ B.C
      · refine ifF (by rw [if_pos hin]; rfl) ?_
        rw [if_pos hin]
        refine ⟨_, rfl, nd, rfl, .inl ⟨_, .inl hnd3⟩, _, rfl, _, rfl, r, _, rfl, .inl (s7.seq hS), _, DGet.k (k := Sum.inl (i : Int)) hnd3, ?_⟩
        rw [il_len, ge]
        refine ⟨_, rfl, _, rfl, th, _, rfl, DPut.k (k := Sum.inl p) hth3 (szl (by unfold kvN; rw [List.length_map]; omega)), ?_⟩
        rw [kvN_put hp hin]
        refine ⟨⟨_, _, _, rfl⟩, Same.put s7 thH, by rw [upd_ne ndth]; exact hnd3, upd_same, by rw [upd_ne (Ne.symm thla)]; exact hla3, as, by rw [upd_ne (Ne.symm thgo)]; exact hgo3, hg3.put hth3 (by intro u z; cases z)⟩
      · refine ifT (by rw [if_neg hin]; rfl) ?_
        rw [if_neg hin]
        -- lacks.append(place)
        refine ⟨_, rfl, .inl ⟨rfl, _, SqL.of hla3⟩, _, rfl, la, _, _, rfl, rfl, hla3, szl (by rw [List.length_map]; omega), ?_⟩
        rw [NL_snoc]
        have s8 : Same H (upd H3 la (.lst (NL (B.lacks ++ [i])))) := Same.put s7 laH
        have hth4 : upd H3 la (.lst (NL (B.lacks ++ [i]))) th = some (.dK (kvN row i B.C)) := by rw [upd_ne thla]; exact hth3
        have hnd4 : upd H3 la (.lst (NL (B.lacks ++ [i]))) nd = some (.dK (mergeK [] (kvS (spellsL row)))) := by rw [upd_ne ndla]; exact hnd3
        have hgo4 : upd H3 la (.lst (NL (B.lacks ++ [i]))) go = some (.lst (as.map V.ref)) := by rw [upd_ne (Ne.symm lago)]; exact hgo3
        have hg4 : TupsAt (upd H3 la (.lst (NL (B.lacks ++ [i])))) as (gV B.gone) := hg3.put hla3 (by intro u z; cases z)
        have hla4 : upd H3 la (.lst (NL (B.lacks ++ [i]))) la = some (.lst (NL (B.lacks ++ [i]))) := upd_same
        generalize hH4 : upd H3 la (.lst (NL (B.lacks ++ [i]))) = H4 at *
        -- if len(there) == rooms
        refine ⟨_, rfl, th, _, rfl, hth4, _, rfl, rfl, _, rfl, ?_⟩
        have elen : (kvN row i B.C).length = B.C.length := List.length_map _
        by_cases hfull : B.C.length = n.toNat
        · refine ifT (decide_eq_true (by rw [elen]; exact congrArg V.int (by omega))) ?_
          rw [if_pos hfull]
          have hne : B.C ≠ [] := by intro z; rw [z] at hfull; simp at hfull; omega
          have F := far_ok (row := row) (i := i) hne
          -- leaving = _farthest(there)
          refine ⟨_, rfl, th, row, i, B.C, rfl, hth4, hne, by omega, fun H5 s9 => ?_⟩
          generalize hfar : far row i B.C = f at *
          have hgo5 := s9 _ _ hgo4
          -- gone.append((place, leaving))
          refine ⟨_, rfl, .inl ⟨rfl, _, SqL.of hgo5⟩, _, rfl, _, rfl, szd rfl, fun u hu' => ?_⟩
          have sU := Same.new (o := .tup [V.int (i : Nat), V.int f]) hu'
          have hgo6 := sU _ _ hgo5
          refine ⟨go, _, _, rfl, rfl, hgo6, szl (by rw [List.length_map]; omega), ?_⟩
          have s10 : Same H (upd (upd H5 u (.tup [V.int (i : Nat), V.int f])) go (.lst (as.map V.ref ++ [V.ref u]))) := Same.put ((s8.trans s9).trans sU) goH
          have hth6 : upd (upd H5 u (.tup [V.int (i : Nat), V.int f])) go (.lst (as.map V.ref ++ [V.ref u])) th = some (.dK (kvN row i B.C)) := by rw [upd_ne thgo]; exact (s9.trans sU) _ _ hth4
          have hnd6 : upd (upd H5 u (.tup [V.int (i : Nat), V.int f])) go (.lst (as.map V.ref ++ [V.ref u])) nd = some (.dK (mergeK [] (kvS (spellsL row)))) := by rw [upd_ne ndgo]; exact (s9.trans sU) _ _ hnd4
          have hla6 : upd (upd H5 u (.tup [V.int (i : Nat), V.int f])) go (.lst (as.map V.ref ++ [V.ref u])) la = some (.lst (NL (B.lacks ++ [i]))) := by rw [upd_ne lago]; exact (s9.trans sU) _ _ hla4
          have hgo7 : upd (upd H5 u (.tup [V.int (i : Nat), V.int f])) go (.lst (as.map V.ref ++ [V.ref u])) go = some (.lst ((as ++ [u]).map V.ref)) := by rw [upd_same, List.map_append]; rfl
          have hg6 : TupsAt (upd (upd H5 u (.tup [V.int (i : Nat), V.int f])) go (.lst (as.map V.ref ++ [V.ref u]))) (as ++ [u]) (gV (B.gone ++ [(i, f)])) := by
            rw [gV_snoc]
            exact ((hg4.same (s9.trans sU)).snoc (t := u) upd_same).put hgo6 (by intro u z; cases z)
          generalize hH6 : upd (upd H5 u (.tup [V.int (i : Nat), V.int f])) go (.lst (as.map V.ref ++ [V.ref u])) = H6 at *
          -- del there[leaving]
          refine ⟨_, rfl, _, rfl, th, _, Sum.inl f, rfl, hth6, rfl, by rw [kvN_val, if_pos F.mem]; rfl, ?_⟩
          rw [kvN_drop]
          have s11 : Same H (upd H6 th (.dK (kvN row i (B.C.filter (· != f))))) := Same.put s10 thH
          have hnd7 : upd H6 th (.dK (kvN row i (B.C.filter (· != f)))) nd = some (.dK (mergeK [] (kvS (spellsL row)))) := by rw [upd_ne ndth]; exact hnd6
          have hin2 : p ∉ B.C.filter (· != f) := fun z => hin (List.mem_filter.mp z).1
          have hfl := List.length_filter_le (· != f) B.C
          refine ⟨_, rfl, nd, rfl, .inl ⟨_, .inl hnd7⟩, _, rfl, _, rfl, r, _, rfl, .inl (s11.seq hS), _, DGet.k (k := Sum.inl (i : Int)) hnd7, ?_⟩
          rw [il_len, ge]
          refine ⟨_, rfl, _, rfl, th, _, rfl, DPut.k (k := Sum.inl p) upd_same (szl (by unfold kvN; rw [List.length_map]; omega)), ?_⟩
          rw [kvN_new hp hin2, upd_upd]
          exact ⟨⟨_, _, _, rfl⟩, Same.put s10 thH, by rw [upd_ne ndth]; exact hnd6, upd_same, by rw [upd_ne (Ne.symm thla)]; exact hla6, as ++ [u], by rw [upd_ne (Ne.symm thgo)]; exact hgo7, hg6.put hth6 (by intro u z; cases z)⟩
        · refine ifF (decide_eq_false (by intro z; injection z with z; rw [elen] at z; omega)) ?_
          rw [if_neg hfull]
          refine ⟨_, rfl, nd, rfl, .inl ⟨_, .inl hnd4⟩, _, rfl, _, rfl, r, _, rfl, .inl (s8.seq hS), _, DGet.k (k := Sum.inl (i : Int)) hnd4, ?_⟩
          rw [il_len, ge]
          refine ⟨_, rfl, _, rfl, th, _, rfl, DPut.k (k := Sum.inl p) hth4 (szl (by unfold kvN; rw [List.length_map]; omega)), ?_⟩
          rw [kvN_new hp hin]
          exact ⟨⟨_, _, _, rfl⟩, Same.put s8 thH, by rw [upd_ne ndth]; exact hnd4, upd_same, by rw [upd_ne (Ne.symm thla)]; exact hla4, as, by rw [upd_ne (Ne.symm thgo)]; exact hgo4, hg4.put hth4 (by intro u z; cases z)⟩
    · rintro σ H2 ⟨⟨v6, v7, v8, rfl⟩, s6, hnd2, hth2, hla2, as, hgo2, hg2⟩
      rw [il_len] at hla2 hg2
      refine ⟨_, rfl, _, rfl, szd rfl, fun t ht => ?_⟩
      have sT := Same.new (o := .tup [V.ref la, V.ref go]) ht
      exact k t la go as _ (Same.back s6 ht) laH goH lago (s6.trans sT) upd_same (sT _ _ hla2) (sT _ _ hgo2) (hg2.same sT)
-- best is not in this text
end
end CK

/-! The program's dial. -/
namespace CK
open PySem PySem.Spec PyProof.Rows L2
def spCheckPage : Sp := fun vs H Q _ => ∃ p : Int, vs = [.int p] ∧ 0 ≤ p ∧ p < 12 ∧ Q .non H
section
variable {P : Program} {w : World} {K : PySem.W.Frag} {mg : Str → Option Value} {base : Heap}
theorem sc_check_page : FnScope ["page"] ["page"] (defScope (top 12)) := ⟨rfl, rfl, rfl, by decide +kernel, rfl, by decide +kernel, by decide +kernel⟩
theorem ok_check_page (T : Prog K mg) : FnOk P w K mg base CX0 2 T.check_page.f T.check_page.fd ["page"] spCheckPage := by
  have G_is_page := ok_is_page (P := P) (w := w) (base := base) T
  refine T.check_page.fn.ok sc_check_page (fun vs H Q E h => ?len) (fun cdv A outer s H vs Q E hr h => ?body)
  case len =>
    obtain ⟨n, rfl, _⟩ := h
    rfl
  case body =>
    have hr_is_page : Room 1 _ := hr.mono (by decide)
    have hu := hu_of hr
    obtain ⟨p, rfl, p0, p1, k⟩ := h
    refine ⟨_, PSs.nox (pss_one (ps_if (pt_not (pt_val (pe_call G_is_page hr_is_page (by rfl) T.is_page.g T.is_page.fn.kp T.is_page.bd .nil pass0 (pa_cons (pv 0) pa_nil))))
        (pss_one ps_never)
        pss_nil)), ?_⟩
    refine ⟨_, rfl, p, rfl, _, rfl, ?_⟩
    exact ifF (by rw [decide_eq_true ⟨p0, p1⟩]; rfl) k
/-! ### the dial -/
abbrev flD (a b : Addr) (h k : Int) : List (Str × V) := [("_held", .ref a), ("_marks", .ref b), ("_hand", .int h), ("_lacks", .int k)]
/-- a Dial of the class at C stands at p, its rooms' pages at a, their marks at b: s -/
structure DialIs (C : Addr) (H : Hp) (p a b : Addr) (s : DS) : Prop where
  ne : a ≠ b
  ob : ∃ dx, H p = some (.ins C dx (flD a b s.hand s.lacks))
  he : H a = some (.lst (HL s.held))
  ma : H b = some (.lst (BL s.marks))
theorem DialIs.pa {C : Addr} {H : Hp} {p a b : Addr} {s : DS} (D : DialIs C H p a b s) : p ≠ a := by
  obtain ⟨dx, h⟩ := D.ob
  exact ne_of h D.he (by intro z; cases z)
theorem DialIs.pb {C : Addr} {H : Hp} {p a b : Addr} {s : DS} (D : DialIs C H p a b s) : p ≠ b := by
  obtain ⟨dx, h⟩ := D.ob
  exact ne_of h D.ma (by intro z; cases z)
theorem DialIs.but {S : List Addr} {C : Addr} {H H' : Hp} {p a b : Addr} {s : DS} (D : DialIs C H p a b s) (k : But S H H') (h1 : p ∉ S) (h2 : a ∉ S) (h3 : b ∉ S) : DialIs C H' p a b s := by
  obtain ⟨dx, h⟩ := D.ob
  exact ⟨D.ne, ⟨dx, k _ _ h h1⟩, k _ _ D.he h2, k _ _ D.ma h3⟩
theorem DialIs.same {C : Addr} {H H' : Hp} {p a b : Addr} {s : DS} (D : DialIs C H p a b s) (k : Same H H') : DialIs C H' p a b s := D.but (S := []) (But.of k) (by simp) (by simp) (by simp)
/-- the hand goes on by one -/
def spGoOn (C : Addr) : Sp := fun vs H Q _ => ∃ (p a b dx : Addr) (xs : List V) (h k : Nat), vs = [.ref p] ∧ H p = some (.ins C dx (flD a b h k)) ∧ H a = some (.lst xs) ∧ 0 < xs.length ∧
  Q .non (upd H p (.ins C dx (flD a b ((h + 1) % xs.length : Nat) k)))
theorem sc_Dial_go_on : FnScope ["self"] ["self"] (defScope (inClass (top 19) 8)) := ⟨rfl, rfl, rfl, by decide +kernel, rfl, by decide +kernel, by decide +kernel⟩
theorem ok_Dial_go_on (T : Prog K mg) : FnOk P w K mg base CX0 1 T.Dial.go_on.f T.Dial.go_on.fd ["self"] (spGoOn T.Dial.C) := by
  refine T.Dial.go_on.fn.ok sc_Dial_go_on (fun vs H Q E h => ?len) (fun cdv A outer s H vs Q E hr h => ?body)
  case len =>
    obtain ⟨p, a, b, dx, xs, h, k, rfl, _⟩ := h
    rfl
  case body =>
    have hu := hu_of hr
    obtain ⟨p, a, b, dx, xs, h, k, rfl, hp, ha, hx, q⟩ := h
    refine ⟨_, PSs.nox (pss_one (ps_fld (pv 0) (pe_op op_mod (pe_op op_add (pe_fld (pv 0) rfl) pe_int) (pe_callB call_len_seq (by rfl) T.len PySem.boot_len (pa_cons (pe_fld (pv 0) rfl) pa_nil))) rfl)), ?_⟩
    refine ⟨_, rfl, p, _, dx, _, _, rfl, hp, T.Dial.cl, T.Dial.n_hand, rfl, _, _, rfl, rfl, ?_⟩
    refine ⟨_, rfl, p, _, dx, _, _, rfl, hp, T.Dial.cl, T.Dial.n_held, rfl, a, xs, rfl, .inl (SqL.of ha), _, _, rfl, rfl, int0 (by omega), ?_⟩
    refine ⟨_, rfl, p, _, dx, _, rfl, hp, T.Dial.cl, T.Dial.n_hand, by show 4 < 1000; decide, ?_⟩
    have e : (((h : Nat) : Int) + 1) % ((xs.length : Nat) : Int) = (((h + 1) % xs.length : Nat) : Int) := by
      rw [Int.natCast_emod]
      rfl
    have e2 : putF "_hand" (V.int ((((h : Nat) : Int) + 1) % ((xs.length : Nat) : Int))) (flD a b h k) = flD a b ((h + 1) % xs.length : Nat) k := by
      rw [e]
      rfl
    exact e2 ▸ q
/-- a new dial of n rooms -/
def spDInit (C : Addr) : Sp := fun vs H Q _ => ∃ (p dx : Addr) (n : Int), vs = [.ref p, .int n] ∧ H p = some (.ins C dx []) ∧ 1 ≤ n ∧ n ≤ 8 ∧
  ∀ (a b : Addr) (H' : Hp), H a = none → H b = none → DialIs C H' p a b (DS.new n.toNat) → But [p] H H' → Q .non H'
theorem sc_Dial_init : FnScope ["self", "rooms"] ["self", "rooms"] (defScope (inClass (top 19) 0)) := ⟨rfl, rfl, rfl, by decide +kernel, rfl, by decide +kernel, by decide +kernel⟩
theorem ok_Dial_init (T : Prog K mg) : FnOk P w K mg base CX0 2 T.Dial.init.f T.Dial.init.fd ["self", "rooms"] (spDInit T.Dial.C) := by
  have G_check_rooms := ok_check_rooms (P := P) (w := w) (base := base) T
  refine T.Dial.init.fn.ok sc_Dial_init (fun vs H Q E h => ?len) (fun cdv A outer s H vs Q E hr h => ?body)
  case len =>
    obtain ⟨p, dx, n, rfl, _⟩ := h
    rfl
  case body =>
    have hr_check_rooms : Room 1 _ := hr.mono (by decide)
    have hu := hu_of hr
    obtain ⟨p, dx, n, rfl, hp, n1, n8, k⟩ := h
    refine ⟨_, PSs.nox (pss_cons (ps_expr (pe_call G_check_rooms hr_check_rooms (by rfl) T.check_rooms.g T.check_rooms.fn.kp T.check_rooms.bd .nil pass0 (pa_cons (pv 1) pa_nil)))
        (pss_cons (ps_fld (pv 0) (pe_op op_rep (pe_lst (pa_cons pe_non pa_nil)) (pv 1)) rfl)
        (pss_cons (ps_fld (pv 0) (pe_op op_rep (pe_lst (pa_cons pe_bl pa_nil)) (pv 1)) rfl)
        (pss_cons (ps_fld (pv 0) pe_int rfl)
        (pss_one (ps_fld (pv 0) pe_int rfl)))))), ?_⟩
    refine ⟨_, rfl, n, rfl, n1, n8, ?_⟩
    -- self._held = [None] * rooms
    refine ⟨szd rfl, fun e he => ?_⟩
    have pe : p ≠ e := ne_fresh hp he
    refine ⟨_, rfl, e, n, _, rfl, rfl, upd_same, by omega, by omega, sz (by show 1 * n.toNat ≤ 100000; omega), fun a ha => ?_⟩
    have s1 : Same H (upd H e (.lst [.non])) := Same.new he
    have haH := Same.back s1 ha
    have hp1 : upd H e (.lst [.non]) p = some (.ins T.Dial.C dx []) := s1 _ _ hp
    have pa : p ≠ a := ne_fresh hp1 ha
    have ea : e ≠ a := ne_fresh (H := upd H e (.lst [.non])) upd_same ha
    refine ⟨_, rfl, p, _, dx, _, rfl, by rw [upd_ne pa]; exact hp1, T.Dial.cl, T.Dial.n_held, by show 0 < 1000; decide, ?_⟩
    -- self._marks = [False] * rooms
    refine ⟨szd rfl, fun e2 he2 => ?_⟩
    have pe2 : p ≠ e2 := ne_fresh upd_same he2
    have ae2 : a ≠ e2 := ne_fresh (by rw [upd_ne (Ne.symm pa)]; exact upd_same) he2
    refine ⟨_, rfl, e2, n, _, rfl, rfl, upd_same, by omega, by omega, sz (by show 1 * n.toNat ≤ 100000; omega), fun b hb => ?_⟩
    have pb : p ≠ b := ne_fresh (by rw [upd_ne pe2]; exact upd_same) hb
    have ab : a ≠ b := ne_fresh (by rw [upd_ne ae2, upd_ne (Ne.symm pa)]; exact upd_same) hb
    refine ⟨_, rfl, p, _, dx, _, rfl, by rw [upd_ne pb, upd_ne pe2]; exact upd_same, T.Dial.cl, T.Dial.n_marks, by show 1 < 1000; decide, ?_⟩
    -- self._hand = 0; self._lacks = 0
    refine ⟨_, rfl, p, _, dx, _, rfl, upd_same, T.Dial.cl, T.Dial.n_hand, by show 2 < 1000; decide, ?_⟩
    refine ⟨_, rfl, p, _, dx, _, rfl, upd_same, T.Dial.cl, T.Dial.n_lacks, by show 3 < 1000; decide, ?_⟩
    rw [upd_upd, upd_upd]
    have bH : H b = none := by
      have q := hb
      by_cases z1 : b = e2
      · rw [z1] at q; rw [upd_same] at q; cases q
      rw [upd_ne z1, upd_ne (Ne.symm pb), upd_ne (Ne.symm ab)] at q
      exact Same.back s1 q
    refine k a b _ haH bH ⟨ab, ⟨dx, ?_⟩, ?_, ?_⟩ ?_
    · rw [upd_same]; rfl
    · rw [upd_ne (Ne.symm pa), upd_ne ab, upd_ne ae2, upd_ne (Ne.symm pa), upd_same, rep_one, hl_new]
    · rw [upd_ne (Ne.symm pb), upd_same, rep_one, bl_new]
    · intro c o hc hn
      have c1 : c ≠ p := by simpa using hn
      have c2 : c ≠ e := ne_fresh hc he
      have c3 : c ≠ a := ne_fresh hc haH
      have c4 : c ≠ b := ne_fresh hc bH
      have c5 : c ≠ e2 := by
        intro z
        rw [z] at hc c1 c3
        rw [upd_ne c1, upd_ne c3] at he2
        have := s1 _ _ hc
        rw [he2] at this
        cases this
      rw [upd_ne c1, upd_ne c4, upd_ne c5, upd_ne c1, upd_ne c3, upd_ne c2]
      exact hc
/-- the hand past the marked rooms -/
def spPass (C : Addr) : Sp := fun vs H Q _ => ∃ (p a b : Addr) (s : DS) (n : Nat), vs = [.ref p] ∧ DialIs C H p a b s ∧ s.WF n ∧ n ≤ 8 ∧
  ∀ (l : Addr) (H' : Hp), H l = none → H' l = some (.lst (NL s.pass.2.2)) → DialIs C H' p a b { s with marks := s.pass.1, hand := s.pass.2.1 } → But [p, b] H H' → Q (.ref l) H'
theorem sc_Dial_pass_marked : FnScope ["self", "passed"] ["self"] (defScope (inClass (top 19) 6)) := ⟨rfl, rfl, rfl, by decide +kernel, rfl, by decide +kernel, by decide +kernel⟩
theorem ok_Dial_pass_marked (T : Prog K mg) : FnOk P w K mg base CX0 2 T.Dial.pass_marked.f T.Dial.pass_marked.fd ["self"] (spPass T.Dial.C) := by
  have G_go_on := ok_Dial_go_on (P := P) (w := w) (base := base) T
  refine T.Dial.pass_marked.fn.ok sc_Dial_pass_marked (fun vs H Q E h => ?len) (fun cdv A outer s H vs Q E hr h => ?body)
  case len =>
    obtain ⟨p, a, b, s, n, rfl, _⟩ := h
    rfl
  case body =>
    have hr_go_on : Room 1 _ := hr.mono (by decide)
    have hu := hu_of hr
    obtain ⟨p, a, b, s, n, rfl, D, W, n8, k⟩ := h
    refine ⟨_, PSs.nox (pss_cons (ps_set (i := 1) sc_Dial_pass_marked.nd rfl (Or.inl rfl) (pe_lst pa_nil))
        (pss_cons (ps_while PassesOwn.never (pt_val (pe_ix ix_list (pe_fld (pv 0) rfl) (pe_fld (pv 0) rfl) (fun _ _ => rfl)))
        (pss_cons (ps_asg pe_bl (pg_sub (pe_fld (pv 0) rfl) (pe_fld (pv 0) rfl) set_list))
        (pss_cons (ps_expr (pe_bm PySem.F.plainAttrs_list PySem.F.slot_list_append PySem.F.type_list_append mt_append (pv 1) (pa_cons (pe_fld (pv 0) rfl) pa_nil)))
        (pss_one (ps_expr (pe_meth0 (pv 0) T.Dial.cl T.Dial.go_on.me G_go_on hr_go_on T.Dial.go_on.bd .nil pass0))))))
        (pss_one (ps_ret (pv 1))))), ?_⟩
    refine ⟨szd rfl, fun l hl => ?_⟩
    have s0 : Same H (upd H l (.lst [])) := Same.new hl
    let St : Nat → L2.St → Hp → Prop := fun c σ H' => ∃ (m : List Bool) (h : Nat) (acc : List Nat), σ = [some (.ref p), some (.ref l)] ∧ PassInv s.pass m h acc ∧ m.length = n ∧ h < n ∧ c = m.count true ∧ acc.length + c = s.marks.count true ∧
      DialIs T.Dial.C H' p a b { s with marks := m, hand := h } ∧ H' l = some (.lst (NL acc)) ∧ But [p, b] H H'
    refine ⟨St, ⟨_, s.marks, s.hand, [], rfl, PassInv.start _ _, W.m, W.n, rfl, by simp, D.same s0, upd_same, But.of s0⟩, ?_⟩
    rintro c σ H1 ⟨m, h, acc, rfl, I, hm, hh, rfl, hc, D1, hl1, k1⟩
    obtain ⟨dx, hp1⟩ := D1.ob
    have hcm : s.marks.count true ≤ 8 := Nat.le_trans List.count_le_length (by rw [W.m]; exact n8)
    have hat : m[h]? = some (m[h]'(by omega)) := List.getElem?_eq_getElem _
    refine ⟨_, rfl, p, _, dx, _, _, rfl, hp1, T.Dial.cl, T.Dial.n_marks, rfl, _, rfl, p, _, dx, _, _, rfl, hp1, T.Dial.cl, T.Dial.n_hand, rfl, b, _, _, _, rfl, rfl, SqL.of D1.ma, atI_nat (bl_at hat), _, rfl, ?_⟩
    have pb := D1.pb
    have pa := D1.pa
    have lp : l ≠ p := by intro z; rw [z] at hl1; rw [hp1] at hl1; cases hl1
    have lb : l ≠ b := by
      obtain ⟨dx0, hp0⟩ := D.ob
      intro z
      rw [z] at hl
      rw [D.ma] at hl
      cases hl
    have la : l ≠ a := by
      intro z
      rw [z] at hl
      rw [D.he] at hl
      cases hl
    by_cases ht : m[h]'(by omega) = true
    · rw [ht] at hat ⊢
      refine iteT ⟨fun σ' H' => ∃ c', c' < m.count true ∧ St c' σ' H', fun σ' H' q => q, ?_⟩
      -- self._marks[self._hand] = False
      refine ⟨_, rfl, p, _, dx, _, _, rfl, hp1, T.Dial.cl, T.Dial.n_marks, rfl, _, rfl, p, _, dx, _, _, rfl, hp1, T.Dial.cl, T.Dial.n_hand, rfl, b, _, _, _, rfl, rfl, D1.ma, ixn rfl (by simp; omega), ?_⟩
      rw [bl_set]
      -- passed.append(self._hand)
      have hp2 : upd H1 b (.lst (BL (m.set h false))) p = some (.ins T.Dial.C dx (flD a b h s.lacks)) := by rw [upd_ne pb]; exact hp1
      have hl2 : upd H1 b (.lst (BL (m.set h false))) l = some (.lst (NL acc)) := by rw [upd_ne lb]; exact hl1
      refine ⟨_, rfl, .inl ⟨rfl, _, SqL.of hl2⟩, _, rfl, p, _, dx, _, _, rfl, hp2, T.Dial.cl, T.Dial.n_hand, rfl, l, _, _, rfl, rfl, hl2, szl (by simp; omega), ?_⟩
      -- self._go_on()
      have hp3 : upd (upd H1 b (.lst (BL (m.set h false)))) l (.lst (NL acc ++ [V.int h])) p = some (.ins T.Dial.C dx (flD a b h s.lacks)) := by rw [upd_ne (Ne.symm lp)]; exact hp2
      have ha3 : upd (upd H1 b (.lst (BL (m.set h false)))) l (.lst (NL acc ++ [V.int h])) a = some (.lst (HL s.held)) := by rw [upd_ne (Ne.symm la), upd_ne D1.ne]; exact D1.he
      refine ⟨_, rfl, p, dx, _, rfl, hp3, rfl, p, a, b, dx, _, h, s.lacks, rfl, hp3, ha3, by simp [W.h]; omega, ?_⟩
      have cs := count_set hat
      have hn0 : 0 < n := by omega
      refine ⟨_, by omega, m.set h false, (h + 1) % m.length, acc ++ [h], rfl, I.go hat, by rw [List.length_set]; exact hm, by rw [hm]; exact Nat.mod_lt _ hn0, rfl, by rw [List.length_append]; simp; omega, ⟨D1.ne, ⟨dx, ?_⟩, ?_, ?_⟩, ?_, ?_⟩
      · rw [upd_same]
        have e : (HL s.held).length = m.length := by simp [W.h, hm]
        rw [e]
      · rw [upd_ne (Ne.symm pa)]; exact ha3
      · rw [upd_ne (Ne.symm pb), upd_ne (Ne.symm lb), upd_same]
      · rw [upd_ne lp, upd_same]
        show _ = some (HO.lst ((acc ++ [h]).map fun n : Nat => V.int (n : Int)))
        rw [List.map_append]
        rfl
      · intro c o hc hn
        have hn' : c ≠ p ∧ c ≠ b := by simpa using hn
        rw [upd_ne hn'.1, upd_ne (ne_fresh hc hl), upd_ne hn'.2]
        exact k1 c o hc hn
    · have hf : m[h]'(by omega) = false := by simpa using ht
      rw [hf] at hat ⊢
      have e := I.end hat
      refine iteF ⟨_, rfl, k l H1 hl (by rw [e]; exact hl1) ?_ k1⟩
      rw [e]
      exact D1
/-- the asked page to the room of the hand; the one that was there -/
def spExch (C : Addr) : Sp := fun vs H Q _ => ∃ (p a b : Addr) (s : DS) (n : Nat) (pg : Int), vs = [.ref p, .int pg] ∧ DialIs C H p a b s ∧ s.WF n ∧
  ∀ H' : Hp, DialIs C H' p a b ⟨s.held.set s.hand (some pg), s.marks.set s.hand true, (s.hand + 1) % s.held.length, s.lacks⟩ → But [p, a, b] H H' → Q (pgV ((s.held[s.hand]?).getD none)) H'
theorem sc_Dial_exchange : FnScope ["self", "page", "gone"] ["self", "page"] (defScope (inClass (top 19) 7)) := ⟨rfl, rfl, rfl, by decide +kernel, rfl, by decide +kernel, by decide +kernel⟩
theorem ok_Dial_exchange (T : Prog K mg) : FnOk P w K mg base CX0 2 T.Dial.exchange.f T.Dial.exchange.fd ["self", "page"] (spExch T.Dial.C) := by
  have G_go_on := ok_Dial_go_on (P := P) (w := w) (base := base) T
  refine T.Dial.exchange.fn.ok sc_Dial_exchange (fun vs H Q E h => ?len) (fun cdv A outer s H vs Q E hr h => ?body)
  case len =>
    obtain ⟨p, a, b, s, n, pg, rfl, _⟩ := h
    rfl
  case body =>
    have hr_go_on : Room 1 _ := hr.mono (by decide)
    have hu := hu_of hr
    obtain ⟨p, a, b, s, n, pg, rfl, D, W, k⟩ := h
    refine ⟨_, PSs.nox (pss_cons (ps_set (i := 2) sc_Dial_exchange.nd rfl (Or.inl rfl) (pe_ix ix_list (pe_fld (pv 0) rfl) (pe_fld (pv 0) rfl) (fun _ _ => rfl)))
        (pss_cons (ps_asg (pv 1) (pg_sub (pe_fld (pv 0) rfl) (pe_fld (pv 0) rfl) set_list))
        (pss_cons (ps_asg pe_bl (pg_sub (pe_fld (pv 0) rfl) (pe_fld (pv 0) rfl) set_list))
        (pss_cons (ps_expr (pe_meth0 (pv 0) T.Dial.cl T.Dial.go_on.me G_go_on hr_go_on T.Dial.go_on.bd .nil pass0))
        (pss_one (ps_ret (pv 2))))))), ?_⟩
    obtain ⟨dx, hp⟩ := D.ob
    have pb := D.pb
    have pa := D.pa
    have hlt : s.hand < s.held.length := by rw [W.h]; exact W.n
    have hat : s.held[s.hand]? = some (s.held[s.hand]'hlt) := List.getElem?_eq_getElem _
    rw [hat] at k
    -- gone = self._held[self._hand]
    refine ⟨_, rfl, p, _, dx, _, _, rfl, hp, T.Dial.cl, T.Dial.n_held, rfl, _, rfl, p, _, dx, _, _, rfl, hp, T.Dial.cl, T.Dial.n_hand, rfl, a, _, _, _, rfl, rfl, SqL.of D.he, atI_nat (hl_at hat), ?_⟩
    -- self._held[self._hand] = page
    refine ⟨_, rfl, _, rfl, p, _, dx, _, _, rfl, hp, T.Dial.cl, T.Dial.n_held, rfl, _, rfl, p, _, dx, _, _, rfl, hp, T.Dial.cl, T.Dial.n_hand, rfl, a, _, _, _, rfl, rfl, D.he, ixn rfl (by simp; exact hlt), ?_⟩
    rw [hl_set]
    have hp1 : upd H a (.lst (HL (s.held.set s.hand (some pg)))) p = some (.ins T.Dial.C dx (flD a b s.hand s.lacks)) := by rw [upd_ne pa]; exact hp
    have hb1 : upd H a (.lst (HL (s.held.set s.hand (some pg)))) b = some (.lst (BL s.marks)) := by rw [upd_ne (Ne.symm D.ne)]; exact D.ma
    -- self._marks[self._hand] = True
    refine ⟨_, rfl, p, _, dx, _, _, rfl, hp1, T.Dial.cl, T.Dial.n_marks, rfl, _, rfl, p, _, dx, _, _, rfl, hp1, T.Dial.cl, T.Dial.n_hand, rfl, b, _, _, _, rfl, rfl, hb1, ixn rfl (by simp [W.m]; exact W.n), ?_⟩
    rw [bl_set]
    have hp2 : ∀ o, upd (upd H a (.lst (HL (s.held.set s.hand (some pg))))) b o p = some (.ins T.Dial.C dx (flD a b s.hand s.lacks)) := fun o => by rw [upd_ne pb]; exact hp1
    have ha2 : ∀ o, upd (upd H a (.lst (HL (s.held.set s.hand (some pg))))) b o a = some (.lst (HL (s.held.set s.hand (some pg)))) := fun o => by rw [upd_ne D.ne, upd_same]
    refine ⟨_, rfl, p, dx, _, rfl, hp2 _, rfl, p, a, b, dx, _, s.hand, s.lacks, rfl, hp2 _, ha2 _, by simp [W.h]; exact W.pos, ?_⟩
    refine ⟨_, rfl, k _ ⟨D.ne, ⟨dx, ?_⟩, ?_, ?_⟩ ?_⟩
    · rw [upd_same]
      have e : (HL (s.held.set s.hand (some pg))).length = s.held.length := by simp
      rw [e]
    · rw [upd_ne (Ne.symm pa)]; exact ha2 _
    · rw [upd_ne (Ne.symm pb), upd_same]
    · exact ((But.put (by simp)).trans (But.put (by simp))).trans (But.put (by simp))
/-- an ask -/
def spAsk (C : Addr) : Sp := fun vs H Q _ => ∃ (p a b : Addr) (s : DS) (n : Nat) (pg : Int), vs = [.ref p, .int pg] ∧ DialIs C H p a b s ∧ s.WF n ∧ n ≤ 8 ∧ 0 ≤ pg ∧ pg < 12 ∧
  ∀ (t l : Addr) (H' : Hp), H t = none → H l = none → t ≠ l → H' t = some (.tup [.bl (s.tells pg).1, pgV (s.tells pg).2.1, .ref l]) → H' l = some (.lst (NL (s.tells pg).2.2)) → DialIs C H' p a b (s.ask pg) → But [p, a, b] H H' → Q (.ref t) H'
theorem sc_Dial_ask : FnScope ["self", "page", "passed", "gone"] ["self", "page"] (defScope (inClass (top 19) 1)) := ⟨rfl, rfl, rfl, by decide +kernel, rfl, by decide +kernel, by decide +kernel⟩
theorem ok_Dial_ask (T : Prog K mg) : FnOk P w K mg base CX0 3 T.Dial.ask.f T.Dial.ask.fd ["self", "page"] (spAsk T.Dial.C) := by
  have G_check_page := ok_check_page (P := P) (w := w) (base := base) T
  have G_pass_marked := ok_Dial_pass_marked (P := P) (w := w) (base := base) T
  have G_exchange := ok_Dial_exchange (P := P) (w := w) (base := base) T
  refine T.Dial.ask.fn.ok sc_Dial_ask (fun vs H Q E h => ?len) (fun cdv A outer s H vs Q E hr h => ?body)
  case len =>
    obtain ⟨p, a, b, s, n, pg, rfl, _⟩ := h
    rfl
  case body =>
    have hr_check_page : Room 2 _ := hr.mono (by decide)
    have hr_pass_marked : Room 2 _ := hr.mono (by decide)
    have hr_exchange : Room 2 _ := hr.mono (by decide)
    have hu := hu_of hr
    obtain ⟨p, a, b, s, n, pg, rfl, D, W, n8, g0, g1, k⟩ := h
    refine ⟨_, PSs.nox (pss_cons (ps_expr (pe_call G_check_page hr_check_page (by rfl) T.check_page.g T.check_page.fn.kp T.check_page.bd .nil pass0 (pa_cons (pv 1) pa_nil)))
        (pss_cons (ps_if (pt_cmpR op_in_seq (pv 1) (pe_fld (pv 0) rfl) (by rfl))
        (pss_cons (ps_asg pe_bl (pg_sub (pe_fld (pv 0) rfl) (pe_bm PySem.F.plainAttrs_list PySem.F.slot_list_index PySem.F.type_list_index mt_index (pe_fld (pv 0) rfl) (pa_cons (pv 1) pa_nil)) set_list))
        (pss_one (ps_ret (pe_tup (pa_cons pe_bl (pa_cons pe_non (pa_cons (pe_lst pa_nil) pa_nil)))))))
        pss_nil)
        (pss_cons (ps_fldaug (pv 0) pe_int in_add)
        (pss_cons (ps_set (i := 2) sc_Dial_ask.nd rfl (Or.inl rfl) (pe_meth0 (pv 0) T.Dial.cl T.Dial.pass_marked.me G_pass_marked hr_pass_marked T.Dial.pass_marked.bd .nil pass0))
        (pss_cons (ps_set (i := 3) sc_Dial_ask.nd rfl (Or.inl rfl) (pe_meth (pv 0) T.Dial.cl T.Dial.exchange.me G_exchange hr_exchange T.Dial.exchange.bd .nil pass0 (pa_cons (pv 1) pa_nil)))
        (pss_one (ps_ret (pe_tup (pa_cons pe_bl (pa_cons (pv 3) (pa_cons (pv 2) pa_nil))))))))))), ?_⟩
    obtain ⟨dx, hp⟩ := D.ob
    have pb := D.pb
    have pa := D.pa
    refine ⟨_, rfl, pg, rfl, g0, g1, ?_⟩
    -- if page in self._held
    refine ⟨_, rfl, _, rfl, p, _, dx, _, _, rfl, hp, T.Dial.cl, T.Dial.n_held, rfl, a, _, rfl, .inl (SqL.of D.he), rfl, flat_hl _, _, rfl, ?_⟩
    have e0 : (if false = true then !inV (V.int pg) (HL s.held) else inV (V.int pg) (HL s.held)) = decide (some pg ∈ s.held) := by
      rw [if_neg (by simp), inV_hl]
    by_cases hin : some pg ∈ s.held
    · refine ifT (by rw [e0]; exact decide_eq_true hin) ?_
      have eT : s.tells pg = (false, none, []) := by unfold DS.tells; rw [if_pos hin]
      have eA : s.ask pg = s.hit pg := by unfold DS.ask; rw [if_pos hin]
      rw [eT, eA] at k
      have hj : s.held.idxOf (some pg) < n := by rw [← W.h]; exact List.idxOf_lt_length_of_mem hin
      -- self._marks[self._held.index(page)] = True
      refine ⟨_, rfl, p, _, dx, _, _, rfl, hp, T.Dial.cl, T.Dial.n_marks, rfl, _, rfl, p, _, dx, _, _, rfl, hp, T.Dial.cl, T.Dial.n_held, rfl, .inl ⟨rfl, _, SqL.of D.he⟩, _, rfl, a, _, _, s.held.idxOf (some pg), _, rfl, rfl, SqL.of D.he, rfl, flat_hl _, hl_at (idx_at hin), ?_, ?_, ?_⟩
      · rw [eqV_pg]; exact decide_eq_true rfl
      · intro m z' hm hz
        rw [List.getElem?_map] at hz
        cases q : s.held[m]? with
        | none => rw [q] at hz; cases hz
        | some y =>
          rw [q] at hz
          have ez : pgV y = z' := Option.some.inj hz
          rw [← ez, eqV_pg]
          exact decide_eq_false (idx_no hm q)
      refine ⟨b, _, _, _, rfl, rfl, D.ma, ixn rfl (by simp [W.m]; exact hj), ?_⟩
      rw [bl_set]
      -- return False, None, []
      refine ⟨szd rfl, fun l hl => ⟨szd rfl, fun t ht => ?_⟩⟩
      have s1 : But [p, a, b] H (upd H b (.lst (BL (s.marks.set (s.held.idxOf (some pg)) true)))) := But.put (by simp)
      have lb : l ≠ b := by intro z; rw [z, upd_same] at hl; cases hl
      have tb : t ≠ b := by intro z; rw [z, upd_ne (Ne.symm lb), upd_same] at ht; cases ht
      have tl : t ≠ l := by intro z; rw [z, upd_same] at ht; cases ht
      have hl' : H l = none := by rw [upd_ne lb] at hl; exact hl
      have ht' : H t = none := by rw [upd_ne tl, upd_ne tb] at ht; exact ht
      have hit : DialIs T.Dial.C (upd H b (.lst (BL (s.marks.set (s.held.idxOf (some pg)) true)))) p a b (s.hit pg) :=
        ⟨D.ne, ⟨dx, by rw [upd_ne pb]; exact hp⟩, by rw [upd_ne D.ne]; exact D.he, upd_same⟩
      exact k t l _ ht' hl' tl upd_same (by rw [upd_ne (Ne.symm tl)]; exact upd_same) ((hit.same (Same.new hl)).same (Same.new ht)) ((s1.trans (But.new hl)).trans (But.new ht))
    · refine ifF (by rw [e0]; exact decide_eq_false hin) ?_
      have eT : s.tells pg = (true, (s.held[s.pass.2.1]?).getD none, s.pass.2.2) := by unfold DS.tells; rw [if_neg hin]
      have eA : s.ask pg = s.lack pg := by unfold DS.ask; rw [if_neg hin]
      rw [eT, eA] at k
      -- self._lacks += 1
      refine ⟨_, rfl, p, _, dx, _, _, rfl, hp, T.Dial.cl, T.Dial.n_lacks, rfl, _, _, rfl, rfl, dx, _, hp, by show 4 < 1000; decide, ?_⟩
      have D1 : DialIs T.Dial.C (upd H p (.ins T.Dial.C dx (putF "_lacks" (V.int ((s.lacks : Int) + 1)) (flD a b s.hand s.lacks)))) p a b { s with lacks := s.lacks + 1 } :=
        ⟨D.ne, ⟨dx, by rw [upd_same]; rfl⟩, by rw [upd_ne (Ne.symm pa)]; exact D.he, by rw [upd_ne (Ne.symm pb)]; exact D.ma⟩
      have k1 : But [p, a, b] H (upd H p (.ins T.Dial.C dx (putF "_lacks" (V.int ((s.lacks : Int) + 1)) (flD a b s.hand s.lacks)))) := But.put (by simp)
      have W1 : DS.WF { s with lacks := s.lacks + 1 } n := ⟨W.h, W.m, W.n⟩
      -- passed = self._pass_marked()
      obtain ⟨dx1, hp1⟩ := D1.ob
      refine ⟨_, rfl, p, dx1, _, rfl, hp1, rfl, p, a, b, _, n, rfl, D1, W1, n8, fun l H2 hl hl2 D2 k2 => ?_⟩
      have hlH : H l = none := k1.back hl (by
        obtain ⟨_, q⟩ := D1.ob
        have z1 := ne_fresh q hl
        have z2 := ne_fresh D1.he hl
        have z3 := ne_fresh D1.ma hl
        simp [Ne.symm z1, Ne.symm z2, Ne.symm z3])
      -- gone = self._exchange(page)
      obtain ⟨dx2, hp2⟩ := D2.ob
      have W2 : DS.WF { s with lacks := s.lacks + 1, marks := s.pass.1, hand := s.pass.2.1 } n := ⟨W.h, W.passm, W.passlt⟩
      refine ⟨_, rfl, p, dx2, _, rfl, hp2, rfl, _, rfl, p, a, b, _, n, pg, rfl, D2, W2, fun H3 D3 k3 => ?_⟩
      have lS : l ∉ [p, a, b] := by
        have z1 := ne_fresh hp hlH
        have z2 := ne_fresh D.he hlH
        have z3 := ne_fresh D.ma hlH
        simp [Ne.symm z1, Ne.symm z2, Ne.symm z3]
      have hl3 : H3 l = some (.lst (NL s.pass.2.2)) := k3 l _ hl2 lS
      have k03 : But [p, a, b] H H3 := (k1.trans (k2.mono (by simp))).trans k3
      -- return True, gone, passed
      refine ⟨_, rfl, _, rfl, szd rfl, fun t ht => ?_⟩
      have tl : t ≠ l := Ne.symm (ne_fresh hl3 ht)
      have htH : H t = none := k03.back ht (by
        obtain ⟨_, q⟩ := D3.ob
        have z1 := ne_fresh q ht
        have z2 := ne_fresh D3.he ht
        have z3 := ne_fresh D3.ma ht
        simp [Ne.symm z1, Ne.symm z2, Ne.symm z3])
      exact k t l _ htH hlH tl upd_same (by rw [upd_ne (Ne.symm tl)]; exact hl3) (D3.same (Same.new ht)) (k03.trans (But.new ht))
/-- what an ask told stands at t -/
def TellAt (H : Hp) (t : Addr) (x : Bool × Option Int × List Nat) : Prop := ∃ l : Addr, t ≠ l ∧ H t = some (.tup [.bl x.1, pgV x.2.1, .ref l]) ∧ H l = some (.lst (NL x.2.2))
/-- the tuples at as are what was told, xs: new since H, none of them at a place of S -/
structure TellsAt (S : List Addr) (H H' : Hp) (as : List Addr) (xs : List (Bool × Option Int × List Nat)) : Prop where
  len : as.length = xs.length
  at_ : ∀ (i : Nat) (a : Addr) (x : Bool × Option Int × List Nat), as[i]? = some a → xs[i]? = some x → H a = none ∧ a ∉ S ∧ ∃ l : Addr, H l = none ∧ l ∉ S ∧ a ≠ l ∧ H' a = some (.tup [.bl x.1, pgV x.2.1, .ref l]) ∧ H' l = some (.lst (NL x.2.2))
theorem TellsAt.but {S S' : List Addr} {H H' H'' : Hp} {as : List Addr} {xs : List (Bool × Option Int × List Nat)} (t : TellsAt S H H' as xs) (k : But S' H' H'') (hS : ∀ a ∈ S', a ∈ S) : TellsAt S H H'' as xs := by
  refine ⟨t.len, fun i a x ha hx => ?_⟩
  obtain ⟨h1, n1, l, h2, n2, h3, h4, h5⟩ := t.at_ i a x ha hx
  exact ⟨h1, n1, l, h2, n2, h3, k _ _ h4 fun z => n1 (hS _ z), k _ _ h5 fun z => n2 (hS _ z)⟩
theorem TellsAt.snoc {S : List Addr} {H H' : Hp} {as : List Addr} {xs : List (Bool × Option Int × List Nat)} {t l : Addr} {x : Bool × Option Int × List Nat} (T : TellsAt S H H' as xs) (h1 : H t = none) (n1 : t ∉ S) (h2 : H l = none) (n2 : l ∉ S) (h3 : t ≠ l)
    (h4 : H' t = some (.tup [.bl x.1, pgV x.2.1, .ref l])) (h5 : H' l = some (.lst (NL x.2.2))) : TellsAt S H H' (as ++ [t]) (xs ++ [x]) := by
  refine ⟨by simp [T.len], fun j c y hc hy => ?_⟩
  by_cases hj : j < as.length
  · rw [List.getElem?_append_left hj] at hc
    rw [List.getElem?_append_left (by rw [← T.len]; exact hj)] at hy
    exact T.at_ j c y hc hy
  · have ej : j = as.length := by
      have := (List.getElem?_eq_some_iff.mp hc).1
      simp at this
      omega
    subst ej
    rw [List.getElem?_append_right (Nat.le_refl _), Nat.sub_self] at hc
    rw [List.getElem?_append_right (by rw [T.len]; exact Nat.le_refl _), T.len, Nat.sub_self] at hy
    have ec : t = c := Option.some.inj hc
    have ex := Option.some.inj hy
    subst ec
    rw [← ex]
    exact ⟨h1, n1, l, h2, n2, h3, h4, h5⟩
end
end CK

/-! The rules. -/
namespace CK
open PySem PySem.Spec PyProof.Rows L2
/-- a new list of the places of the lacks -/
def spBy (K : PySem.W.Frag) (rule : Rl) : Sp := fun vs H Q _ => ∃ (n : Int) (r : Addr) (row : List Int), vs = [.int n, .ref r] ∧ 1 ≤ n ∧ n ≤ 8 ∧ SqL K H r (il row) ∧ RowOk row ∧
  ∀ (d : Addr) (H' : Hp), H d = none → Same H H' → H' d = some (.lst (NL (lacksR n.toNat rule row))) → Q (.ref d) H'
def spByLine (K : PySem.W.Frag) : Sp := fun vs H Q _ => ∃ (n : Int) (r : Addr) (row : List Int) (re : Bool), vs = [.int n, .ref r, .bl re] ∧ 1 ≤ n ∧ n ≤ 8 ∧ SqL K H r (il row) ∧ RowOk row ∧
  ∀ (d : Addr) (H' : Hp), H d = none → Same H H' → H' d = some (.lst (NL (placesT 0 (lineL n.toNat re [] row)))) → Q (.ref d) H'
def spCheckRule : Sp := fun vs H Q _ => ∃ rule : Rl, vs = [.str rule.s] ∧ Q .non H
def spLacking (K : PySem.W.Frag) : Sp := fun vs H Q _ => ∃ (n : Int) (r : Addr) (row : List Int) (rule : Rl), vs = [.int n, .ref r, .str rule.s] ∧ 1 ≤ n ∧ n ≤ 8 ∧ SqL K H r (il row) ∧ RowOk row ∧
  ∀ (d : Addr) (H' : Hp), H d = none → Same H H' → H' d = some (.lst (NL (lacksR n.toNat rule row))) → Q (.ref d) H'
theorem il_erase {ns : List Int} {j : Nat} : (il ns).eraseIdx j = il (ns.eraseIdx j) := by
  show (ns.map V.int).eraseIdx j = (ns.eraseIdx j).map V.int
  induction ns generalizing j with
  | nil => rfl
  | cons a r ih =>
    cases j with
    | zero => rfl
    | succ j => exact congrArg (V.int a :: ·) ih
section
variable {P : Program} {w : World} {K : PySem.W.Frag} {mg : Str → Option Value} {base : Heap}
theorem sc_by_line : FnScope ["rooms", "row", "renewed", "line", "lacks", "place", "page"] ["rooms", "row", "renewed"] (defScope (top 24)) := ⟨rfl, rfl, rfl, by decide +kernel, rfl, by decide +kernel, by decide +kernel⟩
theorem ok_by_line (T : Prog K mg) : FnOk P w K mg base CX0 1 T.by_line.f T.by_line.fd ["rooms", "row", "renewed"] (spByLine K) := by
  refine T.by_line.fn.ok sc_by_line (fun vs H Q E h => ?len) (fun cdv A outer s H vs Q E hr h => ?body)
  case len =>
    obtain ⟨n, r, row, re, rfl, _⟩ := h
    rfl
  case body =>
    have hu := hu_of hr
    obtain ⟨n, r, row, re, rfl, n1, n8, hS, hR, k⟩ := h
    refine ⟨_, PSs.nox (pss_cons (ps_set (i := 3) sc_by_line.nd rfl (Or.inl rfl) (pe_lst pa_nil))
        (pss_cons (ps_set (i := 4) sc_by_line.nd rfl (Or.inl rfl) (pe_lst pa_nil))
        (pss_cons (ps_for PassesOwn.never rfl (pi_enum (by rfl) T.enumerate (pa_cons (pv 1) pa_nil)) (pg_tup rfl (pgs_cons (pg_name (i := 5) sc_by_line.nd rfl (Or.inl rfl)) (pgs_cons (pg_name (i := 6) sc_by_line.nd rfl (Or.inl rfl)) pgs_nil)))
        (pss_one (ps_if (pt_cmpR op_notIn_seq (pv 6) (pv 3) (by rfl))
        (pss_cons (ps_expr (pe_bm PySem.F.plainAttrs_list PySem.F.slot_list_append PySem.F.type_list_append mt_append (pv 4) (pa_cons (pv 5) pa_nil)))
        (pss_cons (ps_if (pt_cmpR op_eq (pe_callB call_len_seq (by rfl) T.len PySem.boot_len (pa_cons (pv 3) pa_nil)) (pv 0) (nomark _))
        (pss_one (ps_expr (pe_bm PySem.F.plainAttrs_list PySem.F.slot_list_pop PySem.F.type_list_pop mt_popAt (pv 3) (pa_cons pe_int pa_nil))))
        pss_nil)
        (pss_one (ps_expr (pe_bm PySem.F.plainAttrs_list PySem.F.slot_list_append PySem.F.type_list_append mt_append (pv 3) (pa_cons (pv 6) pa_nil))))))
        (pss_one (ps_if (pt_val (pv 2))
        (pss_cons (ps_expr (pe_bm PySem.F.plainAttrs_list PySem.F.slot_list_remove PySem.F.type_list_remove mt_remove (pv 3) (pa_cons (pv 6) pa_nil)))
        (pss_one (ps_expr (pe_bm PySem.F.plainAttrs_list PySem.F.slot_list_append PySem.F.type_list_append mt_append (pv 3) (pa_cons (pv 6) pa_nil)))))
        pss_nil)))))
        (pss_one (ps_ret (pv 4)))))), ?_⟩
    -- line = []; lacks = []
    refine ⟨szd rfl, fun l hl => ⟨szd rfl, fun c hc => ?_⟩⟩
    have s1 : Same H (upd (upd H l (.lst [])) c (.lst [])) := (Same.new hl).trans (Same.new hc)
    have lc : l ≠ c := ne_fresh (H := upd H l (.lst [])) upd_same hc
    have cH : H c = none := Same.back (Same.new hl) hc
    have hn0 : 0 < n.toNat := by omega
    refine ⟨_, rfl, r, _, rfl, s1.seq hS, for_it (walk_enum (K := K) (a := r) (xs := il row)) (fun i σ H' => (∃ v1 v2, σ = [some (.int n), some (.ref r), some (.bl re), some (.ref l), some (.ref c), v1, v2]) ∧ Same H H' ∧ H' l = some (.lst (il (lineAt n.toNat re (row.take i)))) ∧
      H' c = some (.lst (NL (placesT 0 (lineL n.toNat re [] (row.take i))))))
      ⟨⟨_, _, rfl⟩, s1, by rw [upd_ne lc]; exact upd_same, upd_same⟩ (fun i σ H' _ h => h.2.1.seq hS) ?_ ?_⟩
    · rintro i x σ H1 H2 hi ⟨⟨v1, v2, rfl⟩, s2, hl1, hc1⟩ ⟨t, x1, x2, rfl, ht, rfl, ha, hb⟩
      have ea : V.int (i : Nat) = x1 := Option.some.inj ha
      subst ea
      obtain ⟨p, hp, rfl⟩ := il_get hb
      rw [il_len] at hi
      have hR1 := hR.1
      have lt : l ≠ t := ne_fresh hl1 ht
      have ct : c ≠ t := ne_fresh hc1 ht
      have hlO := lineAt_ok (re := re) hn0 (row.take i)
      have hpl := placesT_le 0 (lineL n.toNat re [] (row.take i))
      rw [lineL_len, List.length_take] at hpl
      have s3 : Same H (upd H1 t (.tup [V.int (i : Nat), V.int p])) := s2.trans (Same.new ht)
      have hl2 : upd H1 t (.tup [V.int (i : Nat), V.int p]) l = some (.lst (il (lineAt n.toNat re (row.take i)))) := by rw [upd_ne lt]; exact hl1
      have hc2 : upd H1 t (.tup [V.int (i : Nat), V.int p]) c = some (.lst (NL (placesT 0 (lineL n.toNat re [] (row.take i))))) := by rw [upd_ne ct]; exact hc1
      have eB : placesT 0 (lineL n.toNat re [] (row.take (i + 1))) = placesT 0 (lineL n.toNat re [] (row.take i)) ++ (if (!decide (p ∈ lineAt n.toNat re (row.take i))) = true then [i] else []) := by
        rw [take_snoc hp, lineL_snoc, placesT_snoc, lineL_len, List.length_take, Nat.min_eq_left (by omega), Nat.zero_add]
        rfl
      have eL : lineAt n.toNat re (row.take (i + 1)) = lineStep n.toNat re (lineAt n.toNat re (row.take i)) p := by
        rw [take_snoc hp, lineAt_snoc]
      rw [eB, eL]
      generalize hLL : lineAt n.toNat re (row.take i) = L at *
      generalize hPP : placesT 0 (lineL n.toNat re [] (row.take i)) = PL at *
      refine ⟨t, _, rfl, SqT.of upd_same, rfl, _, _, rfl, _, _, rfl, rfl, ?_⟩
      -- if page not in line
      refine ⟨_, rfl, _, rfl, l, _, rfl, .inl (SqL.of hl2), rfl, flat_il _, _, rfl, ?_⟩
      have e0 : (if true = true then !inV (V.int p) (il L) else inV (V.int p) (il L)) = !decide (p ∈ L) := by rw [if_pos rfl, inV_il]
      by_cases hin : p ∈ L
      · refine ifF (by rw [e0]; simp [hin]) ?_
        rw [if_neg (show ¬ (!decide (p ∈ L)) = true by simp [hin]), List.append_nil]
        -- elif renewed
        cases re with
        | true =>
          have eS : lineStep n.toNat true L p = L.eraseIdx (L.idxOf p) ++ [p] := by unfold lineStep; rw [if_pos hin]; rfl
          rw [eS]
          refine ⟨_, rfl, _, rfl, ?_⟩
          refine ⟨_, rfl, .inl ⟨rfl, _, SqL.of hl2⟩, _, rfl, l, L, p, L.idxOf p, rfl, rfl, hl2, idx_at hin, fun m hm z => idx_no hm z rfl, ?_⟩
          refine ⟨_, rfl, .inl ⟨rfl, _, SqL.of upd_same⟩, _, rfl, l, _, _, rfl, rfl, upd_same, szl (by
            have h1 := hlO.le
            have h2 := List.length_eraseIdx_le L (L.idxOf p)
            simp
            omega), ?_⟩
          rw [upd_upd]
          refine ⟨⟨_, _, rfl⟩, Same.put s3 hl, ?_, ?_⟩
          · rw [upd_same, il_snoc]
          · rw [upd_ne (Ne.symm lc)]; exact hc2
        | false =>
          have eS : lineStep n.toNat false L p = L := by unfold lineStep; rw [if_pos hin]; rfl
          rw [eS]
          exact ⟨_, rfl, _, rfl, ⟨_, _, rfl⟩, s3, hl2, hc2⟩
      · refine ifT (by rw [e0]; simp [hin]) ?_
        have eS : lineStep n.toNat re L p = (if L.length = n.toNat then L.eraseIdx 0 else L) ++ [p] := by unfold lineStep; rw [if_neg hin]
        rw [eS, if_pos (show (!decide (p ∈ L)) = true by simp [hin])]
        -- lacks.append(place)
        refine ⟨_, rfl, .inl ⟨rfl, _, SqL.of hc2⟩, _, rfl, c, _, _, rfl, rfl, hc2, szl (by simp; omega), ?_⟩
        rw [NL_snoc]
        have hl3 : upd (upd H1 t (.tup [V.int (i : Nat), V.int p])) c (.lst (NL (PL ++ [i]))) l = some (.lst (il L)) := by rw [upd_ne lc]; exact hl2
        -- if len(line) == rooms: line.pop(0)
        refine ⟨_, rfl, l, _, rfl, .inl (SqL.of hl3), _, rfl, rfl, _, rfl, ?_⟩
        have e1 : decide (V.int ((il L).length : Int) = V.int n) = decide (L.length = n.toNat) := by
          rw [il_len]
          by_cases q : L.length = n.toNat
          · rw [decide_eq_true q]
            exact decide_eq_true (congrArg V.int (by omega))
          · rw [decide_eq_false q]
            exact decide_eq_false (fun z => q (by injection z with z; omega))
        by_cases hln : L.length = n.toNat
        · refine ifT (by rw [e1]; exact decide_eq_true hln) ?_
          rw [if_pos hln]
          have hat0 : (il L)[0]? = some (V.int (L[0]'(by omega))) := il_at (List.getElem?_eq_getElem _)
          refine ⟨_, rfl, .inl ⟨rfl, _, SqL.of hl3⟩, l, _, 0, 0, _, rfl, rfl, hl3, by decide, by decide, seq_ix rfl (by simp; omega), hat0, ?_⟩
          refine ⟨_, rfl, .inl ⟨rfl, _, SqL.of upd_same⟩, _, rfl, l, _, _, rfl, rfl, upd_same, szl (by
            have h1 := hlO.le
            have h2 := List.length_eraseIdx_le (il L) 0
            simp at h2 ⊢
            omega), ?_⟩
          rw [upd_upd, il_erase, il_snoc]
          refine ⟨⟨_, _, rfl⟩, Same.put (Same.put s3 cH) hl, upd_same, ?_⟩
          rw [upd_ne (Ne.symm lc), upd_same]
        · refine ifF (by rw [e1]; exact decide_eq_false hln) ?_
          rw [if_neg hln]
          refine ⟨_, rfl, .inl ⟨rfl, _, SqL.of hl3⟩, _, rfl, l, _, _, rfl, rfl, hl3, szl (by
            have h1 := hlO.le
            simp
            omega), ?_⟩
          rw [il_snoc]
          refine ⟨⟨_, _, rfl⟩, Same.put (Same.put s3 cH) hl, upd_same, ?_⟩
          rw [upd_ne (Ne.symm lc), upd_same]
    · rintro σ H' ⟨⟨v1, v2, rfl⟩, s2, hl1, hc1⟩
      rw [List.take_of_length_le (by simp)] at hc1
      exact ⟨_, rfl, k c H' cH s2 hc1⟩
theorem sc_by_unseen : FnScope ["rooms", "row"] ["rooms", "row"] (defScope (top 22)) := ⟨rfl, rfl, rfl, by decide +kernel, rfl, by decide +kernel, by decide +kernel⟩
theorem ok_by_unseen (T : Prog K mg) : FnOk P w K mg base CX0 2 T.by_unseen.f T.by_unseen.fd ["rooms", "row"] (spBy K .unseen) := by
  have G_by_line := ok_by_line (P := P) (w := w) (base := base) T
  refine T.by_unseen.fn.ok sc_by_unseen (fun vs H Q E h => ?len) (fun cdv A outer s H vs Q E hr h => ?body)
  case len =>
    obtain ⟨n, r, row, rfl, _⟩ := h
    rfl
  case body =>
    have hr_by_line : Room 1 _ := hr.mono (by decide)
    have hu := hu_of hr
    obtain ⟨n, r, row, rfl, n1, n8, hS, hR, k⟩ := h
    refine ⟨_, PSs.nox (pss_one (ps_ret (pe_call G_by_line hr_by_line (by rfl) T.by_line.g T.by_line.fn.kp T.by_line.bd .nil pass0 (pa_cons (pv 0) (pa_cons (pv 1) (pa_cons pe_bl pa_nil)))))), ?_⟩
    exact ⟨_, rfl, _, rfl, n, r, row, true, rfl, n1, n8, hS, hR, k⟩
theorem sc_by_first : FnScope ["rooms", "row"] ["rooms", "row"] (defScope (top 23)) := ⟨rfl, rfl, rfl, by decide +kernel, rfl, by decide +kernel, by decide +kernel⟩
theorem ok_by_first (T : Prog K mg) : FnOk P w K mg base CX0 2 T.by_first.f T.by_first.fd ["rooms", "row"] (spBy K .first) := by
  have G_by_line := ok_by_line (P := P) (w := w) (base := base) T
  refine T.by_first.fn.ok sc_by_first (fun vs H Q E h => ?len) (fun cdv A outer s H vs Q E hr h => ?body)
  case len =>
    obtain ⟨n, r, row, rfl, _⟩ := h
    rfl
  case body =>
    have hr_by_line : Room 1 _ := hr.mono (by decide)
    have hu := hu_of hr
    obtain ⟨n, r, row, rfl, n1, n8, hS, hR, k⟩ := h
    refine ⟨_, PSs.nox (pss_one (ps_ret (pe_call G_by_line hr_by_line (by rfl) T.by_line.g T.by_line.fn.kp T.by_line.bd .nil pass0 (pa_cons (pv 0) (pa_cons (pv 1) (pa_cons pe_bl pa_nil)))))), ?_⟩
    exact ⟨_, rfl, _, rfl, n, r, row, false, rfl, n1, n8, hS, hR, k⟩
theorem sc_by_hand : FnScope ["rooms", "row", "dial", "place", "page"] ["rooms", "row"] (defScope (top 21)) := ⟨rfl, rfl, rfl, by decide +kernel, rfl, by decide +kernel, by decide +kernel⟩
theorem ok_by_hand (T : Prog K mg) : FnOk P w K mg base CX0 4 T.by_hand.f T.by_hand.fd ["rooms", "row"] (spBy K .hand) := by
  have G_Dial := ok_Dial_init (P := P) (w := w) (base := base) T
  have G_ask := ok_Dial_ask (P := P) (w := w) (base := base) T
  refine T.by_hand.fn.ok sc_by_hand (fun vs H Q E h => ?len) (fun cdv A outer s H vs Q E hr h => ?body)
  case len =>
    obtain ⟨n, r, row, rfl, _⟩ := h
    rfl
  case body =>
    have hr_ask : Room 3 _ := hr.mono (by decide)
    have hu := hu_of hr
    obtain ⟨n, r, row, rfl, n1, n8, hS, hR, k⟩ := h
    refine ⟨_, PSs.nox (pss_cons (ps_set (i := 2) sc_by_hand.nd rfl (Or.inr rfl) (pe_make T.Dial.mkr G_Dial (hr.mono (by decide)) (by rfl) T.Dial.g T.Dial.bI .nil pass0 (pa_cons (pv 0) pa_nil)))
        (pss_one (ps_ret (pe_lc (own := [("place", 3), ("page", 4)]) (g := gTup K 2 (gCons (gName 3) (gCons (gName 4) gNil))) (tt := tB (tOp (rIxT K) (tMeth _ _ _ _ _ _ _) (tC (.int 0)))) (te := tVar 3) rfl sc_by_hand.nd ((pi_enum (by rfl) T.enumerate (pa_cons (pv 1) pa_nil))) (blkOk_by (own := [("place", 3), ("page", 4)]) (N := ["rooms", "row", "dial", "place", "page"]) (sc := defScope (top 21)) (by decide +kernel)) (fun _ _ _ _ _ => (by exact (pg_tup rfl (pgs_cons (pg_name (i := 3) sc_by_hand.nd rfl (Or.inl rfl)) (pgs_cons (pg_name (i := 4) sc_by_hand.nd rfl (Or.inl rfl)) pgs_nil))))) (fun _ _ _ _ _ => (by exact (pts_one (pt_val (pe_ix ix_tup (pe_meth (pv 2) T.Dial.cl T.Dial.ask.me G_ask hr_ask T.Dial.ask.bd .nil pass0 (pa_cons (pv 4) pa_nil)) pe_int (fun _ _ => rfl)))))) (fun _ _ _ _ _ => (by exact (pv 3))))))), ?_⟩
    -- dial = Dial(rooms)
    refine ⟨_, rfl, fun p dx np ndx nex => ?_⟩
    refine ⟨p, dx, n, rfl, upd_same, n1, n8, fun a b H2 ha hb D2 k2 => ⟨rfl, ?_⟩⟩
    have s0 : Same H (upd (upd H dx (.own p)) p (.ins T.Dial.C dx [])) := fun c o e => by
      rw [upd_ne (ne_fresh e np), upd_ne (ne_fresh e ndx)]
      exact e
    have s2 : Same H H2 := fun c o e => k2 c o (s0 c o e) (by simpa using ne_fresh e np)
    have aH : H a = none := Same.back s0 ha
    have bH : H b = none := Same.back s0 hb
    have W0 : (DS.new n.toNat).WF n.toNat := DS.new_wf (by omega)
    have hR1 := hR.1
    refine ⟨_, rfl, r, _, rfl, s2.seq hS, fun d hd => ?_⟩
    have dH : H d = none := Same.back s2 hd
    have dp : d ≠ p := by obtain ⟨_, q⟩ := D2.ob; exact Ne.symm (ne_fresh q hd)
    have da : d ≠ a := Ne.symm (ne_fresh D2.he hd)
    have db : d ≠ b := Ne.symm (ne_fresh D2.ma hd)
    have dS : d ∉ [p, a, b] := by simp [dp, da, db]
    refine lc_it (walk_enum (K := K) (a := r) (xs := il row)) (fun i H' => H' d = some (.lst (NL (placesT 0 ((tellsL (DS.new n.toNat) (row.take i)).map (·.1))))) ∧ DialIs T.Dial.C H' p a b (afterL (DS.new n.toNat) (row.take i)) ∧ Same H H') ?_ ?_ ?_ ?_
    · exact ⟨upd_same, D2.same (Same.new hd), s2.trans (Same.new hd)⟩
    · rintro i H' _ ⟨_, _, q⟩
      exact q.seq hS
    · rintro i x H3 H4 hi ⟨hd3, D3, s3⟩ ⟨t, x1, x2, rfl, ht, rfl, hx1, hx2⟩
      have ea : V.int (i : Nat) = x1 := Option.some.inj hx1
      subst ea
      obtain ⟨pg, hpg, rfl⟩ := il_get hx2
      have hpl := hR.2 pg (List.mem_of_getElem? hpg)
      rw [il_len] at hi
      have sT := Same.new (o := .tup [V.int (i : Nat), V.int pg]) ht
      have D4 := D3.same sT
      obtain ⟨dx4, hp4⟩ := D4.ob
      refine ⟨t, _, rfl, SqT.of upd_same, rfl, _, _, rfl, _, _, rfl, rfl, ⟨rfl, ?_⟩⟩
      refine ⟨_, rfl, p, dx4, _, rfl, hp4, rfl, _, rfl, p, a, b, _, n.toNat, pg, rfl, D4, afterL_wf W0 _, by omega, hpl.1, hpl.2, fun t' l' H5 ht' hl' tl' ht5 hl5 D5 k5 => ?_⟩
      refine ⟨_, _, _, _, rfl, rfl, SqT.of ht5, atI_nat (j := 0) rfl, _, rfl, ?_⟩
      have hd5 := k5 _ _ (sT _ _ hd3) dS
      have s5 : Same H H5 := fun c o e => k5 _ _ (sT _ _ (s3 _ _ e)) (by
        have z1 := ne_fresh e np
        have z2 := ne_fresh e aH
        have z3 := ne_fresh e bH
        simp [z1, z2, z3])
      have eP : placesT 0 ((tellsL (DS.new n.toNat) (row.take (i + 1))).map (·.1)) = placesT 0 ((tellsL (DS.new n.toNat) (row.take i)).map (·.1)) ++ (if ((afterL (DS.new n.toNat) (row.take i)).tells pg).1 = true then [i] else []) := by
        rw [take_snoc hpg, tellsL_snoc, List.map_append, List.map_cons, List.map_nil, placesT_snoc, List.length_map, tellsL_len, List.length_take, Nat.min_eq_left (by omega), Nat.zero_add]
      have hle := placesT_le 0 ((tellsL (DS.new n.toNat) (row.take i)).map (·.1))
      rw [List.length_map, tellsL_len, List.length_take] at hle
      have eA : afterL (DS.new n.toNat) (row.take (i + 1)) = (afterL (DS.new n.toNat) (row.take i)).ask pg := by rw [take_snoc hpg, afterL_snoc]
      rw [eP, eA]
      generalize ((afterL (DS.new n.toNat) (row.take i)).tells pg).1 = bq at *
      cases bq with
      | true =>
        refine ⟨_, rfl, _, hd5, szl (by rw [List.length_map]; omega), ?_, D5.but (S := [d]) (But.put (by simp)) (by simp [Ne.symm dp]) (by simp [Ne.symm da]) (by simp [Ne.symm db]), Same.put s5 dH⟩
        rw [upd_same, NL_snoc]
        rfl
      | false =>
        refine ⟨?_, D5, s5⟩
        rw [if_neg (by simp), List.append_nil]
        exact hd5
    · rintro H' ⟨q1, _, q2⟩
      rw [List.take_of_length_le (by simp)] at q1
      exact k d H' dH q2 q1
theorem sc_check_rule : FnScope ["rule"] ["rule"] (defScope (top 26)) := ⟨rfl, rfl, rfl, by decide +kernel, rfl, by decide +kernel, by decide +kernel⟩
theorem ok_check_rule (T : Prog K mg) {es : Array DictEntry} {nd : Nat} (TB_RULES : KDict K w T.a_RULES es nd) : FnOk P w K mg base CX0 1 T.check_rule.f T.check_rule.fd ["rule"] spCheckRule := by
  refine T.check_rule.fn.ok sc_check_rule (fun vs H Q E h => ?len) (fun cdv A outer s H vs Q E hr h => ?body)
  case len =>
    obtain ⟨rule, rfl, _⟩ := h
    rfl
  case body =>
    have hu := hu_of hr
    obtain ⟨rule, rfl, k⟩ := h
    refine ⟨_, PSs.nox (pss_one (ps_if (pt_cmpR (op_notIn_kd TB_RULES) (pv 0) (pe_glob (v := L2.V.ref T.a_RULES) rfl T.g_RULES rfl) (by rfl))
        (pss_one ps_never)
        pss_nil)), ?_⟩
    obtain ⟨u1, h1, _⟩ := T.r_RULES_hand
    obtain ⟨u2, h2, _⟩ := T.r_RULES_unseen
    obtain ⟨u3, h3, _⟩ := T.r_RULES_first
    cases rule with
    | hand => exact ⟨_, rfl, _, _, rfl, rfl, h1, _, rfl, iteF k⟩
    | unseen => exact ⟨_, rfl, _, _, rfl, rfl, h2, _, rfl, iteF k⟩
    | first => exact ⟨_, rfl, _, _, rfl, rfl, h3, _, rfl, iteF k⟩
theorem sc_find_lacks : FnScope ["rooms", "row", "rule", "by_rule"] ["rooms", "row", "rule"] (defScope (top 27)) := ⟨rfl, rfl, rfl, by decide +kernel, rfl, by decide +kernel, by decide +kernel⟩
theorem ok_find_lacks (T : Prog K mg) {es : Array DictEntry} {nd : Nat} (TB_RULES : KDict K w T.a_RULES es nd) : FnOk P w K mg base CX0 5 T.find_lacks.f T.find_lacks.fd ["rooms", "row", "rule"] (spLacking K) := by
  refine T.find_lacks.fn.ok sc_find_lacks (fun vs H Q E h => ?len) (fun cdv A outer s H vs Q E hr h => ?body)
  case len =>
    obtain ⟨n, r, row, rule, rfl, _⟩ := h
    rfl
  case body =>
    have hu := hu_of hr
    obtain ⟨n, r, row, rule, rfl, n1, n8, hS, hR, k⟩ := h

    obtain ⟨u1, h1, w1⟩ := T.r_RULES_hand
    obtain ⟨u2, h2, w2⟩ := T.r_RULES_unseen
    obtain ⟨u3, h3, w3⟩ := T.r_RULES_first
    have G_by_hand := ok_by_hand (P := P) (w := w) (base := base) T
    have G_by_unseen := ok_by_unseen (P := P) (w := w) (base := base) T
    have G_by_first := ok_by_first (P := P) (w := w) (base := base) T
    have hr_h : Room 4 _ := hr.mono (by decide)
    have hr_u : Room 2 _ := hr.mono (by decide)
    have hr_f : Room 2 _ := hr.mono (by decide)
    cases rule with
    | hand =>
      refine ⟨_, PSs.nox (pss_cons (ps_set (i := 3) sc_find_lacks.nd rfl (Or.inl rfl) (pe_ix ix_kdict (pe_glob (v := L2.V.ref T.a_RULES) rfl T.g_RULES rfl) (pv 2) (fun _ _ => rfl)))
        (pss_one (ps_ret (pe_callL (i := 3) G_by_hand hr_h (by rfl) (Or.inl rfl) T.by_hand.fn.kp T.by_hand.bd .nil pass0 (pa_cons (pv 0) (pa_cons (pv 1) pa_nil)))))), ?_⟩
      refine ⟨_, rfl, _, _, V.ref T.by_hand.f, rfl, rfl, ⟨es, nd, u1, TB_RULES.at_, TB_RULES.lit, h1, w1⟩, ?_⟩
      exact ⟨rfl, _, rfl, _, rfl, n, r, row, rfl, n1, n8, hS, hR, k⟩
    | unseen =>
      refine ⟨_, PSs.nox (pss_cons (ps_set (i := 3) sc_find_lacks.nd rfl (Or.inl rfl) (pe_ix ix_kdict (pe_glob (v := L2.V.ref T.a_RULES) rfl T.g_RULES rfl) (pv 2) (fun _ _ => rfl)))
        (pss_one (ps_ret (pe_callL (i := 3) G_by_unseen hr_u (by rfl) (Or.inl rfl) T.by_unseen.fn.kp T.by_unseen.bd .nil pass0 (pa_cons (pv 0) (pa_cons (pv 1) pa_nil)))))), ?_⟩
      refine ⟨_, rfl, _, _, V.ref T.by_unseen.f, rfl, rfl, ⟨es, nd, u2, TB_RULES.at_, TB_RULES.lit, h2, w2⟩, ?_⟩
      exact ⟨rfl, _, rfl, _, rfl, n, r, row, rfl, n1, n8, hS, hR, k⟩
    | first =>
      refine ⟨_, PSs.nox (pss_cons (ps_set (i := 3) sc_find_lacks.nd rfl (Or.inl rfl) (pe_ix ix_kdict (pe_glob (v := L2.V.ref T.a_RULES) rfl T.g_RULES rfl) (pv 2) (fun _ _ => rfl)))
        (pss_one (ps_ret (pe_callL (i := 3) G_by_first hr_f (by rfl) (Or.inl rfl) T.by_first.fn.kp T.by_first.bd .nil pass0 (pa_cons (pv 0) (pa_cons (pv 1) pa_nil)))))), ?_⟩
      refine ⟨_, rfl, _, _, V.ref T.by_first.f, rfl, rfl, ⟨es, nd, u3, TB_RULES.at_, TB_RULES.lit, h3, w3⟩, ?_⟩
      exact ⟨rfl, _, rfl, _, rfl, n, r, row, rfl, n1, n8, hS, hR, k⟩
-- lacking is not in this text
end
end CK

/-! The program's worst row. -/
namespace CK
open PySem PySem.Spec PyProof.Rows L2
/-- all rows of p pages, so long -/
def rng (p : Nat) : List Int := (List.range p).map fun x => ((x : Nat) : Int)
def allRows (p : Nat) : Nat → List (List Int)
  | 0 => [[]]
  | k + 1 => (allRows p k).flatMap fun row => (rng p).map fun x => row ++ [x]
theorem rng_len (p : Nat) : (rng p).length = p := by unfold rng; rw [List.length_map, List.length_range]
theorem rows_ok (p : Nat) : ∀ k, ∀ row ∈ allRows p k, row.length = k ∧ ∀ x ∈ row, 0 ≤ x ∧ x < p
  | 0, row, h => by rw [List.mem_singleton.mp h]; exact ⟨rfl, fun x hx => by cases hx⟩
  | k + 1, row, h => by
    obtain ⟨r, h1, h2⟩ := List.mem_flatMap.mp h
    obtain ⟨x, h3, h4⟩ := List.mem_map.mp h2
    obtain ⟨y, h5, h6⟩ := List.mem_map.mp h3
    have ih := rows_ok p k r h1
    rw [← h4]
    refine ⟨by rw [List.length_append, ih.1]; rfl, fun z hz => ?_⟩
    rcases List.mem_append.mp hz with q | q
    · exact ih.2 z q
    · rw [List.mem_singleton.mp q, ← h6]
      have := List.mem_range.mp h5
      omega
theorem flat_len {α β : Type} {f : α → List β} {c : Nat} : ∀ (xs : List α), (∀ x, (f x).length = c) → (xs.flatMap f).length = xs.length * c
  | [], _ => by simp
  | a :: r, h => by
    rw [List.flatMap_cons, List.length_append, h a, flat_len r h, List.length_cons, Nat.succ_mul]
    omega
theorem rows_len (p : Nat) : ∀ k, (allRows p k).length = p ^ k
  | 0 => rfl
  | k + 1 => by
    show ((allRows p k).flatMap fun row => (rng p).map fun x => row ++ [x]).length = _
    rw [flat_len (c := p) _ (fun x => by rw [List.length_map, rng_len]), rows_len p k, Nat.pow_succ]
/-- lists of ints at these places -/
structure RowsAt (H : Hp) (as : List Addr) (xs : List (List Int)) : Prop where
  len : as.length = xs.length
  at_ : ∀ (i : Nat) (a : Addr) (x : List Int), as[i]? = some a → xs[i]? = some x → H a = some (.lst (il x))
theorem RowsAt.nil {H : Hp} : RowsAt H [] [] := ⟨rfl, fun i a x h => by simp at h⟩
theorem RowsAt.same {H H' : Hp} {as : List Addr} {xs : List (List Int)} (h : RowsAt H as xs) (k : Same H H') : RowsAt H' as xs := ⟨h.len, fun i a x ha hx => k _ _ (h.at_ i a x ha hx)⟩
theorem RowsAt.snoc {H : Hp} {as : List Addr} {xs : List (List Int)} (h : RowsAt H as xs) {t : Addr} {x : List Int} (e : H t = some (.lst (il x))) : RowsAt H (as ++ [t]) (xs ++ [x]) := by
  refine ⟨by rw [List.length_append, List.length_append, h.len]; rfl, fun i b y hb hy => ?_⟩
  by_cases hi : i < as.length
  · rw [List.getElem?_append_left hi] at hb
    rw [List.getElem?_append_left (by rw [← h.len]; exact hi)] at hy
    exact h.at_ i b y hb hy
  · rw [List.getElem?_append_right (by omega)] at hb
    rw [List.getElem?_append_right (by rw [← h.len]; omega)] at hy
    have e0 : i - as.length = 0 := by
      have := (List.getElem?_eq_some_iff.mp hb).1
      simp at this
      omega
    rw [← h.len] at hy
    rw [e0] at hb hy
    cases Option.some.inj hb
    cases Option.some.inj hy
    exact e
/-- all off d -/
theorem RowsAt.put {H : Hp} {as : List Addr} {xs : List (List Int)} (h : RowsAt H as xs) {d : Addr} {o : HO} (n : ∀ a ∈ as, a ≠ d) : RowsAt (upd H d o) as xs := ⟨h.len, fun i a x ha hx => by
  rw [upd_ne (n a (List.mem_of_getElem? ha))]
  exact h.at_ i a x ha hx⟩
theorem RowsAt.app {H : Hp} {as bs : List Addr} {xs ys : List (List Int)} (h : RowsAt H as xs) (h2 : RowsAt H bs ys) : RowsAt H (as ++ bs) (xs ++ ys) := by
  refine ⟨by rw [List.length_append, List.length_append, h.len, h2.len], fun i b y hb hy => ?_⟩
  by_cases hi : i < as.length
  · rw [List.getElem?_append_left hi] at hb
    rw [List.getElem?_append_left (by rw [← h.len]; exact hi)] at hy
    exact h.at_ i b y hb hy
  · rw [List.getElem?_append_right (by omega)] at hb
    rw [List.getElem?_append_right (by rw [← h.len]; omega), ← h.len] at hy
    exact h2.at_ _ b y hb hy
/-- a loop of a comprehension, its body as it is -/
theorem lcany_it {J : It} {n : Nat} {G : Hp → Prop} {Y : Nat → Hp → V → Hp → Prop} (w : Walk J n G Y) {B : V → Hp → (Hp → Prop) → Prop} {H0 : Hp} {Q : Hp → Prop} (Pv : Nat → Hp → Prop) (h0 : Pv 0 H0) (hG : ∀ i H, i ≤ n → Pv i H → G H)
    (hs : ∀ i x H H', i < n → Pv i H → Y i H x H' → B x H' (Pv (i + 1))) (hd : ∀ H, Pv n H → Q H) :
    ∃ W : Nat → Nat → Hp → Prop, (∃ m, W 0 m H0) ∧ ∀ i m H, W i m H → (J.stop i H ∧ Q H) ∨ (J.go i H ∧ ∃ Nx : Hp → Prop, (∀ H', Nx H' → ∃ m', m' < m ∧ W (i + 1) m' H') ∧ ∀ x H', J.yld i H x H' → B x H' Nx) := by
  refine ⟨fun i m H => m = n - i ∧ i ≤ n ∧ Pv i H, ⟨n, by simp, Nat.zero_le _, h0⟩, ?_⟩
  rintro i m H ⟨rfl, hi, p⟩
  have q := hG i H hi p
  by_cases hlt : i < n
  · exact .inr ⟨w.goes i H hlt q, Pv (i + 1), fun H' p' => ⟨n - (i + 1), by omega, rfl, hlt, p'⟩, fun x H' y => hs i x H H' hlt p (w.yields i H x H' hlt q y)⟩
  · have e : i = n := by omega
    subst e
    exact .inl ⟨w.stops H q, hd H p⟩
theorem take_flatM {α β : Type} {f : α → List β} {xs : List α} {j : Nat} {x : α} (h : xs[j]? = some x) : (xs.take (j + 1)).flatMap f = (xs.take j).flatMap f ++ f x := by
  rw [take_snoc h, List.flatMap_append]
  simp
theorem rng_at {p j : Nat} (h : j < p) : (rng p)[j]? = some ((j : Nat) : Int) := by
  unfold rng
  rw [List.getElem?_map, List.getElem?_range h]
  rfl
/-- the sizes that are asked for -/
def Sizes (p k : Nat) : Prop := 1 ≤ p ∧ p ≤ 12 ∧ k ≤ 100 ∧ ∀ j, j ≤ k → p ^ j ≤ 4096
def spCheckSize : Sp := fun vs H Q _ => ∃ p k : Nat, vs = [.int (p : Nat), .int (k : Nat)] ∧ Sizes p k ∧ Q .non H
def spTooMany : Sp := fun vs H Q _ => ∃ p k : Nat, vs = [.int (p : Nat), .int (k : Nat)] ∧ Sizes p k ∧ Q (.bl false) H
def spAllRows : Sp := fun vs H Q _ => ∃ p k : Nat, vs = [.int (p : Nat), .int (k : Nat)] ∧ Sizes p k ∧ ∀ (d : Addr) (as : List Addr) (H' : Hp), H d = none → (∀ a ∈ as, H a = none) → (∀ a ∈ as, a ≠ d) → Same H H' → H' d = some (.lst (as.map V.ref)) → RowsAt H' as (allRows p k) → Q (.ref d) H'
section
variable {P : Program} {w : World} {K : PySem.W.Frag} {mg : Str → Option Value} {base : Heap}
theorem sc_are_too_many : FnScope ["pages", "long", "rows", "_"] ["pages", "long"] (defScope (top 33)) := ⟨rfl, rfl, rfl, by decide +kernel, rfl, by decide +kernel, by decide +kernel⟩
theorem ok_are_too_many (T : Prog K mg) : FnOk P w K mg base CX0 1 T.are_too_many.f T.are_too_many.fd ["pages", "long"] spTooMany := by
  refine T.are_too_many.fn.ok sc_are_too_many (fun vs H Q E h => ?len) (fun cdv A outer s H vs Q E hr h => ?body)
  case len =>
    obtain ⟨p, k, rfl, _⟩ := h
    rfl
  case body =>
    have hu := hu_of hr
    obtain ⟨p, k, rfl, hz, q⟩ := h
    refine ⟨_, PSs.nox (pss_cons (ps_if (pt_cmpR op_gt (pv 1) (pe_glob (v := L2.V.int 5000) rfl T.g_LONGEST ⟨_, rfl⟩) (nomark _))
        (pss_one (ps_ret pe_bl))
        pss_nil)
        (pss_cons (ps_set (i := 2) sc_are_too_many.nd rfl (Or.inl rfl) pe_int)
        (pss_cons (ps_for PassesOwn.never rfl (pi_range1 (by rfl) T.range (pa_cons (pv 1) pa_nil)) (pg_name (i := 3) sc_are_too_many.nd rfl (Or.inl rfl))
        (pss_cons (ps_aug (i := 2) sc_are_too_many.nd rfl (Or.inl rfl) (pv 0) iop_mul)
        (pss_one (ps_if (pt_cmpR op_gt (pv 2) (pe_glob (v := L2.V.int 5000) rfl T.g_MOST_ROWS ⟨_, rfl⟩) (nomark _))
        (pss_one (ps_ret pe_bl))
        pss_nil))))
        (pss_one (ps_ret pe_bl))))), ?_⟩
    obtain ⟨p1, p2, k1, hz⟩ := hz
    refine ⟨_, rfl, _, _, rfl, rfl, _, rfl, ?_⟩
    refine ifF (decide_eq_false (by omega)) ?_
    refine ⟨_, rfl, _, rfl, by omega, by omega, for_range (lo := 0) (n := ((k : Nat) : Int).toNat) (fun i σ H' => (∃ v3, σ = [some (.int (p : Nat)), some (.int (k : Nat)), some (.int ((p ^ i : Nat) : Int)), v3]) ∧ H' = H) ⟨⟨_, rfl⟩, rfl⟩ ?_ ?_⟩
    · rintro i σ H' hi ⟨⟨v3, rfl⟩, rfl⟩
      have h1 := hz i (by omega)
      have h2 := hz (i + 1) (by omega)
      have e : ((p ^ i : Nat) : Int) * (p : Int) = ((p ^ (i + 1) : Nat) : Int) := by rw [Nat.pow_succ, Int.natCast_mul]
      refine ⟨_, rfl, _, rfl, _, _, rfl, rfl, .inl ⟨by omega, by omega⟩, ?_⟩
      dsimp only
      rw [e]
      refine ⟨_, rfl, _, _, rfl, rfl, _, rfl, ?_⟩
      refine ifF (decide_eq_false (by omega)) ?_
      exact ⟨⟨_, rfl⟩, rfl⟩
    · rintro σ H' ⟨⟨v3, rfl⟩, rfl⟩
      exact q
theorem sc_check_size : FnScope ["pages", "long"] ["pages", "long"] (defScope (top 32)) := ⟨rfl, rfl, rfl, by decide +kernel, rfl, by decide +kernel, by decide +kernel⟩
theorem ok_check_size (T : Prog K mg) : FnOk P w K mg base CX0 2 T.check_size.f T.check_size.fd ["pages", "long"] spCheckSize := by
  have G_are_too_many := ok_are_too_many (P := P) (w := w) (base := base) T
  refine T.check_size.fn.ok sc_check_size (fun vs H Q E h => ?len) (fun cdv A outer s H vs Q E hr h => ?body)
  case len =>
    obtain ⟨p, k, rfl, _⟩ := h
    rfl
  case body =>
    have hr_are_too_many : Room 1 _ := hr.mono (by decide)
    have hu := hu_of hr
    obtain ⟨p, k, rfl, hz, q⟩ := h
    refine ⟨_, PSs.nox (pss_cons (ps_if (PW.pt (pw_or (pt_not (pt_chain op_le op_le pe_int (pv 0) (pe_glob (v := L2.V.int 12) rfl T.g_PAGES ⟨_, rfl⟩))) (pw_or1 (pt_cmpR op_lt (pv 1) pe_int (nomark _)))))
        (pss_one ps_never)
        pss_nil)
        (pss_one (ps_if (pt_val (pe_call G_are_too_many hr_are_too_many (by rfl) T.are_too_many.g T.are_too_many.fn.kp T.are_too_many.bd .nil pass0 (pa_cons (pv 0) (pa_cons (pv 1) pa_nil))))
        (pss_one ps_never)
        pss_nil))), ?_⟩
    have hz0 := hz
    obtain ⟨p1, p2, k1, hz⟩ := hz
    refine ⟨_, rfl, _, _, rfl, rfl, _, rfl, ifT (decide_eq_true (by omega)) ⟨_, _, rfl, rfl, _, rfl, ?_⟩⟩
    refine ifF (by rw [decide_eq_true (by omega)]; rfl) ⟨_, rfl, _, _, rfl, rfl, _, rfl, ?_⟩
    refine ifF (decide_eq_false (by omega)) ⟨_, rfl, _, rfl, p, k, rfl, hz0, _, rfl, ?_⟩
    exact iteF q
theorem sc_all_rows : FnScope ["pages", "long", "rows", "_", "row", "page"] ["pages", "long"] (defScope (top 34)) := ⟨rfl, rfl, rfl, by decide +kernel, rfl, by decide +kernel, by decide +kernel⟩
theorem ok_all_rows (T : Prog K mg) : FnOk P w K mg base CX0 1 T.all_rows.f T.all_rows.fd ["pages", "long"] spAllRows := by
  refine T.all_rows.fn.ok sc_all_rows (fun vs H Q E h => ?len) (fun cdv A outer s H vs Q E hr h => ?body)
  case len =>
    obtain ⟨p, k, rfl, _⟩ := h
    rfl
  case body =>
    have hu := hu_of hr
    obtain ⟨p, k, rfl, hz, q⟩ := h
    refine ⟨_, PSs.nox (pss_cons (ps_set (i := 2) sc_all_rows.nd rfl (Or.inl rfl) (pe_lst (pa_cons (pe_lst pa_nil) pa_nil)))
        (pss_cons (ps_for PassesOwn.never rfl (pi_range1 (by rfl) T.range (pa_cons (pv 1) pa_nil)) (pg_name (i := 3) sc_all_rows.nd rfl (Or.inl rfl))
        (pss_one (ps_setLc2 (i := 2) (own := [("row", 4), ("page", 5)]) (vs1 := [5]) (g := gName 4) (g1 := gName 5) rfl sc_all_rows.nd rfl rfl (sw_true rfl rfl rfl (by decide +kernel)) ((pi_list (pv 2))) (blkOk_by (own := [("row", 4), ("page", 5)]) (N := ["pages", "long", "rows", "_", "row", "page"]) (sc := defScope (top 34)) (by decide +kernel)) (by decide) (fun _ _ _ _ _ => (by exact (pg_name (i := 4) sc_all_rows.nd rfl (Or.inl rfl)))) (fun _ _ _ _ _ => (by exact pts_nil)) (fun _ _ _ _ _ => (by exact (pi_range1 (by rfl) T.range (pa_cons (pv 0) pa_nil)))) (fun _ _ _ _ _ => (by exact (pg_name (i := 5) sc_all_rows.nd rfl (Or.inl rfl)))) (fun _ _ _ _ _ => (by exact pts_nil)) (fun _ _ _ _ _ => (by exact (pe_op op_cat (pv 4) (pe_lst (pa_cons (pv 5) pa_nil))))))))
        (pss_one (ps_ret (pv 2))))), ?_⟩
    obtain ⟨p1, p2, k1, hz⟩ := hz
    refine ⟨szd rfl, fun e0 he0 => ⟨szd rfl, fun d0 hd0 => ?_⟩⟩
    have s1 := Same.new (o := .lst []) he0
    have s2 := Same.new (o := .lst [V.ref e0]) hd0
    have ed : e0 ≠ d0 := ne_fresh (H := upd H e0 _) upd_same hd0
    refine ⟨_, rfl, _, rfl, by omega, by omega, for_range (lo := 0) (n := ((k : Nat) : Int).toNat) (fun i σ H' => ∃ (d : Addr) (as : List Addr), (∃ v3 v4 v5 : Option V, σ = [some (.int (p : Nat)), some (.int (k : Nat)), some (.ref d), v3, v4, v5]) ∧ Same H H' ∧ H d = none ∧ (∀ a ∈ as, H a = none ∧ a ≠ d) ∧ H' d = some (.lst (as.map V.ref)) ∧ RowsAt H' as (allRows p i)) ?_ ?_ ?_⟩
    · refine ⟨d0, [e0], ⟨_, _, _, rfl⟩, s1.trans s2, Same.back s1 hd0, fun a ha => ?_, upd_same, RowsAt.nil.snoc (s2 _ _ upd_same)⟩
      rw [List.mem_singleton.mp ha]
      exact ⟨he0, ed⟩
    · rintro i σ H1 hi ⟨d, as, ⟨v3, v4, v5, rfl⟩, s3, hd, has, hd1, ra⟩
      have hik : i < k := by omega
      have hl := rows_len p i
      have rok := rows_ok p i
      have e1 : allRows p (i + 1) = (allRows p i).flatMap fun row => (rng p).map fun x => row ++ [x] := rfl
      have big : (allRows p i).length * p ≤ 4096 := by
        have := hz (i + 1) hik
        rw [hl, ← Nat.pow_succ]
        exact this
      rw [e1]
      generalize allRows p i = rows at *
      refine ⟨_, rfl, d, rfl, ⟨_, SqL.of hd1⟩, fun D hD => ?_⟩
      have hDH : H D = none := Same.back s3 hD
      have Dd : d ≠ D := ne_fresh hd1 hD
      let In : List (List Int) → Hp → Prop := fun done H' => Same H1 H' ∧ ∃ bs : List Addr, (∀ b ∈ bs, H1 b = none ∧ b ≠ D) ∧ H' D = some (.lst (bs.map V.ref)) ∧ RowsAt H' bs done
      have lenf : ∀ t, ((rows.take t).flatMap fun row => (rng p).map fun x => row ++ [x]).length = (rows.take t).length * p := fun t => flat_len (c := p) _ (fun x => by rw [List.length_map, rng_len])
      refine lcany_it (walk_list (K := K) (a := d) (xs := as.map V.ref)) (fun t H' => In ((rows.take t).flatMap fun row => (rng p).map fun x => row ++ [x]) H') ⟨Same.new hD, [], fun b hb => by (cases hb), upd_same, RowsAt.nil⟩ (fun t H' _ h => SqL.of (h.1 _ _ hd1)) ?_ ?_
      · rintro t x H2 H2' ht inn ⟨rfl, hx⟩
        rw [List.getElem?_map] at hx
        cases ea : as[t]? with
        | none => rw [ea] at hx; cases hx
        | some a =>
          rw [ea] at hx
          cases Option.some.inj hx
          have htr : t < rows.length := by rw [← ra.len]; exact (List.getElem?_eq_some_iff.mp ea).1
          have er : rows[t]? = some (rows[t]'htr) := List.getElem?_eq_getElem htr
          have hrl := (rok _ (List.getElem_mem htr)).1
          have ha := ra.at_ t a _ ea er
          have lt := lenf t
          rw [List.length_take, Nat.min_eq_left (Nat.le_of_lt htr)] at lt
          have bnd : (t + 1) * p ≤ 4096 := Nat.le_trans (Nat.mul_le_mul_right p htr) big
          rw [Nat.succ_mul] at bnd
          rw [take_flatM er]
          generalize rows[t]'htr = row at *
          generalize (rows.take t).flatMap (fun row => (rng p).map fun x => row ++ [x]) = done at *
          refine ⟨rfl, _, rfl, _, rfl, by omega, by omega, ?_⟩
          refine lcany_it (walk_range (lo := 0) (n := ((p : Nat) : Int).toNat)) (fun j H' => In (done ++ ((rng p).take j).map fun x => row ++ [x]) H') ?_ (fun _ _ _ _ => trivial) ?_ ?_
          · rw [List.take_zero, List.map_nil, List.append_nil]
            exact inn
          · rintro j x H3 H4 hj ⟨s4, bs, hb, hD4, rb⟩ ⟨rfl, rfl⟩
            have hj' : j < p := by omega
            have hbl : bs.length = t * p + j := by
              rw [rb.len, List.length_append, lt, List.length_map, List.length_take, rng_len, Nat.min_eq_left (Nat.le_of_lt hj')]
            rw [take_snoc (rng_at hj'), List.map_append, ← List.append_assoc]
            have ha4 := s4 _ _ ha
            refine ⟨rfl, _, rfl, _, rfl, szd rfl, fun u hu => ?_⟩
            have sU := Same.new (o := .lst [V.int (0 + (j : Int))]) hu
            refine ⟨a, u, _, _, rfl, rfl, sU _ _ ha4, upd_same, sz (by rw [il_len]; simp; omega), fun z hz => ?_⟩
            have sZ := Same.new (o := .lst (il row ++ [V.int (0 + (j : Int))])) hz
            have hD5 := sZ _ _ (sU _ _ hD4)
            have zD : z ≠ D := Ne.symm (ne_fresh (sU _ _ hD4) hz)
            have z1 : H1 z = none := Same.back s4 (Same.back sU hz)
            have ez : upd (upd (upd H4 u (.lst [V.int (0 + (j : Int))])) z (.lst (il row ++ [V.int (0 + (j : Int))]))) D (.lst (bs.map V.ref ++ [V.ref z])) z = some (.lst (il (row ++ [((j : Nat) : Int)]))) := by
              rw [upd_ne zD, upd_same, ← il_snoc, Int.zero_add]
            refine ⟨_, hD5, szl (by rw [List.length_map]; omega), Same.put ((s4.trans sU).trans sZ) hD, bs ++ [z], fun b hb' => ?_, by rw [upd_same, List.map_append]; rfl, ?_⟩
            · rcases List.mem_append.mp hb' with q | q
              · exact hb b q
              · rw [List.mem_singleton.mp q]; exact ⟨z1, zD⟩
            · exact (((rb.same sU).same sZ).put fun b hb' => (hb b hb').2).snoc ez
          · rintro H3 inn3
            have ep : ((p : Nat) : Int).toNat = p := by omega
            rw [ep, List.take_of_length_le (by rw [rng_len]; exact Nat.le_refl _)] at inn3
            exact inn3
      · rintro H2 ⟨s4, bs, hb, hD2, rb⟩
        rw [List.take_of_length_le (by rw [List.length_map, ra.len]; exact Nat.le_refl _)] at rb
        exact ⟨D, bs, ⟨_, _, _, rfl⟩, s3.trans s4, hDH, fun b hb' => ⟨Same.back s3 (hb b hb').1, (hb b hb').2⟩, hD2, rb⟩
    · rintro σ H1 ⟨d, as, ⟨v3, v4, v5, rfl⟩, s3, hd, has, hd1, ra⟩
      have ek : ((k : Nat) : Int).toNat = k := by omega
      rw [ek] at ra
      exact ⟨_, rfl, q d as H1 hd (fun a ha => (has a ha).1) (fun a ha => (has a ha).2) s3 hd1 ra⟩
end
end CK

/-! Plain mathematics: who lets go of the page whose next ask is farthest lacks most seldom. -/
namespace CK
/-- from the kept pages C, n rooms, the row is gone through with k lacks -/
inductive Way (n : Nat) : List Int → List Int → Nat → Prop
  | nil (C : List Int) : Way n C [] 0
  | hit {C : List Int} {p : Int} {r : List Int} {k : Nat} : p ∈ C → Way n C r k → Way n C (p :: r) k
  | room {C : List Int} {p : Int} {r : List Int} {k : Nat} : p ∉ C → C.length < n → Way n (p :: C) r k → Way n C (p :: r) (k + 1)
  | out {C : List Int} {p q : Int} {r : List Int} {k : Nat} : p ∉ C → n ≤ C.length → q ∈ C → Way n (p :: C.erase q) r k → Way n C (p :: r) (k + 1)
theorem Way.perm {n : Nat} : ∀ {C : List Int} {row : List Int} {k : Nat}, Way n C row k → ∀ {C' : List Int}, C.Perm C' → Way n C' row k := by
  intro C row k w
  induction w with
  | nil C => intro C' _; exact .nil C'
  | hit h _ ih => intro C' p; exact .hit (p.mem_iff.mp h) (ih p)
  | room h l _ ih => intro C' p; exact .room (fun z => h (p.mem_iff.mpr z)) (by rw [← p.length_eq]; exact l) (ih (p.cons _))
  | out h l m _ ih => intro C' p; exact .out (fun z => h (p.mem_iff.mpr z)) (by rw [← p.length_eq]; exact l) (p.mem_iff.mp m) (ih ((p.erase _).cons _))
/-- the one page instead of the other costs at most one lack more -/
theorem swap_one {n : Nat} : ∀ {row : List Int} {E : List Int} {x f : Int} {k : Nat}, E.length + 1 = n → (x :: f :: E).Nodup → Way n (f :: E) row k → ∃ k', k' ≤ k + 1 ∧ Way n (x :: E) row k'
  | [], E, x, f, k, _, _, w => ⟨0, by omega, .nil _⟩
  | r :: rest, E, x, f, k, hl, nd, w => by
    have ndx : x ≠ f ∧ x ∉ E := by simpa using (List.nodup_cons.mp nd).1
    have ndf : f ∉ E := (List.nodup_cons.mp (List.nodup_cons.mp nd).2).1
    have ndE : E.Nodup := (List.nodup_cons.mp (List.nodup_cons.mp nd).2).2
    cases w with
    | hit hm w =>
      by_cases hf : r = f
      · subst hf
        refine ⟨k + 1, Nat.le_refl _, .out (q := x) (by simp [Ne.symm ndx.1, ndf]) (by simp; omega) (by simp) ?_⟩
        rw [List.erase_cons_head]
        exact w
      · have hE : r ∈ E := by simpa [hf] using hm
        obtain ⟨k', h1, h2⟩ := swap_one hl nd w
        exact ⟨k', h1, .hit (List.mem_cons_of_mem _ hE) h2⟩
    | room hm hlt w => simp at hlt; omega
    | @out _ _ q _ k hm hge hq w =>
      have hr : r ≠ f ∧ r ∉ E := by simpa using hm
      by_cases hqf : q = f
      · subst hqf
        rw [List.erase_cons_head] at w
        by_cases hrx : r = x
        · subst hrx
          exact ⟨k, by omega, .hit (by simp) w⟩
        · refine ⟨k + 1, by omega, .out (q := x) (by simp [hrx, hr.2]) (by simp; omega) (by simp) ?_⟩
          rw [List.erase_cons_head]
          exact w
      · have hqE : q ∈ E := by simpa [hqf] using hq
        rw [List.erase_cons_tail (by simpa using fun z => hqf z.symm)] at w
        have hqx : x ≠ q := fun z => ndx.2 (z ▸ hqE)
        have le : (E.erase q).length + 1 = E.length := by
          have := List.length_erase_of_mem hqE
          have := List.length_pos_of_mem hqE
          omega
        have nde : (E.erase q).Nodup := ndE.erase q
        have fe : f ∉ E.erase q := fun z => ndf (List.mem_of_mem_erase z)
        have xe : x ∉ E.erase q := fun z => ndx.2 (List.mem_of_mem_erase z)
        have re : r ∉ E.erase q := fun z => hr.2 (List.mem_of_mem_erase z)
        by_cases hrx : r = x
        · -- left has it: (x :: E) ~ q :: (x :: E.erase q); right is f :: (x :: E.erase q)
          subst hrx
          have w' : Way n (f :: r :: E.erase q) rest k := w.perm (.swap _ _ _)
          have nd' : (q :: f :: r :: E.erase q).Nodup := by
            have q1 : q ∉ E.erase q := by
              rw [ndE.mem_erase_iff]
              exact fun z => z.1 rfl
            simp [hqf, Ne.symm hqx, q1, Ne.symm ndx.1, nde, fe, xe]
          obtain ⟨k', h1, h2⟩ := swap_one (by simp; omega) nd' w'
          refine ⟨k', by omega, .hit (by simp) (h2.perm ?_)⟩
          exact (List.Perm.swap _ _ _).trans ((List.perm_cons_erase hqE).symm.cons _)
        · have w' : Way n (f :: r :: E.erase q) rest k := w.perm (.swap _ _ _)
          have nd' : (x :: f :: r :: E.erase q).Nodup := by
            simp [ndx.1, Ne.symm hrx, Ne.symm hr.1, nde, fe, xe, re]
          obtain ⟨k', h1, h2⟩ := swap_one (by simp; omega) nd' w'
          refine ⟨k' + 1, by omega, .out (q := q) (by simp [hrx, hr.2]) (by simp; omega) (List.mem_cons_of_mem _ hqE) ?_⟩
          rw [List.erase_cons_tail (by simpa using hqx)]
          exact h2.perm (.swap _ _ _)
theorem idx_ne {a b : Int} {l : List Int} (h : a ≠ b) : (a :: l).idxOf b = l.idxOf b + 1 := by
  have e : (a == b) = false := by simpa using h
  rw [List.idxOf_cons, e]
  rfl
/-- a page whose next ask is nearer instead of one whose next ask is farther: no lack more -/
theorem swap_near {n : Nat} : ∀ {row : List Int} {E : List Int} {x f : Int} {k : Nat}, E.length + 1 = n → (x :: f :: E).Nodup → row.idxOf x ≤ row.idxOf f → Way n (f :: E) row k → ∃ k', k' ≤ k ∧ Way n (x :: E) row k'
  | [], E, x, f, k, _, _, _, w => ⟨0, by omega, .nil _⟩
  | r :: rest, E, x, f, k, hl, nd, hi, w => by
    have ndx : x ≠ f ∧ x ∉ E := by simpa using (List.nodup_cons.mp nd).1
    have ndf : f ∉ E := (List.nodup_cons.mp (List.nodup_cons.mp nd).2).1
    have ndE : E.Nodup := (List.nodup_cons.mp (List.nodup_cons.mp nd).2).2
    have hrf : r ≠ f := by
      intro z
      subst z
      rw [List.idxOf_cons_self] at hi
      rw [idx_ne (Ne.symm ndx.1)] at hi
      omega
    have step : r ≠ x → rest.idxOf x ≤ rest.idxOf f := fun z => by
      rw [idx_ne z, idx_ne hrf] at hi
      omega
    cases w with
    | hit hm w =>
      have hE : r ∈ E := by simpa [hrf] using hm
      have hrx : r ≠ x := fun z => ndx.2 (z ▸ hE)
      obtain ⟨k', h1, h2⟩ := swap_near hl nd (step hrx) w
      exact ⟨k', h1, .hit (List.mem_cons_of_mem _ hE) h2⟩
    | room hm hlt w => simp at hlt; omega
    | @out _ _ q _ k hm hge hq w =>
      have hr : r ≠ f ∧ r ∉ E := by simpa using hm
      by_cases hqf : q = f
      · subst hqf
        rw [List.erase_cons_head] at w
        by_cases hrx : r = x
        · subst hrx
          exact ⟨k, by omega, .hit (by simp) w⟩
        · refine ⟨k + 1, by omega, .out (q := x) (by simp [hrx, hr.2]) (by simp; omega) (by simp) ?_⟩
          rw [List.erase_cons_head]
          exact w
      · have hqE : q ∈ E := by simpa [hqf] using hq
        rw [List.erase_cons_tail (by simpa using fun z => hqf z.symm)] at w
        have hqx : x ≠ q := fun z => ndx.2 (z ▸ hqE)
        have le : (E.erase q).length + 1 = E.length := by
          have := List.length_erase_of_mem hqE
          have := List.length_pos_of_mem hqE
          omega
        have nde : (E.erase q).Nodup := ndE.erase q
        have fe : f ∉ E.erase q := fun z => ndf (List.mem_of_mem_erase z)
        have xe : x ∉ E.erase q := fun z => ndx.2 (List.mem_of_mem_erase z)
        have re : r ∉ E.erase q := fun z => hr.2 (List.mem_of_mem_erase z)
        by_cases hrx : r = x
        · subst hrx
          have w' : Way n (f :: r :: E.erase q) rest k := w.perm (.swap _ _ _)
          have nd' : (q :: f :: r :: E.erase q).Nodup := by
            have q1 : q ∉ E.erase q := by
              rw [ndE.mem_erase_iff]
              exact fun z => z.1 rfl
            simp [hqf, Ne.symm hqx, q1, Ne.symm ndx.1, nde, fe, xe]
          obtain ⟨k', h1, h2⟩ := swap_one (by simp; omega) nd' w'
          refine ⟨k', by omega, .hit (by simp) (h2.perm ?_)⟩
          exact (List.Perm.swap _ _ _).trans ((List.perm_cons_erase hqE).symm.cons _)
        · have w' : Way n (f :: r :: E.erase q) rest k := w.perm (.swap _ _ _)
          have nd' : (x :: f :: r :: E.erase q).Nodup := by
            simp [ndx.1, Ne.symm hrx, Ne.symm hr.1, nde, fe, xe, re]
          obtain ⟨k', h1, h2⟩ := swap_near (by simp; omega) nd' (step hrx) w'
          refine ⟨k' + 1, by omega, .out (q := q) (by simp [hrx, hr.2]) (by simp; omega) (List.mem_cons_of_mem _ hqE) ?_⟩
          rw [List.erase_cons_tail (by simpa using hqx)]
          exact h2.perm (.swap _ _ _)
/-- gone through so that, where one must be let go, one goes whose next ask is farthest -/
inductive Bel (n : Nat) : List Int → List Int → Nat → Prop
  | nil (C : List Int) : Bel n C [] 0
  | hit {C : List Int} {p : Int} {r : List Int} {k : Nat} : p ∈ C → Bel n C r k → Bel n C (p :: r) k
  | room {C : List Int} {p : Int} {r : List Int} {k : Nat} : p ∉ C → C.length < n → Bel n (p :: C) r k → Bel n C (p :: r) (k + 1)
  | out {C : List Int} {p f : Int} {r : List Int} {k : Nat} : p ∉ C → n ≤ C.length → f ∈ C → (∀ y ∈ C, r.idxOf y ≤ r.idxOf f) → Bel n (p :: C.erase f) r k → Bel n C (p :: r) (k + 1)
theorem Bel.perm {n : Nat} {C : List Int} {row : List Int} {k : Nat} (w : Bel n C row k) : ∀ {C' : List Int}, C.Perm C' → Bel n C' row k := by
  induction w with
  | nil C => intro C' _; exact .nil C'
  | hit h _ ih => intro C' p; exact .hit (p.mem_iff.mp h) (ih p)
  | room h l _ ih => intro C' p; exact .room (fun z => h (p.mem_iff.mpr z)) (by rw [← p.length_eq]; exact l) (ih (p.cons _))
  | out h l m far _ ih => intro C' p; exact .out (fun z => h (p.mem_iff.mpr z)) (by rw [← p.length_eq]; exact l) (p.mem_iff.mp m) (fun y hy => far y (p.mem_iff.mpr hy)) (ih ((p.erase _).cons _))
theorem Bel.way {n : Nat} {C : List Int} {row : List Int} {k : Nat} (w : Bel n C row k) : Way n C row k := by
  induction w with
  | nil C => exact .nil C
  | hit h _ ih => exact .hit h ih
  | room h l _ ih => exact .room h l ih
  | out h l m _ _ ih => exact .out h l m ih
/-- no way has fewer lacks -/
theorem Bel.least {n : Nat} {C : List Int} {row : List Int} {k : Nat} (b : Bel n C row k) : C.Nodup → C.length ≤ n → ∀ {j : Nat}, Way n C row j → k ≤ j := by
  induction b with
  | nil C => intro _ _ j _; exact Nat.zero_le _
  | @hit C p r k h _ ih =>
    intro nd hl j w
    cases w with
    | hit _ w => exact ih nd hl w
    | room h' _ _ => exact absurd h h'
    | out h' _ _ _ => exact absurd h h'
  | @room C p r k h l _ ih =>
    intro nd hl j w
    cases w with
    | hit h' _ => exact absurd h' h
    | room _ _ w => exact Nat.succ_le_succ (ih (List.nodup_cons.mpr ⟨h, nd⟩) l w)
    | out _ h' _ _ => omega
  | @out C p f r k h l m far _ ih =>
    intro nd hl j w
    have lf := List.length_erase_of_mem m
    have lp := List.length_pos_of_mem m
    have ndf : (p :: C.erase f).Nodup := List.nodup_cons.mpr ⟨fun z => h (List.mem_of_mem_erase z), nd.erase f⟩
    have lenf : (p :: C.erase f).length ≤ n := by rw [List.length_cons]; omega
    cases w with
    | hit h' _ => exact absurd h' h
    | room _ h' _ => omega
    | @out _ _ q _ j _ _ mq w =>
      by_cases hqf : q = f
      · subst hqf
        exact Nat.succ_le_succ (ih ndf lenf w)
      · have mf : f ∈ C.erase q := (List.mem_erase_of_ne (Ne.symm hqf)).mpr m
        have mq' : q ∈ C.erase f := (List.mem_erase_of_ne hqf).mpr mq
        have w1 : Way n (f :: p :: (C.erase q).erase f) r j := w.perm (((List.perm_cons_erase mf).cons _).trans (.swap _ _ _))
        have pq : p ≠ q := fun z => h (z ▸ mq)
        have pf : p ≠ f := fun z => h (z ▸ m)
        have l2 : ((C.erase q).erase f).length + 2 = C.length := by
          have a1 := List.length_erase_of_mem mf
          have a2 := List.length_erase_of_mem mq
          have a3 := List.length_pos_of_mem mf
          omega
        have nd1 : (q :: f :: p :: (C.erase q).erase f).Nodup := by
          have n1 : q ∉ (C.erase q).erase f := fun z => (nd.mem_erase_iff.mp (List.mem_of_mem_erase z)).1 rfl
          have n2 : f ∉ (C.erase q).erase f := fun z => ((nd.erase q).mem_erase_iff.mp z).1 rfl
          have n3 : p ∉ (C.erase q).erase f := fun z => h (List.mem_of_mem_erase (List.mem_of_mem_erase z))
          simp [hqf, Ne.symm pq, Ne.symm pf, n1, n2, n3, (nd.erase q).erase f]
        obtain ⟨j', h1, h2⟩ := swap_near (by rw [List.length_cons]; omega) nd1 (far q mq) w1
        have w2 : Way n (p :: C.erase f) r j' := by
          refine h2.perm ((List.Perm.swap _ _ _).trans ?_)
          rw [List.erase_comm]
          exact (List.perm_cons_erase mq').symm.cons _
        exact Nat.succ_le_succ (Nat.le_trans (ih ndf lenf w2) h1)
end CK

/-! Plain mathematics: a room more. -/
namespace CK
/-- a list of unlike things within another is no longer -/
theorem len_sub : ∀ {xs ys : List Int}, xs.Nodup → (∀ x ∈ xs, x ∈ ys) → xs.length ≤ ys.length
  | [], _, _, _ => Nat.zero_le _
  | x :: xs, ys, nd, h => by
    have hx := h x List.mem_cons_self
    have n2 := List.nodup_cons.mp nd
    have ih := len_sub (ys := ys.erase x) n2.2 fun y hy => (List.mem_erase_of_ne (by intro z; rw [z] at hy; exact n2.1 hy)).mpr (h y (List.mem_cons_of_mem _ hy))
    have l1 := List.length_erase_of_mem hx
    have l2 := List.length_pos_of_mem hx
    rw [List.length_cons]
    omega
/-- a longer list of unlike things has one that the other has not -/
theorem one_more {xs ys : List Int} (nd : ys.Nodup) (h : xs.length < ys.length) : ∃ y ∈ ys, y ∉ xs := by
  refine Classical.byContradiction fun c => ?_
  have all : ∀ y ∈ ys, y ∈ xs := fun y hy => Decidable.byContradiction fun z => c ⟨y, hy, z⟩
  have := len_sub nd all
  omega
theorem Way.more {n m : Nat} {C : List Int} {row : List Int} {k : Nat} (w : Way n C row k) (hn : 0 < n) (hm : n ≤ m) : C.length ≤ n → ∀ {C' : List Int}, C'.Nodup → (∀ y ∈ C, y ∈ C') → C'.length ≤ m → ∃ k', k' ≤ k ∧ Way m C' row k' := by
  induction w with
  | nil C => intro _ C' _ _ _; exact ⟨0, Nat.le_refl _, .nil _⟩
  | hit h _ ih =>
    intro l C' nd sub l'
    obtain ⟨k', h1, h2⟩ := ih l nd sub l'
    exact ⟨k', h1, .hit (sub _ h) h2⟩
  | @room C p r k h lt _ ih =>
    intro l C' nd sub l'
    by_cases hp : p ∈ C'
    · obtain ⟨k', h1, h2⟩ := ih (by rw [List.length_cons]; omega) nd (fun y hy => (List.mem_cons.mp hy).elim (fun e => e ▸ hp) (sub y)) l'
      exact ⟨k', by omega, .hit hp h2⟩
    · by_cases hl : C'.length < m
      · obtain ⟨k', h1, h2⟩ := ih (by rw [List.length_cons]; omega) (List.nodup_cons.mpr ⟨hp, nd⟩) (fun y hy => (List.mem_cons.mp hy).elim (fun e => e ▸ List.mem_cons_self) fun z => List.mem_cons_of_mem _ (sub y z)) hl
        exact ⟨k' + 1, by omega, .room hp hl h2⟩
      · obtain ⟨q, hq, hqC⟩ := one_more (xs := C) nd (by omega)
        have l1 := List.length_erase_of_mem hq
        have l2 := List.length_pos_of_mem hq
        obtain ⟨k', h1, h2⟩ := ih (by rw [List.length_cons]; omega) (C' := p :: C'.erase q) (List.nodup_cons.mpr ⟨fun z => hp (List.mem_of_mem_erase z), nd.erase q⟩)
          (fun y hy => (List.mem_cons.mp hy).elim (fun e => e ▸ List.mem_cons_self) fun z => List.mem_cons_of_mem _ ((List.mem_erase_of_ne (by intro e; rw [e] at z; exact hqC z)).mpr (sub y z))) (by rw [List.length_cons]; omega)
        exact ⟨k' + 1, by omega, .out hp (by omega) hq h2⟩
  | @out C p f r k h le mf _ ih =>
    intro l C' nd sub l'
    have f1 := List.length_erase_of_mem mf
    have f2 := List.length_pos_of_mem mf
    have lc : (p :: C.erase f).length ≤ n := by rw [List.length_cons]; omega
    by_cases hp : p ∈ C'
    · obtain ⟨k', h1, h2⟩ := ih lc nd (fun y hy => (List.mem_cons.mp hy).elim (fun e => e ▸ hp) fun z => sub y (List.mem_of_mem_erase z)) l'
      exact ⟨k', by omega, .hit hp h2⟩
    · by_cases hl : C'.length < m
      · obtain ⟨k', h1, h2⟩ := ih lc (List.nodup_cons.mpr ⟨hp, nd⟩) (fun y hy => (List.mem_cons.mp hy).elim (fun e => e ▸ List.mem_cons_self) fun z => List.mem_cons_of_mem _ (sub y (List.mem_of_mem_erase z))) hl
        exact ⟨k' + 1, by omega, .room hp hl h2⟩
      · obtain ⟨q, hq, hqC⟩ := one_more (xs := C.erase f) nd (by omega)
        have l1 := List.length_erase_of_mem hq
        have l2 := List.length_pos_of_mem hq
        obtain ⟨k', h1, h2⟩ := ih lc (C' := p :: C'.erase q) (List.nodup_cons.mpr ⟨fun z => hp (List.mem_of_mem_erase z), nd.erase q⟩)
          (fun y hy => (List.mem_cons.mp hy).elim (fun e => e ▸ List.mem_cons_self) fun z => List.mem_cons_of_mem _ ((List.mem_erase_of_ne (by intro e; rw [e] at z; exact hqC z)).mpr (sub y (List.mem_of_mem_erase z)))) (by rw [List.length_cons]; omega)
        exact ⟨k' + 1, by omega, .out hp (by omega) hq h2⟩
/-- best: with more rooms no more lacks -/
theorem Bel.more {n m : Nat} {row : List Int} {k j : Nat} (b : Bel n [] row k) (b' : Bel m [] row j) (hn : 0 < n) (hm : n ≤ m) : j ≤ k := by
  obtain ⟨k', h1, h2⟩ := b.way.more hn hm (Nat.zero_le _) (C' := []) List.nodup_nil (fun _ h => h) (Nat.zero_le _)
  exact Nat.le_trans (b'.least List.nodup_nil (Nat.zero_le _) h2) h1
end CK

/-! Each rule is a way of letting go. -/
namespace CK
theorem lineStep_nodup {n : Nat} {re : Bool} {l : List Int} {p : Int} (nd : l.Nodup) : (lineStep n re l p).Nodup := by
  unfold lineStep
  by_cases h : p ∈ l
  · rw [if_pos h]
    by_cases hr : re = true
    · rw [if_pos hr]
      have e : l.eraseIdx (l.idxOf p) = l.erase p := (List.erase_eq_eraseIdx_of_idxOf rfl).symm
      rw [e]
      refine List.nodup_append.mpr ⟨nd.erase p, by simp, fun a ha b hb => ?_⟩
      have eb : b = p := by simpa using hb
      intro z
      rw [z, eb] at ha
      exact (nd.mem_erase_iff.mp ha).1 rfl
    · rw [if_neg hr]
      exact nd
  · rw [if_neg h]
    refine List.nodup_append.mpr ⟨?_, by simp, fun a ha b hb => ?_⟩
    · split
      · exact nd.sublist (List.eraseIdx_sublist _ _)
      · exact nd
    · have eb : b = p := by simpa using hb
      intro z
      have ha' : a ∈ l := by
        split at ha
        · exact List.mem_of_mem_eraseIdx ha
        · exact ha
      exact h (by rw [← eb, ← z]; exact ha')
theorem lineStep_len {n : Nat} {re : Bool} {l : List Int} {p : Int} (hn : 0 < n) (hl : l.length ≤ n) : (lineStep n re l p).length ≤ n := by
  unfold lineStep
  by_cases h : p ∈ l
  · rw [if_pos h]
    have lp := List.length_pos_of_mem h
    have li := List.idxOf_lt_length_of_mem h
    split
    · rw [List.length_append, List.length_eraseIdx, if_pos li]
      show l.length - 1 + 1 ≤ n
      omega
    · exact hl
  · rw [if_neg h, List.length_append]
    show _ + 1 ≤ n
    split
    · rw [List.length_eraseIdx, if_pos (by omega)]
      omega
    · omega
theorem way_line {n : Nat} {re : Bool} (hn : 0 < n) : ∀ (row l : List Int), l.Nodup → l.length ≤ n → Way n l row ((lineL n re l row).count true)
  | [], l, _, _ => .nil l
  | p :: r, l, nd, hl => by
    have ih := way_line (re := re) hn r (lineStep n re l p) (lineStep_nodup nd) (lineStep_len hn hl)
    show Way n l (p :: r) (List.count true ((!decide (p ∈ l)) :: lineL n re (lineStep n re l p) r))
    by_cases h : p ∈ l
    · have e : (!decide (p ∈ l)) = false := by simp [h]
      rw [e, List.count_cons_of_ne (by decide)]
      refine .hit h (ih.perm ?_)
      unfold lineStep
      rw [if_pos h]
      split
      · have e2 : l.eraseIdx (l.idxOf p) = l.erase p := (List.erase_eq_eraseIdx_of_idxOf rfl).symm
        rw [e2]
        exact (List.perm_append_comm.trans (List.perm_cons_erase h).symm)
      · exact .refl _
    · have e : (!decide (p ∈ l)) = true := by simp [h]
      rw [e, List.count_cons_self]
      by_cases hf : l.length = n
      · cases l with
        | nil => simp at hf; omega
        | cons x t =>
          refine .out (q := x) h (by omega) List.mem_cons_self ?_
          rw [List.erase_cons_head]
          have es : lineStep n re (x :: t) p = t ++ [p] := by
            unfold lineStep
            rw [if_neg h, if_pos hf]
            rfl
          refine ih.perm ?_
          rw [es]
          exact List.perm_append_comm
      · have es : lineStep n re l p = l ++ [p] := by
          unfold lineStep
          rw [if_neg h, if_neg hf]
        refine .room h (by omega) (ih.perm ?_)
        rw [es]
        exact List.perm_append_comm
end CK

/-! The line of the longest unasked: with more rooms no more lacks. -/
namespace CK
theorem step_hit {n : Nat} {l : List Int} {p : Int} (h : p ∈ l) : lineStep n true l p = l.erase p ++ [p] := by
  unfold lineStep
  rw [if_pos h, if_pos rfl, ← List.erase_eq_eraseIdx_of_idxOf rfl]
theorem step_out {n : Nat} {re : Bool} {x : Int} {t : List Int} {p : Int} (h : p ∉ x :: t) (hl : (x :: t).length = n) : lineStep n re (x :: t) p = t ++ [p] := by
  unfold lineStep
  rw [if_neg h, if_pos hl]
  rfl
theorem step_in {n : Nat} {re : Bool} {l : List Int} {p : Int} (h : p ∉ l) (hl : l.length ≠ n) : lineStep n re l p = l ++ [p] := by
  unfold lineStep
  rw [if_neg h, if_neg hl]
/-- the longer line ends with the shorter one -/
theorem line_more {n m : Nat} (hn : 0 < n) (hm : n ≤ m) : ∀ (row pre l : List Int), (pre ++ l).Nodup → (pre ++ l).length ≤ m → l.length ≤ n → (pre = [] ∨ l.length = n) → (lineL m true (pre ++ l) row).count true ≤ (lineL n true l row).count true
  | [], _, _, _, _, _, _ => Nat.le_refl _
  | p :: r, pre, l, nd, hL, hl, hp => by
    show List.count true ((!decide (p ∈ pre ++ l)) :: lineL m true (lineStep m true (pre ++ l) p) r) ≤ List.count true ((!decide (p ∈ l)) :: lineL n true (lineStep n true l p) r)
    have ndL : (lineStep m true (pre ++ l) p).Nodup := lineStep_nodup nd
    have lenL : (lineStep m true (pre ++ l) p).length ≤ m := lineStep_len (by omega) hL
    have lenl : (lineStep n true l p).length ≤ n := lineStep_len hn hl
    have go : ∀ pre', lineStep m true (pre ++ l) p = pre' ++ lineStep n true l p → (pre' = [] ∨ (lineStep n true l p).length = n) →
        (lineL m true (lineStep m true (pre ++ l) p) r).count true ≤ (lineL n true (lineStep n true l p) r).count true := fun pre' e c => by
      rw [e] at ndL lenL ⊢
      exact line_more hn hm r pre' _ ndL lenL lenl c
    by_cases h1 : p ∈ l
    · have h2 : p ∈ pre ++ l := List.mem_append_right _ h1
      have h3 : p ∉ pre := fun z => (List.nodup_append.mp nd).2.2 p z p h1 rfl
      have e1 : (!decide (p ∈ pre ++ l)) = false := by simp [h1]
      have e2 : (!decide (p ∈ l)) = false := by simp [h1]
      rw [e1, e2, List.count_cons_of_ne (by decide), List.count_cons_of_ne (by decide)]
      refine go pre ?_ ?_
      · rw [step_hit h2, step_hit h1, List.erase_append_right _ h3, List.append_assoc]
      · rcases hp with hp | hp
        · exact .inl hp
        · refine .inr ?_
          rw [step_hit h1, List.length_append, List.length_erase_of_mem h1]
          have := List.length_pos_of_mem h1
          show l.length - 1 + 1 = n
          omega
    · have e2 : (!decide (p ∈ l)) = true := by simp [h1]
      rw [e2, List.count_cons_self]
      by_cases hf : l.length = n
      · cases l with
        | nil => simp at hf; omega
        | cons x t =>
          have lt : (t ++ [p]).length = n := by
            rw [List.length_append]
            simpa using hf
          have sn := step_out (re := true) h1 hf
          by_cases h2 : p ∈ pre
          · have e1 : (!decide (p ∈ pre ++ x :: t)) = false := by simp [h2]
            rw [e1, List.count_cons_of_ne (by decide)]
            refine Nat.le_succ_of_le (go (pre.erase p ++ [x]) ?_ (.inr (by rw [sn]; exact lt)))
            rw [step_hit (List.mem_append_left _ h2), sn, List.erase_append_left _ h2]
            simp
          · have h3 : p ∉ pre ++ x :: t := fun z => (List.mem_append.mp z).elim h2 h1
            have e1 : (!decide (p ∈ pre ++ x :: t)) = true := by simp only [h3, decide_false, Bool.not_false]
            rw [e1, List.count_cons_self]
            refine Nat.succ_le_succ ?_
            by_cases hLm : (pre ++ x :: t).length = m
            · cases pre with
              | nil =>
                refine go [] ?_ (.inl rfl)
                rw [sn]
                exact step_out h3 hLm
              | cons y ys =>
                refine go (ys ++ [x]) ?_ (.inr (by rw [sn]; exact lt))
                rw [sn]
                have q : lineStep m true (y :: (ys ++ x :: t)) p = (ys ++ x :: t) ++ [p] := step_out h3 hLm
                show lineStep m true (y :: (ys ++ x :: t)) p = _
                rw [q]
                simp
            · refine go (pre ++ [x]) ?_ (.inr (by rw [sn]; exact lt))
              rw [sn, step_in h3 hLm]
              simp
      · have hpre : pre = [] := hp.resolve_right hf
        subst hpre
        have e1 : (!decide (p ∈ [] ++ l)) = true := by simp [h1]
        rw [e1, List.count_cons_self]
        refine Nat.succ_le_succ (go [] ?_ (.inl rfl))
        rw [step_in h1 hf]
        exact step_in h1 (by simp; omega)
end CK

/-! In a part of a row with no more unlike pages than rooms no page lacks twice: the two lines. -/
namespace CK
/-- the pages that lack, in turn -/
def lackP : List Int → List Bool → List Int
  | p :: r, b :: bs => if b = true then p :: lackP r bs else lackP r bs
  | _, _ => []
theorem lineStep_mem {n : Nat} {re : Bool} {l : List Int} {x y : Int} (h : y ∈ lineStep n re l x) : y ∈ l ∨ y = x := by
  unfold lineStep at h
  split at h
  · split at h
    · rcases List.mem_append.mp h with h | h
      · exact .inl (List.mem_of_mem_eraseIdx h)
      · exact .inr (by simpa using h)
    · exact .inl h
  · rcases List.mem_append.mp h with h | h
    · split at h
      · exact .inl (List.mem_of_mem_eraseIdx h)
      · exact .inl h
    · exact .inr (by simpa using h)
/-- what came behind p was asked for since: p stays -/
theorem line_stays {n : Nat} {re : Bool} (hn : 0 < n) {U : List Int} {p : Int} (hU : U.Nodup) (hUn : U.length ≤ n) (pU : p ∈ U) : ∀ (seg A B : List Int), (A ++ p :: B).Nodup → (A ++ p :: B).length ≤ n → (∀ b ∈ B, b ∈ U) → (∀ x ∈ seg, x ∈ U) →
    p ∉ lackP seg (lineL n re (A ++ p :: B) seg)
  | [], _, _, _, _, _, _ => by
    intro z
    cases z
  | x :: r, A, B, nd, hl, hB, hs => by
    have xU := hs x List.mem_cons_self
    have hr : ∀ y ∈ r, y ∈ U := fun y hy => hs y (List.mem_cons_of_mem _ hy)
    have nd' : (lineStep n re (A ++ p :: B) x).Nodup := lineStep_nodup nd
    have hl' : (lineStep n re (A ++ p :: B) x).length ≤ n := lineStep_len hn hl
    have go : ∀ A' B', lineStep n re (A ++ p :: B) x = A' ++ p :: B' → (∀ b ∈ B', b ∈ U) → p ∉ lackP r (lineL n re (lineStep n re (A ++ p :: B) x) r) := fun A' B' e hB' => by
      rw [e] at nd' hl' ⊢
      exact line_stays hn hU hUn pU r A' B' nd' hl' hB' hr
    have pA : p ∉ A := fun z => (List.nodup_append.mp nd).2.2 p z p (by simp) rfl
    have pB : p ∉ B := (List.nodup_cons.mp (List.nodup_append.mp nd).2.1).1
    have Bx : ∀ b ∈ B ++ [x], b ∈ U := fun b hb => (List.mem_append.mp hb).elim (hB b) fun z => by
      have e : b = x := by simpa using z
      rw [e]
      exact xU
    show p ∉ lackP (x :: r) ((!decide (x ∈ A ++ p :: B)) :: lineL n re (lineStep n re (A ++ p :: B) x) r)
    by_cases hx : x ∈ A ++ p :: B
    · have e : (!decide (x ∈ A ++ p :: B)) = false := by simp only [hx, decide_true, Bool.not_true]
      rw [e]
      show p ∉ lackP r _
      by_cases hre : re = true
      · subst hre
        have es := step_hit (n := n) hx
        by_cases hxp : x = p
        · subst hxp
          refine go (A ++ B) [] ?_ (fun b hb => by cases hb)
          rw [es, List.erase_append_right _ pA, List.erase_cons_head]
        · rcases List.mem_append.mp hx with h | h
          · refine go (A.erase x) (B ++ [x]) ?_ Bx
            rw [es, List.erase_append_left _ h]
            simp
          · have hxB : x ∈ B := by simpa [hxp] using h
            have hxA : x ∉ A := fun z => (List.nodup_append.mp nd).2.2 x z x h rfl
            refine go A (B.erase x ++ [x]) ?_ (fun b hb => (List.mem_append.mp hb).elim (fun z => hB b (List.mem_of_mem_erase z)) fun z => Bx b (List.mem_append_right _ z))
            rw [es, List.erase_append_right _ hxA, List.erase_cons_tail (by simpa using fun z => hxp z.symm)]
            simp
      · refine go A B ?_ hB
        unfold lineStep
        rw [if_pos hx, if_neg hre]
    · have hxp : p ≠ x := fun z => hx (by rw [← z]; simp)
      have tail : p ∉ lackP r (lineL n re (lineStep n re (A ++ p :: B) x) r) := by
        by_cases hf : (A ++ p :: B).length = n
        · cases A with
          | nil =>
            -- p and all behind it, and x: more than U has
            exfalso
            have nd2 : (x :: p :: B).Nodup := List.nodup_cons.mpr ⟨hx, nd⟩
            have len := len_sub nd2 (ys := U) fun y hy => by
              rcases List.mem_cons.mp hy with rfl | hy
              · exact xU
              · rcases List.mem_cons.mp hy with rfl | hy
                · exact pU
                · exact hB y hy
            have f2 : (p :: B).length = n := hf
            rw [List.length_cons] at len
            omega
          | cons y ys =>
            refine go ys (B ++ [x]) ?_ Bx
            have q : lineStep n re (y :: (ys ++ p :: B)) x = (ys ++ p :: B) ++ [x] := step_out hx hf
            show lineStep n re (y :: (ys ++ p :: B)) x = _
            rw [q]
            simp
        · refine go A (B ++ [x]) ?_ Bx
          rw [step_in hx hf]
          simp
      have e : (!decide (x ∈ A ++ p :: B)) = true := by simp only [hx, decide_false, Bool.not_false]
      rw [e]
      show p ∉ x :: lackP r _
      intro z
      rcases List.mem_cons.mp z with z | z
      · exact hxp z
      · exact tail z
theorem line_once {n : Nat} {re : Bool} (hn : 0 < n) {U : List Int} (hU : U.Nodup) (hUn : U.length ≤ n) : ∀ (seg l : List Int), l.Nodup → l.length ≤ n → (∀ x ∈ seg, x ∈ U) → (lackP seg (lineL n re l seg)).Nodup
  | [], _, _, _, _ => List.nodup_nil
  | p :: r, l, nd, hl, hs => by
    have ih := line_once (re := re) hn hU hUn r (lineStep n re l p) (lineStep_nodup nd) (lineStep_len hn hl) fun x hx => hs x (List.mem_cons_of_mem _ hx)
    show (lackP (p :: r) ((!decide (p ∈ l)) :: lineL n re (lineStep n re l p) r)).Nodup
    by_cases h : p ∈ l
    · have e : (!decide (p ∈ l)) = false := by simp [h]
      rw [e]
      exact ih
    · have e : (!decide (p ∈ l)) = true := by simp [h]
      rw [e]
      refine List.nodup_cons.mpr ⟨?_, ih⟩
      have nd' : (lineStep n re l p).Nodup := lineStep_nodup nd
      have hl' : (lineStep n re l p).length ≤ n := lineStep_len hn hl
      obtain ⟨A, eA⟩ : ∃ A, lineStep n re l p = A ++ p :: [] := by
        unfold lineStep
        rw [if_neg h]
        exact ⟨_, rfl⟩
      rw [eA] at nd' hl' ⊢
      exact line_stays hn hU hUn (hs p List.mem_cons_self) r A [] nd' hl' (fun b hb => by cases hb) fun x hx => hs x (List.mem_cons_of_mem _ hx)
end CK

/-! No way has fewer lacks than there are stretches. -/
namespace CK
/-- a way, cut behind an ask -/
theorem Way.cut {n : Nat} (hn : 0 < n) {q : Int} {Y : List Int} : ∀ {X C : List Int} {k : Nat}, C.Nodup → C.length ≤ n → Way n C (X ++ q :: Y) k →
    ∃ C1 k1 k2, k = k1 + k2 ∧ Way n C1 Y k2 ∧ C1.Nodup ∧ C1.length ≤ n ∧ q ∈ C1 ∧ (k1 = 0 → ∀ x ∈ X ++ [q], x ∈ C)
  | [], C, k, nd, hl, w => by
    cases w with
    | @hit _ _ _ k h w => exact ⟨C, 0, k, by omega, w, nd, hl, h, fun _ x hx => by
        have e : x = q := by simpa using hx
        rw [e]
        exact h⟩
    | @room _ _ _ k h lt w => exact ⟨_, 1, k, by omega, w, List.nodup_cons.mpr ⟨h, nd⟩, by rw [List.length_cons]; omega, List.mem_cons_self, fun z => by omega⟩
    | @out _ _ f _ k h ge hf w =>
      have l1 := List.length_erase_of_mem hf
      have l2 := List.length_pos_of_mem hf
      exact ⟨_, 1, k, by omega, w, List.nodup_cons.mpr ⟨fun z => h (List.mem_of_mem_erase z), nd.erase f⟩, by rw [List.length_cons]; omega, List.mem_cons_self, fun z => by omega⟩
  | x :: X, C, k, nd, hl, w0 => by
    have w' : Way n C (x :: (X ++ q :: Y)) k := w0
    clear w0
    cases w' with
    | @hit _ _ _ k h w =>
      obtain ⟨C1, k1, k2, e, w1, n1, l1, m1, z⟩ := Way.cut hn nd hl w
      refine ⟨C1, k1, k2, e, w1, n1, l1, m1, fun e0 y hy => ?_⟩
      rcases List.mem_cons.mp hy with rfl | hy
      · exact h
      · exact z e0 y hy
    | @room _ _ _ k h lt w =>
      obtain ⟨C1, k1, k2, e, w1, n1, l1, m1, _⟩ := Way.cut hn (List.nodup_cons.mpr ⟨h, nd⟩) (by rw [List.length_cons]; omega) w
      exact ⟨C1, k1 + 1, k2, by omega, w1, n1, l1, m1, fun z => by omega⟩
    | @out _ _ f _ k h ge hf w =>
      have g1 := List.length_erase_of_mem hf
      have g2 := List.length_pos_of_mem hf
      obtain ⟨C1, k1, k2, e, w1, n1, l1, m1, _⟩ := Way.cut hn (List.nodup_cons.mpr ⟨fun z => h (List.mem_of_mem_erase z), nd.erase f⟩) (by rw [List.length_cons]; omega) w
      exact ⟨C1, k1 + 1, k2, by omega, w1, n1, l1, m1, fun z => by omega⟩
/-- more than n unlike pages are asked for -/
def Many (n : Nat) (xs : List Int) : Prop := ∃ U : List Int, U.Nodup ∧ n < U.length ∧ ∀ u ∈ U, u ∈ xs
/-- each part goes on as far as can be: with the next ask it has too many unlike pages -/
def Far (n : Nat) : List (List Int) → Prop
  | [] => True
  | a :: rest => (∀ q w r, rest = (q :: w) :: r → Many n (a ++ [q])) ∧ Far n rest
theorem parts_way {n : Nat} (hn : 0 < n) : ∀ (rest : List (List Int)) (p : Int) (W C : List Int) (k : Nat), (∀ a ∈ rest, a ≠ []) → Far n ((p :: W) :: rest) → C.Nodup → C.length ≤ n → p ∈ C → Way n C (W ++ rest.flatten) k → rest.length ≤ k
  | [], _, _, _, _, _, _, _, _, _, _ => Nat.zero_le _
  | [] :: _, _, _, _, _, ne, _, _, _, _, _ => absurd rfl (ne [] List.mem_cons_self)
  | (q :: W') :: rest, p, W, C, k, ne, far, nd, hl, hp, w => by
    have e : W ++ ((q :: W') :: rest).flatten = W ++ q :: (W' ++ rest.flatten) := by simp
    rw [e] at w
    obtain ⟨C1, k1, k2, ek, w1, n1, l1, m1, z⟩ := Way.cut hn nd hl w
    have ih := parts_way hn rest q W' C1 k2 (fun a ha => ne a (List.mem_cons_of_mem _ ha)) far.2 n1 l1 m1 w1
    obtain ⟨U, u1, u2, u3⟩ := far.1 q W' rest rfl
    have k1p : k1 ≠ 0 := fun k0 => by
      have sub := len_sub u1 (ys := C) fun u hu => by
        have m := u3 u hu
        rcases List.mem_cons.mp (show u ∈ p :: (W ++ [q]) from m) with rfl | m
        · exact hp
        · exact z k0 u m
      omega
    rw [List.length_cons]
    omega
/-- a row that is cut into so many parts -/
theorem parts_least {n : Nat} (hn : 0 < n) {parts : List (List Int)} {k : Nat} (ne : ∀ a ∈ parts, a ≠ []) (far : Far n parts) (w : Way n [] parts.flatten k) : parts.length ≤ k := by
  cases parts with
  | nil => exact Nat.zero_le _
  | cons a rest =>
    cases a with
    | nil => exact absurd rfl (ne [] List.mem_cons_self)
    | cons p W =>
      have e : ((p :: W) :: rest).flatten = [] ++ p :: (W ++ rest.flatten) := by simp
      rw [e] at w
      obtain ⟨C1, k1, k2, ek, w1, n1, l1, m1, z⟩ := Way.cut hn List.nodup_nil (Nat.zero_le _) w
      have q := parts_way hn rest p W C1 k2 (fun a ha => ne a (List.mem_cons_of_mem _ ha)) far n1 l1 m1 w1
      have k1p : k1 ≠ 0 := fun k0 => by
        have := z k0 p (by simp)
        cases this
      rw [List.length_cons]
      omega
end CK

/-! The hand is a way of letting go. -/
namespace CK
def keepD (s : DS) : List Int := s.held.filterMap id
theorem mem_keep {l : List (Option Int)} {p : Int} : p ∈ l.filterMap id ↔ some p ∈ l := by
  rw [List.mem_filterMap]
  exact ⟨fun ⟨a, h, e⟩ => by rw [← show a = some p from e]; exact h, fun h => ⟨some p, h, rfl⟩⟩
theorem keep_new : ∀ {l : List (Option Int)} {i : Nat} {p : Int}, l[i]? = some none → ((l.set i (some p)).filterMap id).Perm (p :: l.filterMap id)
  | [], i, p, h => by simp at h
  | a :: l, 0, p, h => by
    have e : a = none := Option.some.inj h
    subst e
    exact .refl _
  | a :: l, i + 1, p, h => by
    have ih := keep_new (l := l) (i := i) (p := p) h
    cases a with
    | none => exact ih
    | some x => exact (ih.cons x).trans (.swap _ _ _)
theorem keep_put : ∀ {l : List (Option Int)} {i : Nat} {p q : Int}, (l.filterMap id).Nodup → l[i]? = some (some q) → ((l.set i (some p)).filterMap id).Perm (p :: (l.filterMap id).erase q)
  | [], i, p, q, _, h => by simp at h
  | a :: l, 0, p, q, nd, h => by
    have e : a = some q := Option.some.inj h
    subst e
    show (p :: l.filterMap id).Perm (p :: (q :: l.filterMap id).erase q)
    rw [List.erase_cons_head]
  | a :: l, i + 1, p, q, nd, h => by
    cases a with
    | none => exact keep_put (l := l) (i := i) nd h
    | some x =>
      have nd2 : (x :: l.filterMap id).Nodup := nd
      have ih := keep_put (l := l) (i := i) (p := p) (List.nodup_cons.mp nd2).2 h
      have hq : q ∈ l.filterMap id := mem_keep.mpr (List.mem_of_getElem? h)
      have xq : x ≠ q := fun z => (List.nodup_cons.mp nd2).1 (z ▸ hq)
      show (x :: (l.set i (some p)).filterMap id).Perm (p :: (x :: l.filterMap id).erase q)
      rw [List.erase_cons_tail (by simpa using xq)]
      exact (ih.cons x).trans (.swap _ _ _)
theorem keep_less : ∀ {l : List (Option Int)}, none ∈ l → (l.filterMap id).length < l.length
  | [], h => by cases h
  | none :: l, _ => by
    show (l.filterMap id).length < l.length + 1
    exact Nat.lt_succ_of_le (List.length_filterMap_le _ _)
  | some x :: l, h => by
    have h2 : none ∈ l := by simpa using h
    exact Nat.succ_lt_succ (keep_less h2)
theorem keep_full : ∀ {l : List (Option Int)}, none ∉ l → (l.filterMap id).length = l.length
  | [], _ => rfl
  | none :: l, h => absurd List.mem_cons_self h
  | some x :: l, h => congrArg Nat.succ (keep_full (l := l) fun z => h (List.mem_cons_of_mem _ z))
/-- the rooms fill up in turn; then all stay full -/
def Filled (n : Nat) (s : DS) : Prop := none ∉ s.held ∨ (s.hand < n ∧ (∀ i, i < s.hand → s.held[i]? ≠ some none) ∧ ∀ i, s.hand ≤ i → i < n → s.held[i]? = some none ∧ s.marks[i]? = some false)
theorem filled_new {n : Nat} (hn : 0 < n) : Filled n (DS.new n) := by
  refine .inr ⟨hn, fun i hi => absurd hi (Nat.not_lt_zero i), fun i _ hi => ?_⟩
  show (List.replicate n none)[i]? = some none ∧ (List.replicate n false)[i]? = some false
  rw [List.getElem?_replicate, if_pos hi, List.getElem?_replicate, if_pos hi]
  exact ⟨rfl, rfl⟩
theorem pass_stop {s : DS} (h : s.marks[s.hand]? = some false) : s.pass = (s.marks, s.hand, []) := by
  unfold DS.pass
  cases s.marks.count true with
  | zero => rfl
  | succ k =>
    show (if s.marks[s.hand]? = some true then _ else (s.marks, s.hand, [])) = _
    rw [if_neg (by rw [h]; simp)]
theorem way_hand {n : Nat} (hn : 0 < n) : ∀ (row : List Int) (s : DS), s.WF n → (keepD s).Nodup → Filled n s → Way n (keepD s) row (((tellsL s row).map (·.1)).count true)
  | [], s, _, _, _ => .nil _
  | p :: r, s, W, nd, F => by
    have W' : (s.ask p).WF n := DS.ask_wf W
    show Way n (keepD s) (p :: r) (List.count true ((s.tells p).1 :: (tellsL (s.ask p) r).map (·.1)))
    by_cases hp : some p ∈ s.held
    · have e1 : (s.tells p).1 = false := by unfold DS.tells; rw [if_pos hp]
      have e2 : s.ask p = s.hit p := by unfold DS.ask; rw [if_pos hp]
      rw [e1, List.count_cons_of_ne (by decide), e2]
      rw [e2] at W'
      refine .hit (mem_keep.mpr hp) (way_hand hn r (s.hit p) W' nd ?_)
      rcases F with F | ⟨f1, f2, f3⟩
      · exact .inl F
      · refine .inr ⟨f1, f2, fun i h1 h2 => ⟨(f3 i h1 h2).1, ?_⟩⟩
        show (s.marks.set (s.held.idxOf (some p)) true)[i]? = some false
        have ne : s.held.idxOf (some p) ≠ i := fun z => by
          have g := idx_at hp
          rw [z, (f3 i h1 h2).1] at g
          cases g
        rw [List.getElem?_set_ne ne]
        exact (f3 i h1 h2).2
    · have e1 : (s.tells p).1 = true := by unfold DS.tells; rw [if_neg hp]
      have e2 : s.ask p = s.lack p := by unfold DS.ask; rw [if_neg hp]
      rw [e1, List.count_cons_self, e2]
      rw [e2] at W'
      have hpk : p ∉ keepD s := fun z => hp (mem_keep.mp z)
      have hlt := W.passlt
      rcases F with F | ⟨f1, f2, f3⟩
      · have hi : s.pass.2.1 < s.held.length := by rw [W.h]; exact hlt
        obtain ⟨q, hq⟩ : ∃ q, s.held[s.pass.2.1]? = some (some q) := by
          cases g : s.held[s.pass.2.1]'hi with
          | none => exact absurd (g ▸ List.getElem_mem hi) F
          | some q => exact ⟨q, by rw [List.getElem?_eq_getElem hi, g]⟩
        have pm : (keepD (s.lack p)).Perm (p :: (keepD s).erase q) := keep_put nd hq
        have nd' : (keepD (s.lack p)).Nodup := pm.nodup_iff.mpr (List.nodup_cons.mpr ⟨fun z => hpk (List.mem_of_mem_erase z), nd.erase q⟩)
        have F' : Filled n (s.lack p) := .inl fun z => by
          have z' : none ∈ s.held.set s.pass.2.1 (some p) := z
          rcases List.mem_or_eq_of_mem_set z' with z' | z'
          · exact F z'
          · cases z'
        refine .out hpk (by rw [show (keepD s).length = s.held.length from keep_full F, W.h]; exact Nat.le_refl _) (mem_keep.mpr (List.mem_of_getElem? hq)) ?_
        exact (way_hand hn r (s.lack p) W' nd' F').perm pm
      · have g := f3 s.hand (Nat.le_refl _) f1
        have st := pass_stop g.2
        have pm : (keepD (s.lack p)).Perm (p :: keepD s) := by
          show ((s.held.set s.pass.2.1 (some p)).filterMap id).Perm _
          rw [st]
          exact keep_new g.1
        have nd' : (keepD (s.lack p)).Nodup := pm.nodup_iff.mpr (List.nodup_cons.mpr ⟨hpk, nd⟩)
        have eh : (s.lack p).held = s.held.set s.hand (some p) := by
          show s.held.set s.pass.2.1 (some p) = _
          rw [st]
        have em : (s.lack p).marks = s.marks.set s.hand true := by
          show s.pass.1.set s.pass.2.1 true = _
          rw [st]
        have en : (s.lack p).hand = (s.hand + 1) % n := by
          show (s.pass.2.1 + 1) % s.held.length = _
          rw [st, W.h]
        have hset : ∀ i, i ≠ s.hand → (s.lack p).held[i]? = s.held[i]? := fun i hi => by
          rw [eh, List.getElem?_set_ne (Ne.symm hi)]
        have hat : (s.lack p).held[s.hand]? = some (some p) := by
          rw [eh, List.getElem?_set_self (by rw [W.h]; exact f1)]
        have F' : Filled n (s.lack p) := by
          by_cases hl : s.hand + 1 = n
          · refine .inl fun z => ?_
            obtain ⟨i, hi, gi⟩ := List.mem_iff_getElem.mp z
            have gi' : (s.lack p).held[i]? = some none := by rw [List.getElem?_eq_getElem hi, gi]
            have hin : i < n := by rw [← W'.h]; exact hi
            by_cases hc : i = s.hand
            · rw [hc, hat] at gi'
              cases gi'
            · rw [hset i hc] at gi'
              exact f2 i (by omega) gi'
          · have en' : (s.lack p).hand = s.hand + 1 := by
              rw [en]
              exact Nat.mod_eq_of_lt (by omega)
            refine .inr ⟨by omega, fun i hi => ?_, fun i h1 h2 => ?_⟩
            · by_cases hc : i = s.hand
              · rw [hc, hat]
                intro z
                cases z
              · rw [hset i hc]
                exact f2 i (by omega)
            · have hc : i ≠ s.hand := by omega
              refine ⟨?_, ?_⟩
              · rw [hset i hc]
                exact (f3 i (by omega) h2).1
              · rw [em, List.getElem?_set_ne (Ne.symm hc)]
                exact (f3 i (by omega) h2).2
        have mem : none ∈ s.held := List.mem_of_getElem? g.1
        refine .room hpk (by rw [← W.h]; exact keep_less mem) ?_
        exact (way_hand hn r (s.lack p) W' nd' F').perm pm
/-- each rule is a way of letting go, from no page on -/
theorem way_rule {n : Nat} (hn : 0 < n) (rule : Rl) (row : List Int) : Way n [] row ((lackB n rule row).count true) := by
  cases rule with
  | hand =>
    have e : keepD (DS.new n) = [] := by
      show (List.replicate n none).filterMap id = []
      rw [List.filterMap_replicate]
      rfl
    have w := way_hand hn row (DS.new n) (DS.new_wf hn) (by rw [e]; exact List.nodup_nil) (filled_new hn)
    rw [e] at w
    exact w
  | unseen => exact way_line hn row [] List.nodup_nil (Nat.zero_le _)
  | first => exact way_line hn row [] List.nodup_nil (Nat.zero_le _)
end CK

/-! Who lets the farthest go is the best: as a way. -/
namespace CK
theorem snoc_perm (C : List Int) (p : Int) : (C ++ [p]).Perm (p :: C) := by
  have q := List.perm_append_comm (l₁ := C) (l₂ := [p])
  exact q
theorem best_bel_at {n : Nat} (hn : 0 < n) (row : List Int) : ∀ (m i : Nat), row.length - i = m → i ≤ row.length → (bestTo n row i).lacks.length ≤ (bestS n row).lacks.length ∧ Bel n (bestTo n row i).C (row.drop i) ((bestS n row).lacks.length - (bestTo n row i).lacks.length)
  | 0, i, hm, hi => by
    have e : i = row.length := by omega
    subst e
    rw [List.drop_length]
    have e2 : (bestS n row).lacks.length - (bestTo n row row.length).lacks.length = 0 := Nat.sub_self _
    rw [e2]
    exact ⟨Nat.le_refl _, .nil _⟩
  | m + 1, i, hm, hi => by
    have hi' : i < row.length := by omega
    have ei : row[i]? = some (row[i]'hi') := List.getElem?_eq_getElem hi'
    obtain ⟨ih1, ih2⟩ := best_bel_at hn row m (i + 1) (by omega) (by omega)
    have Ok := bestTo_ok hn row i
    rw [drop_at ei]
    rw [bestTo_succ ei] at ih1 ih2
    unfold BS.step at ih1 ih2
    generalize row[i]'hi' = p at *
    by_cases hin : p ∈ (bestTo n row i).C
    · rw [if_pos hin] at ih1 ih2
      exact ⟨ih1, .hit hin ih2⟩
    · rw [if_neg hin] at ih1 ih2
      by_cases hf : (bestTo n row i).C.length = n
      · rw [if_pos hf] at ih1 ih2
        have hne : (bestTo n row i).C ≠ [] := by intro z; rw [z] at hf; simp at hf; omega
        have F := far_ok (row := row) (i := i) hne
        generalize far row i (bestTo n row i).C = f at *
        have l1 : (bestTo n row i).lacks.length + 1 ≤ (bestS n row).lacks.length := by
          have := ih1
          rw [List.length_append] at this
          exact this
        refine ⟨by omega, ?_⟩
        have e3 : (bestS n row).lacks.length - (bestTo n row i).lacks.length = ((bestS n row).lacks.length - ((bestTo n row i).lacks ++ [i]).length) + 1 := by
          rw [List.length_append]
          simp
          omega
        rw [e3]
        refine .out hin (by omega) F.mem (fun y hy => ?_) (ih2.perm ?_)
        · have h1 := F.far y hy
          have hy2 : y ≠ p := by intro z; rw [z] at hy; exact hin hy
          have hf2 : f ≠ p := by intro z; rw [← z] at hin; exact hin F.mem
          rw [nxt_on ei hy2, nxt_on ei hf2] at h1
          unfold nxt at h1
          omega
        · rw [Ok.nd.erase_eq_filter]
          exact snoc_perm _ _
      · rw [if_neg hf] at ih1 ih2
        have l1 : (bestTo n row i).lacks.length + 1 ≤ (bestS n row).lacks.length := by
          have := ih1
          rw [List.length_append] at this
          exact this
        refine ⟨by omega, ?_⟩
        have e3 : (bestS n row).lacks.length - (bestTo n row i).lacks.length = ((bestS n row).lacks.length - ((bestTo n row i).lacks ++ [i]).length) + 1 := by
          rw [List.length_append]
          simp
          omega
        rw [e3]
        have := Ok.le
        exact .room hin (by omega) (ih2.perm (snoc_perm _ _))
theorem best_bel {n : Nat} (hn : 0 < n) (row : List Int) : Bel n [] row (bestS n row).lacks.length := by
  have q := (best_bel_at hn row row.length 0 (by omega) (Nat.zero_le _)).2
  exact q
theorem best_least {n : Nat} (hn : 0 < n) {row : List Int} {k : Nat} (w : Way n [] row k) : (bestS n row).lacks.length ≤ k := (best_bel hn row).least List.nodup_nil (Nat.zero_le _) w
theorem placesT_len : ∀ (i : Nat) (xs : List Bool), (placesT i xs).length = xs.count true
  | _, [] => rfl
  | i, b :: r => by
    unfold placesT
    cases b with
    | true => simp [placesT_len (i + 1) r]
    | false => simp [placesT_len (i + 1) r]
/-- no rule lacks more seldom -/
theorem best_rule {n : Nat} (hn : 0 < n) (rule : Rl) (row : List Int) : (bestS n row).lacks.length ≤ (lacksR n rule row).length := by
  unfold lacksR
  rw [placesT_len]
  exact best_least hn (way_rule hn rule row)
end CK

/-! The program's worst row, whole. -/
namespace CK
open PySem PySem.Spec PyProof.Rows L2
noncomputable def moreL (n : Nat) (rule : Rl) (row : List Int) : Int := ((lacksR n rule row).length : Int) - ((bestS n row).lacks.length : Int)
theorem moreL_pos {n : Nat} (hn : 0 < n) (rule : Rl) (row : List Int) : 0 ≤ moreL n rule row := by
  have := best_rule hn rule row
  unfold moreL
  omega
/-- the first of the rows with the most -/
structure IsWorst (f : List Int → Int) (rows : List (List Int)) (m : Int) (rw_ : List Int) : Prop where
  ex : ∃ j : Nat, rows[j]? = some rw_ ∧ f rw_ = m ∧ ∀ i : Nat, i < j → ∀ r, rows[i]? = some r → f r < m
  top : ∀ r ∈ rows, f r ≤ m
theorem IsWorst.one {f : List Int → Int} {rows : List (List Int)} {m m' : Int} {r r' : List Int} (h : IsWorst f rows m r) (h' : IsWorst f rows m' r') : m = m' ∧ r = r' := by
  obtain ⟨j, h1, h2, h3⟩ := h.ex
  obtain ⟨j', h1', h2', h3'⟩ := h'.ex
  have a1 := h.top r' (List.mem_of_getElem? h1')
  have a2 := h'.top r (List.mem_of_getElem? h1)
  have em : m = m' := by omega
  refine ⟨em, ?_⟩
  rcases Nat.lt_trichotomy j j' with q | q | q
  · have := h3' j q r h1; omega
  · rw [q, h1'] at h1; exact (Option.some.inj h1).symm
  · have := h3 j' q r' h1'; omega
theorem IsWorst.next {f : List Int → Int} {rows : List (List Int)} {m : Int} {r x : List Int} (h : IsWorst f rows m r) : IsWorst f (rows ++ [x]) (if f x > m then f x else m) (if f x > m then x else r) := by
  obtain ⟨j, h1, h2, h3⟩ := h.ex
  have hj : j < rows.length := (List.getElem?_eq_some_iff.mp h1).1
  by_cases q : f x > m
  · rw [if_pos q, if_pos q]
    refine ⟨⟨rows.length, by rw [List.getElem?_append_right (Nat.le_refl _), Nat.sub_self]; rfl, rfl, fun i hi y hy => ?_⟩, fun y hy => ?_⟩
    · rw [List.getElem?_append_left hi] at hy
      have := h.top y (List.mem_of_getElem? hy)
      omega
    · rcases List.mem_append.mp hy with z | z
      · have := h.top y z; omega
      · rw [List.mem_singleton.mp z]; exact Int.le_refl _
  · rw [if_neg q, if_neg q]
    refine ⟨⟨j, by rw [List.getElem?_append_left hj]; exact h1, h2, fun i hi y hy => ?_⟩, fun y hy => ?_⟩
    · rw [List.getElem?_append_left (by omega)] at hy
      exact h3 i hi y hy
    · rcases List.mem_append.mp hy with z | z
      · exact h.top y z
      · rw [List.mem_singleton.mp z]; omega
theorem IsWorst.first {f : List Int → Int} {x : List Int} : IsWorst f [x] (f x) x :=
  ⟨⟨0, rfl, rfl, fun i hi => absurd hi (Nat.not_lt_zero _)⟩, fun y hy => by rw [List.mem_singleton.mp hy]; exact Int.le_refl _⟩
/-- the first place with the most of the counts -/
theorem worst_of {f : List Int → Int} {rows : List (List Int)} {m : Int} {j : Nat} (h1 : (rows.map f)[j]? = some m) (h2 : ∀ y ∈ rows.map f, y ≤ m) (h3 : ∀ i, i < j → (rows.map f)[i]? ≠ some m) : ∃ r, rows[j]? = some r ∧ IsWorst f rows m r := by
  rw [List.getElem?_map] at h1
  obtain ⟨r, e1, e2⟩ := Option.map_eq_some_iff.mp h1
  refine ⟨r, e1, ⟨j, e1, e2, fun i hi y hy => ?_⟩, fun y hy => h2 _ (List.mem_map.mpr ⟨y, hy, rfl⟩)⟩
  have a := h2 (f y) (List.mem_map.mpr ⟨y, List.mem_of_getElem? hy, rfl⟩)
  have b := h3 i hi
  rw [List.getElem?_map, hy] at b
  have : f y ≠ m := fun z => b (by rw [← z]; rfl)
  omega
theorem idx_first {xs : List Int} {m : Int} (h : m ∈ xs) : xs[xs.idxOf m]? = some m ∧ ∀ i, i < xs.idxOf m → xs[i]? ≠ some m := by
  induction xs with
  | nil => cases h
  | cons a r ih =>
    rw [List.idxOf_cons]
    by_cases e : a = m
    · subst e
      simp
    · have e2 : (a == m) = false := by simpa using e
      rw [e2]
      have hr : m ∈ r := by
        rcases List.mem_cons.mp h with z | z
        · exact absurd z.symm e
        · exact z
      obtain ⟨q1, q2⟩ := ih hr
      refine ⟨by simpa using q1, fun i hi => ?_⟩
      cases i with
      | zero => simpa using e
      | succ i => simpa using q2 i (by simpa using hi)
def spMore (K : PySem.W.Frag) : Sp := fun vs H Q _ => ∃ (n : Int) (r : Addr) (row : List Int) (rule : Rl), vs = [.int n, .ref r, .str rule.s] ∧ 1 ≤ n ∧ n ≤ 8 ∧ SqL K H r (il row) ∧ RowOk row ∧ ∀ H' : Hp, Same H H' → Q (.int (moreL n.toNat rule row)) H'
def spWorst : Sp := fun vs H Q _ => ∃ (n : Int) (p k : Nat) (rule : Rl), vs = [.int n, .int (p : Nat), .int (k : Nat), .str rule.s] ∧ 1 ≤ n ∧ n ≤ 8 ∧ Sizes p k ∧
  ∀ (t a : Addr) (m : Int) (row : List Int) (H' : Hp), H t = none → H a = none → t ≠ a → Same H H' → H' t = some (.tup [.int m, .ref a]) → H' a = some (.lst (il row)) → IsWorst (moreL n.toNat rule) (allRows p k) m row → Q (.ref t) H'
section
variable {P : Program} {w : World} {K : PySem.W.Frag} {mg : Str → Option Value} {base : Heap}
theorem sc_more_lacks : FnScope ["rooms", "row", "rule", "lacks", "_"] ["rooms", "row", "rule"] (defScope (top 35)) := ⟨rfl, rfl, rfl, by decide +kernel, rfl, by decide +kernel, by decide +kernel⟩
theorem ok_more_lacks (T : Prog K mg) {es : Array DictEntry} {nd : Nat} (TB_RULES : KDict K w T.a_RULES es nd) : FnOk P w K mg base CX0 6 T.more_lacks.f T.more_lacks.fd ["rooms", "row", "rule"] (spMore K) := by
  have G_find_best := ok_find_best (P := P) (w := w) (base := base) T
  have G_find_lacks := ok_find_lacks (P := P) (w := w) (base := base) T TB_RULES
  refine T.more_lacks.fn.ok sc_more_lacks (fun vs H Q E h => ?len) (fun cdv A outer s H vs Q E hr h => ?body)
  case len =>
    obtain ⟨n, r, row, rule, rfl, _⟩ := h
    rfl
  case body =>
    have hr_find_best : Room 2 _ := hr.mono (by decide)
    have hr_find_lacks : Room 5 _ := hr.mono (by decide)
    have hu := hu_of hr
    obtain ⟨n, r, row, rule, rfl, n1, n8, hS, hR, k⟩ := h
    refine ⟨_, PSs.nox (pss_cons (ps_asg (pe_call G_find_best hr_find_best (by rfl) T.find_best.g T.find_best.fn.kp T.find_best.bd .nil pass0 (pa_cons (pv 0) (pa_cons (pv 1) pa_nil))) (pg_tup rfl (pgs_cons (pg_name (i := 3) sc_more_lacks.nd rfl (Or.inl rfl)) (pgs_cons (pg_name (i := 4) sc_more_lacks.nd rfl (Or.inl rfl)) pgs_nil))))
        (pss_one (ps_ret (pe_op op_sub (pe_callB call_len_seq (by rfl) T.len PySem.boot_len (pa_cons (pe_call G_find_lacks hr_find_lacks (by rfl) T.find_lacks.g T.find_lacks.fn.kp T.find_lacks.bd .nil pass0 (pa_cons (pv 0) (pa_cons (pv 1) (pa_cons (pv 2) pa_nil)))) pa_nil)) (pe_callB call_len_seq (by rfl) T.len PySem.boot_len (pa_cons (pv 3) pa_nil)))))), ?_⟩
    have hR1 := hR.1
    refine ⟨_, rfl, _, rfl, n, r, row, rfl, n1, n8, hS, by omega, fun t l g as H1 ht hl hg lg s1 e1 e2 e3 e4 => ?_⟩
    refine ⟨t, _, rfl, SqT.of e1, rfl, _, _, rfl, _, _, rfl, rfl, ?_⟩
    refine ⟨_, rfl, _, rfl, _, rfl, n, r, row, rule, rfl, n1, n8, s1.seq hS, hR, fun c H2 hc s2 hc2 => ?_⟩
    refine ⟨c, _, rfl, .inl (SqL.of hc2), _, rfl, l, _, rfl, .inl (SqL.of (s2 _ _ e2)), _, _, rfl, rfl, ?_⟩
    have e : ((NL (lacksR n.toNat rule row)).length : Int) - ((NL (bestS n.toNat row).lacks).length : Int) = moreL n.toNat rule row := by rw [List.length_map, List.length_map]; rfl
    dsimp only
    rw [e]
    exact k H2 (s1.trans s2)
theorem sc_worst : FnScope ["rooms", "pages", "long", "rule", "rows", "counts", "most", "row"] ["rooms", "pages", "long", "rule"] (defScope (top 31)) := ⟨rfl, rfl, rfl, by decide +kernel, rfl, by decide +kernel, by decide +kernel⟩
theorem ok_worst (T : Prog K mg) {es : Array DictEntry} {nd : Nat} (TB_RULES : KDict K w T.a_RULES es nd) : FnOk P w K mg base CX0 7 T.worst.f T.worst.fd ["rooms", "pages", "long", "rule"] spWorst := by
  have G_check_rooms := ok_check_rooms (P := P) (w := w) (base := base) T
  have G_check_size := ok_check_size (P := P) (w := w) (base := base) T
  have G_check_rule := ok_check_rule (P := P) (w := w) (base := base) T TB_RULES
  have G_all_rows := ok_all_rows (P := P) (w := w) (base := base) T
  have G_more_lacks := ok_more_lacks (P := P) (w := w) (base := base) T TB_RULES
  refine T.worst.fn.ok sc_worst (fun vs H Q E h => ?len) (fun cdv A outer s H vs Q E hr h => ?body)
  case len =>
    obtain ⟨n, p, k, rule, rfl, _⟩ := h
    rfl
  case body =>
    have hr_check_rooms : Room 1 _ := hr.mono (by decide)
    have hr_check_size : Room 2 _ := hr.mono (by decide)
    have hr_check_rule : Room 1 _ := hr.mono (by decide)
    have hr_all_rows : Room 1 _ := hr.mono (by decide)
    have hr_more_lacks : Room 6 _ := hr.mono (by decide)
    have hu := hu_of hr
    obtain ⟨n, p, k, rule, rfl, n1, n8, hz, q⟩ := h
    refine ⟨_, PSs.nox (pss_cons (ps_expr (pe_call G_check_rooms hr_check_rooms (by rfl) T.check_rooms.g T.check_rooms.fn.kp T.check_rooms.bd .nil pass0 (pa_cons (pv 0) pa_nil)))
        (pss_cons (ps_expr (pe_call G_check_size hr_check_size (by rfl) T.check_size.g T.check_size.fn.kp T.check_size.bd .nil pass0 (pa_cons (pv 1) (pa_cons (pv 2) pa_nil))))
        (pss_cons (ps_expr (pe_call G_check_rule hr_check_rule (by rfl) T.check_rule.g T.check_rule.fn.kp T.check_rule.bd .nil pass0 (pa_cons (pv 3) pa_nil)))
        (pss_cons (ps_set (i := 4) sc_worst.nd rfl (Or.inl rfl) (pe_call G_all_rows hr_all_rows (by rfl) T.all_rows.g T.all_rows.fn.kp T.all_rows.bd .nil pass0 (pa_cons (pv 1) (pa_cons (pv 2) pa_nil))))
        (pss_cons (ps_setLc (i := 5) (own := [("row", 7)]) (g := gName 7) rfl sc_worst.nd rfl rfl (sw_true rfl rfl rfl (by decide +kernel)) ((pi_list (pv 4))) (blkOk_by (own := [("row", 7)]) (N := ["rooms", "pages", "long", "rule", "rows", "counts", "most", "row"]) (sc := defScope (top 31)) (by decide +kernel)) (fun _ _ _ _ _ => (by exact (pg_name (i := 7) sc_worst.nd rfl (Or.inl rfl)))) (fun _ _ _ _ _ => (by exact pts_nil)) (fun _ _ _ _ _ => (by exact (pe_call G_more_lacks hr_more_lacks (by rfl) T.more_lacks.g T.more_lacks.fn.kp T.more_lacks.bd .nil pass0 (pa_cons (pv 0) (pa_cons (pv 7) (pa_cons (pv 3) pa_nil)))))))
        (pss_cons (ps_set (i := 6) sc_worst.nd rfl (Or.inl rfl) (pe_callB (cr_max rfl) (by rfl) T.max (by decide +kernel) (pa_cons (pv 5) pa_nil)))
        (pss_one (ps_ret (pe_tup (pa_cons (pv 6) (pa_cons (pe_ix ix_list (pv 4) (pe_bm PySem.F.plainAttrs_list PySem.F.slot_list_index PySem.F.type_list_index mt_index (pv 5) (pa_cons (pv 6) pa_nil)) (fun _ _ => rfl)) pa_nil))))))))))), ?_⟩
    refine ⟨_, rfl, n, rfl, n1, n8, ?_⟩
    refine ⟨_, rfl, _, rfl, p, k, rfl, hz, ?_⟩
    refine ⟨_, rfl, rule, rfl, ?_⟩
    -- rows
    refine ⟨_, rfl, _, rfl, p, k, rfl, hz, fun d as H1 hd has had s1 hd1 ra => ?_⟩
    have hl := rows_len p k
    have big : (allRows p k).length ≤ 4096 := by rw [hl]; exact hz.2.2.2 k (Nat.le_refl _)
    have pos : 0 < (allRows p k).length := by rw [hl]; exact Nat.pow_pos (by have := hz.1; omega)
    have rok : ∀ row ∈ allRows p k, RowOk row := fun row h => by
      have ⟨a1, a2⟩ := rows_ok p k row h
      have h3 := hz.2.2.1
      have h2 := hz.2.1
      exact ⟨by omega, fun x hx => by have := a2 x hx; omega⟩
    generalize allRows p k = rows at *
    -- counts
    refine ⟨_, rfl, d, rfl, ⟨_, SqL.of hd1⟩, fun c hc => ?_⟩
    refine lc_list (K := K) (a := d) (xs := as.map V.ref) (fun i H' => H' c = some (.lst (il ((rows.take i).map (moreL n.toNat rule)))) ∧ Same H1 H') ⟨upd_same, Same.new hc⟩ (fun i H' _ h => SqL.of (h.2 _ _ hd1)) ?_ ?_
    · rintro i y H2 hy ⟨hc2, s2⟩
      rw [List.getElem?_map] at hy
      cases ea : as[i]? with
      | none => rw [ea] at hy; cases hy
      | some a =>
        rw [ea] at hy
        cases Option.some.inj hy
        have hi : i < rows.length := by rw [← ra.len]; exact (List.getElem?_eq_some_iff.mp ea).1
        have er : rows[i]? = some (rows[i]'hi) := List.getElem?_eq_getElem hi
        have ha := s2 _ _ (ra.at_ i a _ ea er)
        have hro := rok _ (List.getElem_mem hi)
        rw [take_snoc er, List.map_append]
        generalize rows[i]'hi = row at *
        refine ⟨rfl, _, rfl, _, rfl, _, rfl, n, a, row, rule, rfl, n1, n8, SqL.of ha, hro, fun H3 s3 => ?_⟩
        refine ⟨_, s3 _ _ hc2, szl (by rw [il_len, List.length_map, List.length_take]; omega), ?_, Same.put (s2.trans s3) hc⟩
        rw [upd_same, il_snoc]
        rfl
    · rintro H2 ⟨hc2, s2⟩
      rw [List.take_of_length_le (by rw [List.length_map, ra.len]; exact Nat.le_refl _)] at hc2
      refine ⟨_, rfl, c, _, rfl, SqL.of hc2, by rw [List.length_map]; exact pos, fun m hm hmax => ?_⟩
      have ⟨i1, i2⟩ := idx_first hm
      obtain ⟨row, hr1, hw⟩ := worst_of i1 hmax i2
      have hd2 := s2 _ _ hd1
      have ra2 := ra.same s2
      have hj : (rows.map (moreL n.toNat rule)).idxOf m < as.length := by rw [ra.len]; exact (List.getElem?_eq_some_iff.mp hr1).1
      obtain ⟨a, ea⟩ : ∃ a, as[(rows.map (moreL n.toNat rule)).idxOf m]? = some a := ⟨_, List.getElem?_eq_getElem hj⟩
      have ha := ra2.at_ _ a row ea hr1
      have hma := List.mem_of_getElem? ea
      -- (most, rows[counts.index(most)])
      refine ⟨_, rfl, _, rfl, _, rfl, .inl ⟨rfl, _, SqL.of hc2⟩, _, rfl, c, _, _, (rows.map (moreL n.toNat rule)).idxOf m, V.int m, rfl, rfl, SqL.of hc2, rfl, flat_il _, il_at i1, by show (m == m) = true; simp, fun i z hi hz2 => ?_, d, _, _, _, rfl, rfl, SqL.of hd2, atI_nat (by rw [List.getElem?_map, ea]; rfl), szd rfl, fun t ht => ?_⟩
      · obtain ⟨x, hx, rfl⟩ := il_get hz2
        show (x == m) = false
        simpa using fun e => i2 i hi (by rw [← e]; exact hx)
      · have sT := Same.new (o := .tup [V.int m, V.ref a]) ht
        exact q t a m row _ (Same.back (s1.trans s2) ht) (has a hma) (Ne.symm (ne_fresh ha ht)) ((s1.trans s2).trans sT) upd_same (sT _ _ ha) hw
end
end CK

/-! The law's own seldom. -/
namespace CK
open PySem PySem.Spec PyProof.Rows L2
/-- how far away the next ask is, as the law reckons -/
def valP (row : List Int) (i : Nat) (y : Int) : Nat := if y ∈ row.drop i then (row.drop i).idxOf y else row.length
structure SdOk (n : Nat) (row : List Int) (i : Nat) (C : List Int) (f : Nat) : Prop where
  nd : C.Nodup
  le : C.length ≤ n
  fl : f ≤ i
  go : ∀ k, Bel n C (row.drop i) k → Bel n [] row (f + k)
theorem SdOk.start (n : Nat) (row : List Int) : SdOk n row 0 [] 0 := ⟨List.nodup_nil, Nat.zero_le _, Nat.le_refl _, fun k h => by rw [Nat.zero_add]; exact h⟩
theorem SdOk.hit {n : Nat} {row : List Int} {i : Nat} {C : List Int} {f : Nat} {p : Int} (h : SdOk n row i C f) (hp : row[i]? = some p) (q : p ∈ C) : SdOk n row (i + 1) C f :=
  ⟨h.nd, h.le, Nat.le_succ_of_le h.fl, fun k w => h.go k (by rw [drop_at hp]; exact .hit q w)⟩
theorem SdOk.room {n : Nat} {row : List Int} {i : Nat} {C : List Int} {f : Nat} {p : Int} (h : SdOk n row i C f) (hp : row[i]? = some p) (q : p ∉ C) (l : C.length ≠ n) : SdOk n row (i + 1) (C ++ [p]) (f + 1) := by
  have hl := h.le
  have hf := h.fl
  refine ⟨nodup_snoc h.nd q, by rw [List.length_append]; simp; omega, by omega, fun k w => ?_⟩
  have e : f + 1 + k = f + (k + 1) := by omega
  rw [e]
  refine h.go (k + 1) ?_
  rw [drop_at hp]
  exact .room q (by omega) (w.perm List.perm_append_comm)
theorem SdOk.out {n : Nat} {row : List Int} {i : Nat} {C : List Int} {f : Nat} {p : Int} (h : SdOk n row i C f) (hp : row[i]? = some p) (q : p ∉ C) (l : C.length = n) {j : Nat} (hj : j < C.length) (far : ∀ y ∈ C, valP row i y ≤ valP row i C[j]) : SdOk n row (i + 1) (C.eraseIdx j ++ [p]) (f + 1) := by
  have hf := h.fl
  have hi : i < row.length := (List.getElem?_eq_some_iff.mp hp).1
  have hm := List.getElem_mem hj
  generalize hg : C[j] = g at *
  have er : C.eraseIdx j = C.erase g := by
    have e1 : C.idxOf g = j := by
      rw [← hg]
      exact h.nd.idxOf_getElem j hj
    rw [List.erase_eq_eraseIdx_of_idxOf e1]
  have ne : ∀ y ∈ C, y ≠ p := fun y hy z => q (z ▸ hy)
  have le : ∀ y ∈ C, (row.drop (i + 1)).idxOf y ≤ (row.drop (i + 1)).idxOf g := fun y hy => by
    have v := far y hy
    have ny := ne y hy
    have ng := ne g hm
    unfold valP at v
    rw [drop_at hp] at v
    have iy : (p :: row.drop (i + 1)).idxOf y = (row.drop (i + 1)).idxOf y + 1 := by
      rw [List.idxOf_cons]
      have : (p == y) = false := by simpa using fun z => ny z.symm
      rw [this]
      rfl
    have ig : (p :: row.drop (i + 1)).idxOf g = (row.drop (i + 1)).idxOf g + 1 := by
      rw [List.idxOf_cons]
      have : (p == g) = false := by simpa using fun z => ng z.symm
      rw [this]
      rfl
    rw [iy, ig] at v
    have hlen : (row.drop (i + 1)).length = row.length - (i + 1) := List.length_drop
    have ly : (row.drop (i + 1)).idxOf y ≤ (row.drop (i + 1)).length := List.idxOf_le_length
    by_cases y1 : y ∈ p :: row.drop (i + 1)
    · by_cases g1 : g ∈ p :: row.drop (i + 1)
      · rw [if_pos y1, if_pos g1] at v; omega
      · have : (row.drop (i + 1)).idxOf g = (row.drop (i + 1)).length := List.idxOf_eq_length (fun z => g1 (List.mem_cons_of_mem _ z))
        omega
    · by_cases g1 : g ∈ p :: row.drop (i + 1)
      · rw [if_neg y1, if_pos g1] at v
        have gm : g ∈ row.drop (i + 1) := by
          rcases List.mem_cons.mp g1 with z | z
          · exact absurd z ng
          · exact z
        have := List.idxOf_lt_length_of_mem gm
        omega
      · have : (row.drop (i + 1)).idxOf g = (row.drop (i + 1)).length := List.idxOf_eq_length (fun z => g1 (List.mem_cons_of_mem _ z))
        omega
  refine ⟨nodup_snoc (by rw [er]; exact h.nd.erase g) (fun z => q (by rw [er] at z; exact List.mem_of_mem_erase z)), ?_, by omega, fun k w => ?_⟩
  · rw [List.length_append, List.length_eraseIdx_of_lt hj]
    simp
    omega
  · have e : f + 1 + k = f + (k + 1) := by omega
    rw [e]
    refine h.go (k + 1) ?_
    rw [drop_at hp]
    refine .out (f := g) q (by omega) hm le (w.perm ?_)
    rw [er]
    exact List.perm_append_comm
theorem SdOk.best {n : Nat} (hn : 0 < n) {row : List Int} {C : List Int} {f : Nat} (h : SdOk n row row.length C f) : f = (bestS n row).lacks.length := by
  have b1 := h.go 0 (by rw [List.drop_length]; exact .nil _)
  have b2 := best_bel hn row
  have q1 := b1.least List.nodup_nil (Nat.zero_le _) b2.way
  have q2 := b2.least List.nodup_nil (Nat.zero_le _) b1.way
  omega
theorem cutN (xs : List V) (i : Nat) (h : i ≤ xs.length) : cutV xs (some (0 + (i : Int))) none = xs.drop i := by
  unfold cutV
  rw [HT.sIx_none, Int.zero_add]
  have e : HT.sIx xs.length 0 (some (i : Int)) = min i xs.length := HT.sIx_nat _ _ i
  rw [e, Nat.min_eq_left h]
  exact List.take_of_length_le (by rw [List.length_drop]; exact Nat.le_refl _)
theorem il_drop (xs : List Int) (i : Nat) : (il xs).drop i = il (xs.drop i) := by
  show (xs.map V.int).drop i = (xs.drop i).map V.int
  rw [List.map_drop]
theorem idx_fst {xs : List Int} {m : Int} (h : m ∈ xs) : xs[xs.idxOf m]? = some m ∧ ∀ i, i < xs.idxOf m → xs[i]? ≠ some m := by
  induction xs with
  | nil => cases h
  | cons a r ih =>
    rw [List.idxOf_cons]
    by_cases e : a = m
    · subst e
      simp
    · have e2 : (a == m) = false := by simpa using e
      rw [e2]
      have hr : m ∈ r := by
        rcases List.mem_cons.mp h with z | z
        · exact absurd z.symm e
        · exact z
      obtain ⟨q1, q2⟩ := ih hr
      refine ⟨by simpa using q1, fun i hi => ?_⟩
      cases i with
      | zero => simpa using e
      | succ i => simpa using q2 i (by simpa using hi)
theorem era_il : ∀ (C : List Int) (j : Nat), (il C).eraseIdx j = il (C.eraseIdx j)
  | [], j => by simp
  | a :: r, 0 => rfl
  | a :: r, j + 1 => congrArg (V.int a :: ·) (era_il r j)
def spSeldom (K : PySem.W.Frag) : Sp := fun vs H Q _ => ∃ (n : Int) (r : Addr) (row : List Int), vs = [.int n, .ref r] ∧ 1 ≤ n ∧ n ≤ 8 ∧ SqL K H r (il row) ∧ RowOk row ∧
  ∀ H' : Hp, Same H H' → Q (.int ((bestS n.toNat row).lacks.length : Nat)) H'
section
variable {P : Program} {w : World} {K : PySem.W.Frag} {mg : Str → Option Value} {base : Heap}
theorem sc_law_seldom : FnScope ["_law_rooms", "_law_row", "_law_kept", "_law_found", "_law_place", "_law_rest", "_law_far", "_law_page"] ["_law_rooms", "_law_row"] (defScope (top 44)) := ⟨rfl, rfl, rfl, by decide +kernel, rfl, by decide +kernel, by decide +kernel⟩
theorem ok_law_seldom (T : Prog K mg) : FnOk P w K mg base CX0 1 T.law_seldom.f T.law_seldom.fd ["_law_rooms", "_law_row"] (spSeldom K) := by
  refine T.law_seldom.fn.ok sc_law_seldom (fun vs H Q E h => ?len) (fun cdv A outer s H vs Q E hr h => ?body)
  case len =>
    obtain ⟨n, r, row, rfl, _⟩ := h
    rfl
  case body =>
    have hu := hu_of hr
    obtain ⟨n, r, row, rfl, n1, n8, hS, hR, k⟩ := h
    refine ⟨_, PSs.nox (pss_cons (ps_set (i := 2) sc_law_seldom.nd rfl (Or.inl rfl) (pe_lst pa_nil))
        (pss_cons (ps_set (i := 3) sc_law_seldom.nd rfl (Or.inl rfl) pe_int)
        (pss_cons (ps_for PassesOwn.never rfl (pi_range1 (by rfl) T.range (pa_cons (pe_callB call_len_seq (by rfl) T.len PySem.boot_len (pa_cons (pv 1) pa_nil)) pa_nil)) (pg_name (i := 4) sc_law_seldom.nd rfl (Or.inl rfl))
        (pss_one (ps_if (pt_cmpR op_notIn_seq (pe_ix ix_list (pv 1) (pv 4) (fun _ _ => rfl)) (pv 2) (by rfl))
        (pss_cons (ps_set (i := 3) sc_law_seldom.nd rfl (Or.inl rfl) (pe_op op_add (pv 3) pe_int))
        (C8.pss_cut (ps_if (pt_cmpR op_eq (pe_callB call_len_seq (by rfl) T.len PySem.boot_len (pa_cons (pv 2) pa_nil)) (pv 0) (nomark _))
        (pss_cons (ps_set (i := 5) sc_law_seldom.nd rfl (Or.inr rfl) (pe_slice sl_list (pv 1) (po_some (pv 4)) po_none))
        (pss_cons (ps_setLc (i := 6) (own := [("_law_page", 7)]) (g := gName 7) (tt := tYes) (te := (tIf (tTest (tOp (rIn K false) (tVar 7) (tVar 5))) (tBM K "list" (rIndex K) (tVar 5) (tCons (tVar 7) tNil)) (tCB (rLenQ K) (tCons (tVar 1) tNil)))) rfl sc_law_seldom.nd rfl rfl (sw_true rfl rfl rfl (by decide +kernel)) ((pi_list (pv 2))) (blkOk_by (own := [("_law_page", 7)]) (N := ["_law_rooms", "_law_row", "_law_kept", "_law_found", "_law_place", "_law_rest", "_law_far", "_law_page"]) (sc := defScope (top 44)) (by decide +kernel)) (fun _ _ _ _ _ => (by exact (pg_name (i := 7) sc_law_seldom.nd rfl (Or.inl rfl)))) (fun _ _ _ _ _ => (by exact pts_nil)) (fun _ _ _ _ _ => (by exact (pe_ifExp (pt_cmpR op_in_seq (pv 7) (pv 5) (by rfl)) (pe_bm PySem.F.plainAttrs_list PySem.F.slot_list_index PySem.F.type_list_index mt_index (pv 5) (pa_cons (pv 7) pa_nil)) (pe_callB call_len_seq (by rfl) T.len PySem.boot_len (pa_cons (pv 1) pa_nil))))))
        (pss_one (ps_expr (pe_bm PySem.F.plainAttrs_list PySem.F.slot_list_pop PySem.F.type_list_pop mt_popAt (pv 2) (pa_cons (pe_bm PySem.F.plainAttrs_list PySem.F.slot_list_index PySem.F.type_list_index mt_index (pv 6) (pa_cons (pe_callB (cr_max rfl) (by rfl) T.max (by decide +kernel) (pa_cons (pv 6) pa_nil)) pa_nil)) pa_nil))))))
        pss_nil)
        (pss_one (ps_expr (pe_bm PySem.F.plainAttrs_list PySem.F.slot_list_append PySem.F.type_list_append mt_append (pv 2) (pa_cons (pe_ix ix_list (pv 1) (pv 4) (fun _ _ => rfl)) pa_nil))))))
        pss_nil)))
        (pss_one (ps_ret (pv 3)))))), ?_⟩
    have hR1 := hR.1
    have hn0 : 0 < n.toNat := by omega
    refine ⟨szd rfl, fun kp hkp => ?_⟩
    have s1 := Same.new (o := .lst []) hkp
    refine ⟨_, rfl, r, _, rfl, .inl (s1.seq hS), _, rfl, by omega, by rw [il_len]; omega, ?_⟩
    refine for_range (lo := 0) (n := ((il row).length : Int).toNat) (fun i σ H' => ∃ (C : List Int) (f : Nat), (∃ v4 v5 v6 v7 : Option V, σ = [some (.int n), some (.ref r), some (.ref kp), some (.int (f : Nat)), v4, v5, v6, v7]) ∧ Same H H' ∧ H' kp = some (.lst (il C)) ∧ SdOk n.toNat row i C f) ?_ ?_ ?_
    · exact ⟨[], 0, ⟨_, _, _, _, rfl⟩, s1, upd_same, SdOk.start _ _⟩
    · rintro i σ H1 hi ⟨C, f, ⟨v4, v5, v6, v7, rfl⟩, s2, hk1, so⟩
      have hi : i < row.length := by rw [il_len] at hi; omega
      have hp : row[i]? = some (row[i]'hi) := List.getElem?_eq_getElem hi
      have at1 : atI (il row) (0 + (i : Int)) = some (V.int (row[i]'hi)) := by rw [Int.zero_add]; exact atI_nat (il_at hp)
      have cl := so.le
      have fl := so.fl
      generalize row[i]'hi = p at *
      refine ⟨_, rfl, _, rfl, r, _, _, _, rfl, rfl, s2.seq hS, at1, _, rfl, kp, _, rfl, .inl (SqL.of hk1), rfl, flat_il _, _, rfl, ?_⟩
      rw [if_pos rfl, inV_il]
      by_cases q : p ∈ C
      · exact ifF (by rw [decide_eq_true q]; rfl) ⟨C, f, ⟨_, _, _, _, rfl⟩, s2, hk1, so.hit hp q⟩
      · refine ifT (by rw [decide_eq_false q]; rfl) ⟨_, rfl, _, _, rfl, rfl, ?_⟩
        let M : L2.St → Hp → Prop := fun σ' H' => ∃ C' : List Int, (∃ v5 v6 v7 : Option V, σ' = [some (.int n), some (.ref r), some (.ref kp), some (.int ((f : Int) + 1)), some (.int (0 + (i : Int))), v5, v6, v7]) ∧ Same H H' ∧ H' kp = some (.lst (il C')) ∧ C'.length ≤ 8 ∧ SdOk n.toNat row (i + 1) (C' ++ [p]) (f + 1)
        refine ⟨M, ?_, ?_⟩
        · refine ⟨_, rfl, kp, _, rfl, .inl (SqL.of hk1), _, rfl, rfl, _, rfl, ?_⟩
          by_cases l : C.length = n.toNat
          · refine ifT (by rw [il_len]; exact decide_eq_true (congrArg V.int (by omega))) ?_
            -- rest
            refine ⟨_, rfl, _, rfl, _, rfl, r, _, rfl, s2.seq hS, fun m hm => ?_⟩
            rw [cutN _ _ (by rw [il_len]; omega), il_drop]
            have sM := Same.new (o := .lst (il (row.drop i))) hm
            have hk2 := sM _ _ hk1
            have s3 := s2.trans sM
            have hdl : (row.drop i).length ≤ 100 := by rw [List.length_drop]; omega
            -- far
            refine ⟨_, rfl, kp, rfl, ⟨_, SqL.of hk2⟩, fun D hD => ?_⟩
            refine lc_list (K := K) (a := kp) (xs := il C) (fun t H' => H' D = some (.lst (il ((C.take t).map fun y => ((valP row i y : Nat) : Int)))) ∧ Same (upd H1 m (.lst (il (row.drop i)))) H') ⟨upd_same, Same.new hD⟩ (fun t H' _ h => SqL.of (h.2 _ _ hk2)) ?_ ?_
            · rintro t y H2 hy ⟨hD2, s4⟩
              obtain ⟨x, hx, rfl⟩ := il_get hy
              have hm2 := s4 _ _ (upd_same (H := H1) (a := m) (o := .lst (il (row.drop i))))
              have tl : t < C.length := (List.getElem?_eq_some_iff.mp hx).1
              rw [take_snoc hx, List.map_append]
              have fin : ∀ v : Int, v = ((valP row i x : Nat) : Int) → ∃ acc, H2 D = some (.lst acc) ∧ acc.length < sizeLine ∧ upd H2 D (.lst (acc ++ [V.int v])) D = some (.lst (il ((C.take t).map (fun y => ((valP row i y : Nat) : Int)) ++ [x].map fun y => ((valP row i y : Nat) : Int)))) ∧ Same (upd H1 m (.lst (il (row.drop i)))) (upd H2 D (.lst (acc ++ [V.int v]))) := fun v e => by
                subst e
                refine ⟨_, hD2, szl (by rw [il_len, List.length_map, List.length_take]; omega), ?_, Same.put s4 hD⟩
                rw [upd_same, il_snoc]
                rfl
              refine ⟨rfl, _, rfl, _, rfl, m, _, rfl, .inl (SqL.of hm2), rfl, flat_il _, _, rfl, ?_⟩
              rw [if_neg (by simp : ¬ false = true), inV_il]
              by_cases xr : x ∈ row.drop i
              · refine ifT (decide_eq_true xr) ?_
                have ⟨i1, i2⟩ := idx_fst xr
                refine ⟨_, rfl, .inl ⟨rfl, _, SqL.of hm2⟩, _, rfl, m, _, _, (row.drop i).idxOf x, V.int x, rfl, rfl, SqL.of hm2, rfl, flat_il _, il_at i1, by show (x == x) = true; simp, fun u z hu hz => ?_, fin _ (by unfold valP; rw [if_pos xr])⟩
                obtain ⟨y, hy, rfl⟩ := il_get hz
                show (y == x) = false
                simpa using fun e => i2 u hu (by rw [← e]; exact hy)
              · refine ifF (decide_eq_false xr) ⟨_, rfl, r, _, rfl, .inl ((s3.trans s4).seq hS), fin _ (by unfold valP; rw [if_neg xr, il_len])⟩
            · rintro H2 ⟨hD2, s4⟩
              rw [List.take_of_length_le (by rw [il_len]; exact Nat.le_refl _)] at hD2
              have hk3 := s4 _ _ hk2
              refine ⟨_, rfl, .inl ⟨rfl, _, SqL.of hk3⟩, _, rfl, .inl ⟨rfl, _, SqL.of hD2⟩, _, rfl, D, _, rfl, SqL.of hD2, by rw [List.length_map]; omega, fun mx hmx hmax => ?_⟩
              have ⟨i1, i2⟩ := idx_fst hmx
              have hj : (C.map fun y => ((valP row i y : Nat) : Int)).idxOf mx < C.length := by have := List.idxOf_lt_length_of_mem hmx; rwa [List.length_map] at this
              generalize (C.map fun y => ((valP row i y : Nat) : Int)).idxOf mx = j at *
              have ej : C[j]? = some (C[j]'hj) := List.getElem?_eq_getElem hj
              have em : ((valP row i (C[j]'hj) : Nat) : Int) = mx := by
                rw [List.getElem?_map, ej] at i1
                exact Option.some.inj i1
              have far : ∀ y ∈ C, valP row i y ≤ valP row i (C[j]'hj) := fun y hy => by
                have := hmax _ (List.mem_map.mpr ⟨y, hy, rfl⟩)
                omega
              refine ⟨D, _, _, j, V.int mx, rfl, rfl, SqL.of hD2, rfl, flat_il _, il_at i1, by show (mx == mx) = true; simp, fun u z hu hz => ?_, kp, _, _, j, _, rfl, rfl, hk3, by omega, by omega, by rw [il_len]; unfold seqIndex?; simp; omega, il_at ej, ?_⟩
              · obtain ⟨y, hy, rfl⟩ := il_get hz
                show (y == mx) = false
                simpa using fun e => i2 u hu (by rw [← e]; exact hy)
              · have el := era_il C j
                refine ⟨C.eraseIdx j, ⟨_, _, _, rfl⟩, Same.put (s3.trans s4) hkp, by rw [upd_same, el], by rw [List.length_eraseIdx_of_lt hj]; omega, so.out hp q l hj far⟩
          · refine ifF (by rw [il_len]; exact decide_eq_false (fun z => by injection z with z; omega)) ⟨C, ⟨_, _, _, rfl⟩, s2, hk1, by omega, so.room hp q l⟩
        · rintro σ H2 ⟨C', ⟨v5, v6, v7, rfl⟩, s3, hk2, hl8, so2⟩
          refine ⟨_, rfl, .inl ⟨rfl, _, SqL.of hk2⟩, _, rfl, _, rfl, r, _, _, _, rfl, rfl, s3.seq hS, at1, kp, _, _, rfl, rfl, hk2, szl (by rw [il_len]; omega), ?_⟩
          refine ⟨C' ++ [p], f + 1, ⟨_, _, _, _, rfl⟩, Same.put s3 hkp, by rw [upd_same, il_snoc], so2⟩
    · rintro σ H1 ⟨C, f, ⟨v4, v5, v6, v7, rfl⟩, s2, hk1, so⟩
      have e0 : ((il row).length : Int).toNat = row.length := by rw [il_len]; omega
      rw [e0] at so
      rw [so.best hn0]
      exact ⟨_, rfl, k H1 s2⟩
end
end CK

/-! All ways of letting go, by the sets of pages kept. -/
namespace CK
/-! ### sorting -/
def insI (a : Int) : List Int → List Int
  | [] => [a]
  | b :: r => if a ≤ b then a :: b :: r else b :: insI a r
def srt : List Int → List Int
  | [] => []
  | a :: r => insI a (srt r)
theorem insI_perm (a : Int) : ∀ l, (insI a l).Perm (a :: l)
  | [] => List.Perm.refl _
  | b :: r => by
    unfold insI
    split
    · exact List.Perm.refl _
    · exact ((insI_perm a r).cons b).trans (List.Perm.swap _ _ _)
theorem srt_perm : ∀ l, (srt l).Perm l
  | [] => List.Perm.refl _
  | a :: r => (insI_perm a (srt r)).trans ((srt_perm r).cons a)
theorem insI_sorted (a : Int) : ∀ l : List Int, l.Pairwise (· ≤ ·) → (insI a l).Pairwise (· ≤ ·)
  | [], _ => List.pairwise_singleton _ _
  | b :: r, h => by
    have hb := List.pairwise_cons.mp h
    unfold insI
    split
    · rename_i q
      refine List.pairwise_cons.mpr ⟨fun x hx => ?_, h⟩
      rcases List.mem_cons.mp hx with z | z
      · rw [z]; exact q
      · have := hb.1 x z; omega
    · rename_i q
      refine List.pairwise_cons.mpr ⟨fun x hx => ?_, insI_sorted a r hb.2⟩
      rcases List.mem_cons.mp ((insI_perm a r).mem_iff.mp hx) with z | z
      · omega
      · exact hb.1 x z
theorem srt_sorted : ∀ l, (srt l).Pairwise (· ≤ ·)
  | [] => List.Pairwise.nil
  | a :: r => insI_sorted a _ (srt_sorted r)
theorem sorted_one : ∀ {xs ys : List Int}, xs.Perm ys → xs.Pairwise (· ≤ ·) → ys.Pairwise (· ≤ ·) → xs = ys := by
  intro xs
  induction xs with
  | nil => intro ys p _ _; rw [p.nil_eq]
  | cons a r ih =>
    intro ys p h1 h2
    cases ys with
    | nil => exact absurd p.length_eq (by simp)
    | cons b t =>
      have q1 := List.pairwise_cons.mp h1
      have q2 := List.pairwise_cons.mp h2
      have e : a = b := by
        rcases List.mem_cons.mp (p.mem_iff.mp (List.mem_cons_self : a ∈ a :: r)) with z | z
        · exact z
        · rcases List.mem_cons.mp (p.mem_iff.mpr (List.mem_cons_self : b ∈ b :: t)) with y | y
          · exact y.symm
          · have := q1.1 _ y
            have := q2.1 _ z
            omega
      subst e
      rw [ih p.cons_inv q1.2 q2.2]
theorem srt_is {xs l : List Int} (h1 : xs.Perm l) (h2 : xs.Pairwise (· ≤ ·)) : xs = srt l := sorted_one (h1.trans (srt_perm l).symm) h2 (srt_sorted l)
theorem srt_rise {l : List Int} (nd : l.Nodup) : (srt l).Pairwise (· < ·) := by
  have n2 := (srt_perm l).nodup_iff.mpr nd
  exact ((srt_sorted l).and n2).imp fun ⟨h1, h2⟩ => by omega
theorem rise_nodup {l : List Int} (h : l.Pairwise (· < ·)) : l.Nodup := h.imp fun q => by omega
theorem rise_srt {l : List Int} (h : l.Pairwise (· < ·)) : srt l = l := (srt_is (List.Perm.refl _) (h.imp fun q => by omega)).symm
/-! ### a table of the fewest -/
abbrev KN := List (List Int × Nat)
def lkp (kvs : KN) (C : List Int) : Option Nat := (kvs.find? fun kv => decide (kv.1 = C)).map (·.2)
def putN (kvs : KN) (C : List Int) (m : Nat) : KN := if (kvs.any fun kv => decide (kv.1 = C)) = true then kvs.map (fun kv => if kv.1 = C then (kv.1, m) else kv) else kvs ++ [(C, m)]
theorem lkp_mem {kvs : KN} {C : List Int} {m : Nat} (h : lkp kvs C = some m) : (C, m) ∈ kvs := by
  unfold lkp at h
  obtain ⟨kv, h1, h2⟩ := Option.map_eq_some_iff.mp h
  have h3 := List.find?_some h1
  have h4 := List.mem_of_find?_eq_some h1
  have e : kv.1 = C := by simpa using h3
  rw [← e, ← h2]
  exact h4
theorem mem_lkp : ∀ {kvs : KN} {C : List Int} {m : Nat}, (kvs.map (·.1)).Nodup → (C, m) ∈ kvs → lkp kvs C = some m
  | [], _, _, _, h => by cases h
  | kv :: r, C, m, nd, h => by
    have nd' := List.nodup_cons.mp (show (kv.1 :: r.map (·.1)).Nodup from nd)
    unfold lkp
    rw [List.find?_cons]
    rcases List.mem_cons.mp h with z | z
    · subst z
      simp
    · have ne : kv.1 ≠ C := by
        intro e
        exact nd'.1 (e ▸ List.mem_map.mpr ⟨_, z, rfl⟩)
      rw [decide_eq_false ne]
      exact mem_lkp nd'.2 z
theorem lkp_none {kvs : KN} {C : List Int} (h : lkp kvs C = none) : ∀ m, (C, m) ∉ kvs := by
  intro m hm
  unfold lkp at h
  rw [Option.map_eq_none_iff, List.find?_eq_none] at h
  have := h _ hm
  simp at this
theorem any_lkp (kvs : KN) (C : List Int) : (kvs.any fun kv => decide (kv.1 = C)) = (lkp kvs C).isSome := by
  unfold lkp
  rw [Option.isSome_map]
  induction kvs with
  | nil => rfl
  | cons a r ih =>
    rw [List.any_cons, List.find?_cons, ih]
    cases decide (a.1 = C) <;> rfl
def putMin (kvs : KN) (s : List Int × Nat) : KN := putN kvs s.1 (min s.2 ((lkp kvs s.1).getD s.2))
def mins (src : KN) : KN := src.foldl putMin []
theorem mins_snoc (src : KN) (s : List Int × Nat) : mins (src ++ [s]) = putMin (mins src) s := by
  unfold mins
  rw [List.foldl_append]
  rfl
structure MinsOk (src kvs : KN) : Prop where
  nd : (kvs.map (·.1)).Nodup
  from_ : ∀ x ∈ kvs, x ∈ src
  to : ∀ s ∈ src, ∃ m, m ≤ s.2 ∧ (s.1, m) ∈ kvs
theorem putMin_ok {src kvs : KN} (h : MinsOk src kvs) (s : List Int × Nat) : MinsOk (src ++ [s]) (putMin kvs s) := by
  obtain ⟨D, m⟩ := s
  unfold putMin putN
  show MinsOk _ (if _ then kvs.map (fun kv : List Int × Nat => if kv.1 = D then (kv.1, min m ((lkp kvs D).getD m)) else kv) else kvs ++ [(D, min m ((lkp kvs D).getD m))])
  rw [any_lkp]
  cases hl : lkp kvs D with
  | none =>
    rw [if_neg (by simp)]
    have e : min m ((none : Option Nat).getD m) = m := Nat.min_self m
    rw [e]
    have no := lkp_none hl
    refine ⟨?_, ?_, ?_⟩
    · rw [List.map_append, List.nodup_append]
      refine ⟨h.nd, by simp, fun a ha b hb => ?_⟩
      have hb : b = D := by simpa using hb
      obtain ⟨kv, h1, h2⟩ := List.mem_map.mp ha
      intro z
      have e2 : kv.1 = D := by rw [h2, z, hb]
      exact no kv.2 (by rw [← e2]; exact h1)
    · intro x hx
      rcases List.mem_append.mp hx with z | z
      · exact List.mem_append_left _ (h.from_ x z)
      · exact List.mem_append_right _ z
    · intro s hs
      rcases List.mem_append.mp hs with z | z
      · obtain ⟨k, h1, h2⟩ := h.to s z
        exact ⟨k, h1, List.mem_append_left _ h2⟩
      · rw [List.mem_singleton.mp z]
        exact ⟨m, Nat.le_refl _, List.mem_append_right _ (by simp)⟩
  | some k =>
    rw [if_pos (show (some k).isSome = true from rfl)]
    show MinsOk _ (kvs.map (fun kv : List Int × Nat => if kv.1 = D then (kv.1, min m k) else kv))
    have hk := lkp_mem hl
    have ek : (kvs.map (fun kv : List Int × Nat => if kv.1 = D then (kv.1, min m k) else kv)).map (·.1) = kvs.map (·.1) := by
      rw [List.map_map]
      refine List.map_congr_left fun kv _ => ?_
      show (if kv.1 = D then (kv.1, min m k) else kv).1 = kv.1
      split <;> rfl
    refine ⟨by rw [ek]; exact h.nd, ?_, ?_⟩
    · intro x hx
      obtain ⟨kv, h1, h2⟩ := List.mem_map.mp hx
      by_cases e : kv.1 = D
      · rw [if_pos e] at h2
        rw [← h2, e]
        rcases Nat.le_total m k with q | q
        · rw [Nat.min_eq_left q]; exact List.mem_append_right _ (by simp)
        · rw [Nat.min_eq_right q]; exact List.mem_append_left _ (h.from_ _ hk)
      · rw [if_neg e] at h2
        rw [← h2]
        exact List.mem_append_left _ (h.from_ _ h1)
    · intro s hs
      rcases List.mem_append.mp hs with z | z
      · obtain ⟨j, h1, h2⟩ := h.to s z
        by_cases e : s.1 = D
        · have ej : j = k := by
            have := mem_lkp h.nd h2
            rw [e, hl] at this
            exact (Option.some.inj this).symm
          refine ⟨min m k, by omega, List.mem_map.mpr ⟨_, h2, ?_⟩⟩
          show (if s.1 = D then (s.1, min m k) else (s.1, j)) = _
          rw [if_pos e]
        · refine ⟨j, h1, List.mem_map.mpr ⟨_, h2, ?_⟩⟩
          show (if s.1 = D then (s.1, min m k) else (s.1, j)) = _
          rw [if_neg e]
      · rw [List.mem_singleton.mp z]
        refine ⟨min m k, Nat.min_le_left _ _, List.mem_map.mpr ⟨_, hk, ?_⟩⟩
        show (if D = D then (D, min m k) else (D, k)) = _
        rw [if_pos rfl]
theorem mins_ok (src : KN) : MinsOk src (mins src) := by
  have q : ∀ (more src kvs : KN), MinsOk src kvs → MinsOk (src ++ more) (more.foldl putMin kvs) := by
    intro more
    induction more with
    | nil => intro src kvs h; rw [List.append_nil]; exact h
    | cons s r ih =>
      intro src kvs h
      have := ih (src ++ [s]) _ (putMin_ok h s)
      rw [List.append_assoc] at this
      exact this
  have := q src [] [] ⟨List.nodup_nil, fun x h => absurd h List.not_mem_nil, fun x h => absurd h List.not_mem_nil⟩
  rw [List.nil_append] at this
  exact this
/-! ### one ask -/
def succs (n : Nat) (C : List Int) (p : Int) : List (List Int) :=
  if p ∈ C then [C] else if C.length = n then C.map fun g => srt (C.filter (· != g) ++ [p]) else [srt (C ++ [p])]
def costK (C : List Int) (p : Int) : Nat := if p ∈ C then 0 else 1
def fanK (n : Nat) (p : Int) (kv : List Int × Nat) : KN := (succs n kv.1 p).map fun D => (D, kv.2 + costK kv.1 p)
def stepK (n : Nat) (p : Int) (kvs : KN) : KN := mins (kvs.flatMap (fanK n p))
def knownTo (n : Nat) (row : List Int) : Nat → KN
  | 0 => [([], 0)]
  | i + 1 => match row[i]? with
    | some p => stepK n p (knownTo n row i)
    | none => knownTo n row i
theorem knownTo_succ {n : Nat} {row : List Int} {i : Nat} {p : Int} (h : row[i]? = some p) : knownTo n row (i + 1) = stepK n p (knownTo n row i) := by
  show (match row[i]? with | some p => stepK n p (knownTo n row i) | none => knownTo n row i) = _
  rw [h]
structure SetOk (n : Nat) (C : List Int) : Prop where
  up : C.Pairwise (· < ·)
  le : C.length ≤ n
  mem : ∀ x ∈ C, 0 ≤ x ∧ x < 12
structure KOk (n : Nat) (row : List Int) (i : Nat) (kvs : KN) : Prop where
  nd : (kvs.map (·.1)).Nodup
  ok : ∀ kv ∈ kvs, SetOk n kv.1
  sound : ∀ kv ∈ kvs, ∀ k, Way n kv.1 (row.drop i) k → Way n [] row (kv.2 + k)
  all : ∀ K, Way n [] row K → ∃ kv ∈ kvs, ∃ k, Way n kv.1 (row.drop i) k ∧ kv.2 + k ≤ K
theorem KOk.start (n : Nat) (row : List Int) : KOk n row 0 [([], 0)] := by
  refine ⟨by simp, fun kv h => ?_, fun kv h k w => ?_, fun K w => ⟨_, List.mem_singleton.mpr rfl, K, w, by show 0 + K ≤ K; omega⟩⟩
  · rw [List.mem_singleton.mp h]; exact ⟨List.Pairwise.nil, Nat.zero_le _, fun x hx => by cases hx⟩
  · rw [List.mem_singleton.mp h] at w ⊢
    show Way n [] row (0 + k)
    rw [Nat.zero_add]
    exact w
theorem filter_erase {C : List Int} (nd : C.Nodup) (g : Int) : C.filter (· != g) = C.erase g := (nd.erase_eq_filter g).symm
theorem KOk.next {n : Nat} (hn : 0 < n) {row : List Int} {i : Nat} {p : Int} {kvs : KN} (hp : row[i]? = some p) (p0 : 0 ≤ p ∧ p < 12) (h : KOk n row i kvs) : KOk n row (i + 1) (stepK n p kvs) := by
  have hi : i < row.length := (List.getElem?_eq_some_iff.mp hp).1
  have ed : row.drop i = p :: row.drop (i + 1) := by
    rw [List.drop_eq_getElem_cons hi, (List.getElem?_eq_some_iff.mp hp).2]
  have M := mins_ok (kvs.flatMap (fanK n p))
  have src : ∀ x ∈ stepK n p kvs, ∃ kv ∈ kvs, x.1 ∈ succs n kv.1 p ∧ x.2 = kv.2 + costK kv.1 p := fun x hx => by
    obtain ⟨kv, h1, h2⟩ := List.mem_flatMap.mp (M.from_ x hx)
    obtain ⟨D, h3, h4⟩ := List.mem_map.mp h2
    exact ⟨kv, h1, by rw [← h4]; exact h3, by rw [← h4]⟩
  refine ⟨M.nd, fun x hx => ?_, fun x hx k w => ?_, fun K w => ?_⟩
  · obtain ⟨kv, h1, h2, _⟩ := src x hx
    have o := h.ok kv h1
    have nd := rise_nodup o.up
    unfold succs at h2
    by_cases q : p ∈ kv.1
    · rw [if_pos q] at h2
      rw [List.mem_singleton.mp h2]
      exact o
    · rw [if_neg q] at h2
      by_cases l : kv.1.length = n
      · rw [if_pos l] at h2
        obtain ⟨g, hg, e⟩ := List.mem_map.mp h2
        have nd2 : (kv.1.filter (· != g) ++ [p]).Nodup := nodup_snoc (nd.filter _) fun z => q (List.mem_filter.mp z).1
        rw [← e]
        refine ⟨srt_rise nd2, ?_, fun y hy => ?_⟩
        · rw [(srt_perm _).length_eq, List.length_append]
          have := filter_less hg
          simp
          omega
        · rcases List.mem_append.mp ((srt_perm _).mem_iff.mp hy) with z | z
          · exact o.mem y (List.mem_filter.mp z).1
          · rw [List.mem_singleton.mp z]; exact p0
      · rw [if_neg l] at h2
        rw [List.mem_singleton.mp h2]
        have ol := o.le
        refine ⟨srt_rise (nodup_snoc nd q), ?_, fun y hy => ?_⟩
        · rw [(srt_perm _).length_eq, List.length_append]
          simp
          omega
        · rcases List.mem_append.mp ((srt_perm _).mem_iff.mp hy) with z | z
          · exact o.mem y z
          · rw [List.mem_singleton.mp z]; exact p0
  · obtain ⟨kv, h1, h2, h3⟩ := src x hx
    have o := h.ok kv h1
    have nd := rise_nodup o.up
    have s := h.sound kv h1
    rw [ed] at s
    unfold succs at h2
    unfold costK at h3
    by_cases q : p ∈ kv.1
    · rw [if_pos q] at h2 h3
      rw [List.mem_singleton.mp h2] at w
      rw [h3]
      exact s k (.hit q w)
    · rw [if_neg q] at h2 h3
      have e : x.2 + k = kv.2 + (k + 1) := by omega
      rw [e]
      by_cases l : kv.1.length = n
      · rw [if_pos l] at h2
        obtain ⟨g, hg, e⟩ := List.mem_map.mp h2
        rw [← e] at w
        refine s (k + 1) (.out (q := g) q (by omega) hg (w.perm ?_))
        refine (srt_perm _).trans ?_
        rw [filter_erase nd]
        exact List.perm_append_comm
      · rw [if_neg l] at h2
        rw [List.mem_singleton.mp h2] at w
        have ol := o.le
        refine s (k + 1) (.room q (by omega) (w.perm ?_))
        exact (srt_perm _).trans List.perm_append_comm
  · obtain ⟨kv, h1, k, w1, h2⟩ := h.all K w
    have o := h.ok kv h1
    have nd := rise_nodup o.up
    rw [ed] at w1
    have put : ∀ D ∈ succs n kv.1 p, ∀ k', Way n D (row.drop (i + 1)) k' → kv.2 + costK kv.1 p + k' ≤ K → ∃ x ∈ stepK n p kvs, ∃ j, Way n x.1 (row.drop (i + 1)) j ∧ x.2 + j ≤ K := fun D hD k' w' l => by
      obtain ⟨m, m1, m2⟩ := M.to (D, kv.2 + costK kv.1 p) (List.mem_flatMap.mpr ⟨kv, h1, List.mem_map.mpr ⟨D, hD, rfl⟩⟩)
      have m1 : m ≤ kv.2 + costK kv.1 p := m1
      exact ⟨(D, m), m2, k', w', by show m + k' ≤ K; omega⟩
    cases w1 with
    | hit q w1 =>
      refine put kv.1 (by unfold succs; rw [if_pos q]; simp) k w1 ?_
      unfold costK
      rw [if_pos q]
      omega
    | @room _ _ _ k q l w1 =>
      refine put (srt (kv.1 ++ [p])) (by unfold succs; rw [if_neg q, if_neg (by omega)]; simp) k (w1.perm ((List.perm_append_comm (l₁ := [p])).trans (srt_perm _).symm)) ?_
      unfold costK
      rw [if_neg q]
      omega
    | @out _ _ g _ k q l hg w1 =>
      have ol := o.le
      refine put (srt (kv.1.filter (· != g) ++ [p])) (by unfold succs; rw [if_neg q, if_pos (by omega)]; exact List.mem_map.mpr ⟨g, hg, rfl⟩) k (w1.perm ?_) ?_
      · rw [filter_erase nd]
        exact (List.perm_append_comm (l₁ := [p])).trans (srt_perm _).symm
      · unfold costK
        rw [if_neg q]
        omega
theorem known_ok {n : Nat} (hn : 0 < n) {row : List Int} (hr : ∀ p ∈ row, 0 ≤ p ∧ p < 12) : ∀ i, i ≤ row.length → KOk n row i (knownTo n row i)
  | 0, _ => KOk.start n row
  | i + 1, hi => by
    have e : row[i]? = some (row[i]'hi) := List.getElem?_eq_getElem hi
    rw [knownTo_succ e]
    exact (known_ok hn hr i (by omega)).next hn e (hr _ (List.getElem_mem hi))
theorem known_ne {n : Nat} (hn : 0 < n) {row : List Int} {i : Nat} {kvs : KN} (h : KOk n row i kvs) : kvs ≠ [] := by
  intro z
  obtain ⟨kv, h1, _⟩ := h.all _ (best_bel hn row).way
  rw [z] at h1
  cases h1
/-- the least of the table is what best lacks -/
theorem known_best {n : Nat} (hn : 0 < n) {row : List Int} {kvs : KN} (h : KOk n row row.length kvs) {m : Int} (hm : m ∈ kvs.map fun kv => ((kv.2 : Nat) : Int)) (hl : ∀ x ∈ kvs.map (fun kv => ((kv.2 : Nat) : Int)), m ≤ x) : m = ((bestS n row).lacks.length : Int) := by
  obtain ⟨kv, h1, rfl⟩ := List.mem_map.mp hm
  have w := h.sound kv h1 0 (by rw [List.drop_length]; exact .nil _)
  have q1 := best_least hn w
  obtain ⟨kv', h2, k, _, h3⟩ := h.all _ (best_bel hn row).way
  have q2 := hl _ (List.mem_map.mpr ⟨kv', h2, rfl⟩)
  have q2 : ((kv.2 : Nat) : Int) ≤ ((kv'.2 : Nat) : Int) := q2
  omega
/-! ### how many sets there are -/
def subs : List Int → List (List Int)
  | [] => [[]]
  | a :: r => subs r ++ (subs r).map (a :: ·)
theorem subs_len : ∀ l : List Int, (subs l).length = 2 ^ l.length
  | [] => rfl
  | a :: r => by
    show (subs r ++ (subs r).map (a :: ·)).length = 2 ^ (r.length + 1)
    rw [List.length_append, List.length_map, subs_len r, Nat.pow_succ]
    omega
theorem in_subs : ∀ {l C : List Int}, l.Pairwise (· < ·) → C.Pairwise (· < ·) → (∀ x ∈ C, x ∈ l) → C ∈ subs l := by
  intro l
  induction l with
  | nil =>
    intro C _ _ h
    cases C with
    | nil => simp [subs]
    | cons a r => exact absurd (h a (by simp)) (by simp)
  | cons b t ih =>
    intro C hl hC h
    have q := List.pairwise_cons.mp hl
    show C ∈ subs t ++ (subs t).map (b :: ·)
    cases C with
    | nil => exact List.mem_append_left _ (ih q.2 hC (fun x hx => by cases hx))
    | cons a r =>
      have qc := List.pairwise_cons.mp hC
      rcases List.mem_cons.mp (h a (by simp)) with z | z
      · subst z
        refine List.mem_append_right _ (List.mem_map.mpr ⟨r, ih q.2 qc.2 (fun x hx => ?_), rfl⟩)
        rcases List.mem_cons.mp (h x (by simp [hx])) with y | y
        · have := qc.1 x hx; omega
        · exact y
      · refine List.mem_append_left _ (ih q.2 hC (fun x hx => ?_))
        rcases List.mem_cons.mp (h x hx) with y | y
        · have ba := q.1 _ z
          rcases List.mem_cons.mp hx with w | w
          · omega
          · have := qc.1 x w; omega
        · exact y
theorem len_subG {α : Type} [DecidableEq α] : ∀ {xs ys : List α}, xs.Nodup → (∀ x ∈ xs, x ∈ ys) → xs.length ≤ ys.length
  | [], _, _, _ => Nat.zero_le _
  | a :: r, ys, nd, h => by
    have q := List.nodup_cons.mp nd
    have ha := h a (by simp)
    have ih := len_subG (xs := r) (ys := ys.erase a) q.2 fun x hx => by
      have ne : x ≠ a := fun e => q.1 (by rw [← e]; exact hx)
      exact (List.mem_erase_of_ne ne).mpr (h x (by simp [hx]))
    rw [List.length_erase_of_mem ha] at ih
    have := List.length_pos_of_mem ha
    show r.length + 1 ≤ ys.length
    omega
theorem sets_le {n : Nat} {kvs : KN} (nd : (kvs.map (·.1)).Nodup) (ok : ∀ kv ∈ kvs, SetOk n kv.1) : kvs.length ≤ 4096 := by
  have q := len_subG (ys := subs [0, 1, 2, 3, 4, 5, 6, 7, 8, 9, 10, 11]) nd fun C hC => by
    obtain ⟨kv, h1, rfl⟩ := List.mem_map.mp hC
    have o := ok kv h1
    refine in_subs (by decide) o.up fun x hx => ?_
    have := o.mem x hx
    simp
    omega
  rw [List.length_map, subs_len] at q
  exact q
theorem KOk.size {n : Nat} {row : List Int} {i : Nat} {kvs : KN} (h : KOk n row i kvs) : kvs.length ≤ 4096 := sets_le h.nd h.ok
/-- as many as the table that grows may hold -/
theorem mins_size {n : Nat} {src : KN} (ok : ∀ s ∈ src, SetOk n s.1) : (mins src).length ≤ 4096 :=
  sets_le (mins_ok src).nd fun kv h => ok kv ((mins_ok src).from_ kv h)
theorem fan_ok {n : Nat} {C : List Int} {p : Int} {m : Nat} (o : SetOk n C) (p0 : 0 ≤ p ∧ p < 12) : ∀ s ∈ fanK n p (C, m), SetOk n s.1 := by
  intro s hs
  obtain ⟨D, h2, e⟩ := List.mem_map.mp hs
  rw [← e]
  show SetOk n D
  have nd := rise_nodup o.up
  have h2 : D ∈ succs n C p := h2
  unfold succs at h2
  by_cases q : p ∈ C
  · rw [if_pos q] at h2
    rw [List.mem_singleton.mp h2]
    exact o
  · rw [if_neg q] at h2
    by_cases l : C.length = n
    · rw [if_pos l] at h2
      obtain ⟨g, hg, e⟩ := List.mem_map.mp h2
      rw [← e]
      refine ⟨srt_rise (nodup_snoc (nd.filter _) fun z => q (List.mem_filter.mp z).1), ?_, fun y hy => ?_⟩
      · rw [(srt_perm _).length_eq, List.length_append]
        have := filter_less hg
        simp
        omega
      · rcases List.mem_append.mp ((srt_perm _).mem_iff.mp hy) with z | z
        · exact o.mem y (List.mem_filter.mp z).1
        · rw [List.mem_singleton.mp z]; exact p0
    · rw [if_neg l] at h2
      rw [List.mem_singleton.mp h2]
      have ol := o.le
      refine ⟨srt_rise (nodup_snoc nd q), ?_, fun y hy => ?_⟩
      · rw [(srt_perm _).length_eq, List.length_append]
        simp
        omega
      · rcases List.mem_append.mp ((srt_perm _).mem_iff.mp hy) with z | z
        · exact o.mem y z
        · rw [List.mem_singleton.mp z]; exact p0
end CK

/-! A dict display with one tuple key; sorted of a tuple of ints. -/
namespace CKZ
open PySem PySem.Spec PyProof.Rows L2
open PySem.Sem (wp)
section
variable {P : Program} {w : World} {A : Around} {E : Value → Shared → Prop} {s : Shared}
theorem storeOneH {K : Type} [DecidableEq K] {knd : HeapKind P w K} {k : K} {a : Addr} {v : Value} : storedAllH ([] : List (K × Addr × Value)) [(k, a, v)] = [(k, a, v)] := rfl
theorem collect_tupI {l : Addr} {vs : List Value} {Q : List Value → Shared → Prop} (hl : IsTup s.heap l vs.toArray) (h : Q vs { s with heap := (s.heap.push (seqObj "list" #[] 0)).update s.heap.objs.size (Obj.mapSeq (· ++ vs.toArray)) }) (hsz : vs.length ≤ sizeLine) :
    wpAny (model P w) A (collect (.ref l)) Q E s := by
  obtain ⟨o, ho, hc, n, hd⟩ := id hl
  unfold collect
  refine wpAny_bind (wpAny_runValue (codeAny_builtin entry_proto_collect' ?_)); show wpAny _ _ (do again (.builtin "list.__iadd__" ⟨[← newList [], .ref l], []⟩)) _ _ s
  refine wpAny_bind (wpAny_newList (wpAny_pure ⟨Code.quiet_builtin _ (by decide +kernel), codeAny_builtin entry_list_iadd' ?_⟩))
  show wpAny _ _ (Builtin.List.listExtendWith (.ref s.heap.objs.size) (.ref l) (.ref s.heap.objs.size)) _ _ { s with heap := s.heap.push (seqObj "list" #[] 0) }
  unfold Builtin.List.listExtendWith
  have ho' : (s.heap.push (seqObj "list" #[] 0)).get? l = some o := Heap.get?_push_of_some _ ho
  refine wpAny_bind (wpAny_typeOf (T := "tuple") ⟨o, ho', hc⟩ ?_)
  have ht : (Value.type "tuple" == Value.type "tuple") = true := by rfl
  rw [if_pos (by rw [ht]; simp)]
  refine wpAny_bind (listItems_at ho' hd ?_); refine wpAny_bind (listItems_at (xs := #[]) (n := 0) (Heap.get?_push_size _ rfl) rfl ?_)
  rw [if_neg (by simp)]
  refine wpAny_bind (listUpdate_at (xs := #[]) (n := 0) (Heap.get?_push_size _ rfl) rfl ?_ (Nat.zero_le _) (by show (#[] ++ vs.toArray).size ≤ sizeLine + 1; simp only [Array.size_append, List.size_toArray, List.length_nil]; omega))
  refine wpAny_pure ?_
  show wpAny (model P w) A (do
      let o ← load s.heap.objs.size
      match o.data with
      | .seq xs _ => pure xs.toList
      | _ => unsupported "internal:collect") Q E { s with heap := (s.heap.push (seqObj "list" #[] 0)).update s.heap.objs.size (Obj.mapSeq (· ++ vs.toArray)) }
  refine wpAny_bind (wpAny_load (get?_update_seq (Heap.get?_push_size _ rfl) _) ?_)
  show wpAny _ _ (pure ((#[] : Array Value) ++ vs.toArray).toList) Q E _
  have e : ((#[] : Array Value) ++ vs.toArray).toList = vs := by simp
  rw [e]
  exact wpAny_pure h
theorem sorted_tupI {l : Addr} {vs : List Value} {ns : List Int} {Q : Value → Shared → Prop} (hl : IsTup s.heap l vs.toArray) (hI : IntsAre vs ns) (h64 : vs.length < 64)
    (h : ∀ (out : Array Value) (ns' : List Int), IntsAre out.toList ns' → ns'.Perm ns → ns'.Pairwise (· ≤ ·) → Q (.ref (s.heap.objs.size + 1)) { s with heap := sortedAll s.heap vs out }) :
    wpAny (model P w) A (call (.builtin "sorted") [.ref l]) Q E s := by
  refine Calls.call_function_entry kind_sorted plain_sorted entry_sorted (args_sorted1 _) ?_
  unfold Builtin.«sorted»; refine wpAny_bind (m := checkCount "sorted" 1 1 _) (wpAny_pure ?_)
  have hz : vs.length ≤ sizeLine := Nat.le_trans (Nat.le_of_lt h64) (by decide)
  refine wpAny_bind (collect_tupI hl ?_ hz); refine wpAny_bind (wpAny_newList ?_ hz)
  have hsz : ((s.heap.push (seqObj "list" #[] 0)).update s.heap.objs.size (Obj.mapSeq (· ++ vs.toArray))).objs.size = s.heap.objs.size + 1 := by rw [Heap.size_update, size_push']
  have hoL : (((s.heap.push (seqObj "list" #[] 0)).update s.heap.objs.size (Obj.mapSeq (· ++ vs.toArray))).push (seqObj "list" vs.toArray 0)).get? (s.heap.objs.size + 1) = some (seqObj "list" vs.toArray 0) := by rw [← hsz]; exact Heap.get?_push_size _ rfl
  show wpAny _ _ _ _ _ { s with heap := ((s.heap.push (seqObj "list" #[] 0)).update s.heap.objs.size (Obj.mapSeq (· ++ vs.toArray))).push (seqObj "list" vs.toArray 0) }
  rw [hsz]
  refine wpAny_bind (wpAny_holding (wpAny_call_entry slot_list_sort ⟨_, hoL, rfl⟩ entry_list_sort (list_sort_tree hoL hI h64 fun out ns' a1 a2 a3 => ⟨_, rfl, ?_⟩) (args_list_sort _)))
  exact wpAny_pure ⟨_, rfl, h out ns' a1 a2 a3⟩
end
section
variable {X : Cx}
/-- sorted(t), t a tuple of ints: a new list -/
def rSortedT (K : PySem.W.Frag) : List V → Hp → VK → Prop := fun vs H Q => ∃ (a : Addr) (ns : List Int), vs = [V.ref a] ∧ SqT K H a (ns.map V.int) ∧ ns.length < 64 ∧ ∀ (ns' : List Int) (p : Addr), ns'.Perm ns → ns'.Pairwise (· ≤ ·) → H p = none → Q (.ref p) (upd H p (.lst (ns'.map V.int)))
theorem cr_sortedT : CallR X (.builtin "sorted") (rSortedT X.K) := by
  intro pins s σ H vs us Q I r h
  obtain ⟨a, ns, rfl, hs, h64, q⟩ := h
  obtain ⟨its, rv, hl, _⟩ := I.tuple hs
  rw [Vals.ref1 r]
  have hi := rv.ints
  refine sorted_tupI hl hi (by rw [hi.length]; exact h64) fun out ns' h1 h2 h3 => ?_
  obtain ⟨ep, he'⟩ := PyProof.Rows.sortedAll_at s.heap its out
  have hlen : (ns'.map V.int).length ≤ sizeLine := by rw [List.length_map, h2.length_eq]; exact small64 h64
  exact ⟨.ref _, upd H (s.heap.objs.size + 1) (.lst (ns'.map V.int)), I.laid (t' := s.toks) (fun _ _ => PyProof.Rows.sortedAll_old) (Nat.le_succ _) ⟨hlen, out.toList, ep, vals_of_ints h1, he'⟩, rfl, q ns' _ h2 h3 (I.hok.fresh (Nat.le_succ _))⟩
/-- {t: v}, t a tuple of ints and texts -/
def tDisp1T (tk tv : TE) : TE := fun σ H Q => ∀ p, H p = none → tk σ (upd H p (.dT [])) fun x H1 => tv σ H1 fun y H2 => H2 p = some (.dT []) ∧ ∃ (b : Addr) (ks : List L2.Key), x = .ref b ∧ H2 b = some (.tup (ks.map kV)) ∧ Q (.ref p) (upd H2 p (.dT [(ks, y)]))
theorem pe_disp1T {k v : Expr} {pos : Pos} {tk tv : TE} (hu : X.A.units + 1 < cLine) (hk : PE X k tk) (hv : PE X v tv) : PE X (.Dict [some k] [v] pos) (tDisp1T tk tv) := by
  refine ⟨fun pins s σ H Q I q => ?_⟩
  have hn := I.hok.fresh (Nat.le_refl s.heap.objs.size)
  have I1 := I.laid (a := s.heap.objs.size) (o := .dT []) (h' := s.heap.push { cls := .type "dict", data := .dict #[] }) (t' := s.toks) (fun _ _ q => Heap.get?_push_of_some _ q) (Nat.le_refl _) (dt_empty s.heap I.big)
  rw [arm_eval_Dict, zip_pairTrees [some k] [v] X.env pos rfl rfl, dictDisplay_pairs _ (by intro z; cases z) (Nat.lt_of_lt_of_le (show 1 < 17 by decide) (Nat.le_refl _))]
  refine wpAny_bind (wpAny_standAt (wpAny_bind (wpAny_subDictH (knd := tupleKind (mixKind X.prog X.w)) (Nat.lt_of_succ_lt hu) (show 1 ≤ 15 by decide) ?_)))
  refine pairTrees_cons_walk (thn (hk.run pins _ σ _ _ I1 (q _ hn)) fun u s1 ⟨x, H1, I2, rx, q1⟩ => thn (hv.run pins s1 σ H1 _ I2 q1) fun w2 s2 ⟨y, H2, I3, ry, e, b, ks, ex, hb, q2⟩ => pairTrees_nil_walk ?_)
  subst ex
  cases (show u = Value.ref b from rx)
  obtain ⟨z, hd, xs, rel, dd⟩ := dt_of I3.hok e
  cases rel
  refine ⟨[(ks, b, w2)], ⟨rfl, rfl, key_of I3.hok hb, trivial⟩, dd, fun h' tk dd' hs => wpAny_pure ?_⟩
  obtain ⟨ob, es, ep, hq, h2, h3, h4, _, h5⟩ := dd'
  have new : ObjOk X.prog X.w (upd H2 s.heap.objs.size (.dT [(ks, y)])) h' s.heap.objs.size (.dT [(ks, y)]) := by
    refine ⟨by show 1 ≤ sizeLine; decide, hd, _, .cons ⟨rfl, ?_, ry⟩ .nil, ob, es, ep, hq, h2, h3, h4, h5⟩
    rw [upd_ne (ne_of hb e (fun z => nomatch z))]
    exact hb
  exact ⟨.ref s.heap.objs.size, _, d_write I3 (by rw [e]; exact True.intro) hs ⟨ob, hq⟩ new, rfl, q2⟩
end
end CKZ

/-! The law's own fewest. -/
namespace CK
open PySem PySem.Spec PyProof.Rows L2
abbrev rTupQ (K : PySem.W.Frag) : List V → Hp → VK → Prop := fun xs H Q => ∃ p ys, xs = [.ref p] ∧ ((SqL K H p ys ∧ ∀ l, H l = none → Q (.ref l) (upd H l (.tup ys))) ∨ (SqT K H p ys ∧ Q (.ref p) H))
def ky (C : List Int) : List L2.Key := C.map Sum.inl
theorem ky_kV (C : List Int) : (ky C).map kV = il C := by
  unfold ky
  rw [List.map_map]
  rfl
theorem ky_inj : ∀ {C D : List Int}, ky C = ky D → C = D
  | [], [], _ => rfl
  | [], _ :: _, h => by cases h
  | _ :: _, [], h => by cases h
  | a :: r, b :: t, h => by
    have h1 : (Sum.inl a : L2.Key) = Sum.inl b ∧ ky r = ky t := List.cons.inj h
    rw [Sum.inl.inj h1.1, ky_inj h1.2]
def kvT (kvs : KN) : List (List L2.Key × V) := kvs.map fun kv => (ky kv.1, V.int (kv.2 : Nat))
theorem kvT_val : ∀ (kvs : KN) (C : List Int), valV (kvT kvs) (ky C) = (lkp kvs C).map fun m : Nat => V.int (m : Nat)
  | [], C => rfl
  | kv :: r, C => by
    have ih := kvT_val r C
    unfold lkp at ih ⊢
    rw [List.find?_cons]
    by_cases h : kv.1 = C
    · have e : valV (kvT (kv :: r)) (ky C) = some (V.int (kv.2 : Nat)) := valV_pos (by show ky kv.1 = ky C; rw [h])
      rw [e, decide_eq_true h]
      rfl
    · have e : valV (kvT (kv :: r)) (ky C) = valV (kvT r) (ky C) := valV_neg (fun z => h (ky_inj z))
      rw [e, decide_eq_false h]
      exact ih
theorem kvT_put (kvs : KN) (C : List Int) (m : Nat) : putK (kvT kvs) (ky C) (V.int (m : Nat)) = kvT (putN kvs C m) := by
  have ha : ((kvT kvs).any fun kv => decide (kv.1 = ky C)) = (kvs.any fun kv => decide (kv.1 = C)) := by
    unfold kvT
    rw [List.any_map]
    refine congrArg (fun f => kvs.any f) (funext fun kv => ?_)
    exact decide_eq_decide.mpr ⟨ky_inj, fun h => by show ky kv.1 = ky C; rw [h]⟩
  unfold putK putN
  rw [ha]
  by_cases h : (kvs.any fun kv => decide (kv.1 = C)) = true
  · rw [if_pos h, if_pos h]
    unfold kvT
    rw [List.map_map, List.map_map]
    refine List.map_congr_left fun kv _ => ?_
    show (if ky kv.1 = ky C then (ky kv.1, V.int (m : Nat)) else (ky kv.1, V.int (kv.2 : Nat))) = (fun kv : List Int × Nat => (ky kv.1, V.int (kv.2 : Nat))) (if kv.1 = C then (kv.1, m) else kv)
    by_cases e : kv.1 = C
    · rw [if_pos e, if_pos (by rw [e])]
    · rw [if_neg e, if_neg fun z => e (ky_inj z)]
  · rw [if_neg h, if_neg h]
    unfold kvT
    rw [List.map_append]
    rfl
def spFewest (K : PySem.W.Frag) : Sp := fun vs H Q _ => ∃ (n : Int) (r : Addr) (row : List Int), vs = [.int n, .ref r] ∧ 1 ≤ n ∧ n ≤ 8 ∧ SqL K H r (il row) ∧ RowOk row ∧
  ∀ H' : Hp, Same H H' → Q (.int ((bestS n.toNat row).lacks.length : Nat)) H'
theorem catA_any {K : PySem.W.Frag} {q u : Addr} {C : List Int} {p : Int} {H : Hp} {Q : VK} (hq : H q = some (.tup (il C))) (hu : H u = some (.tup (il [p]))) (hC : C.length ≤ 1000)
    (h : ∀ (c : Addr) (H' : Hp), Same H H' → H' c = some (.tup (il (C ++ [p]))) → Q (.ref c) H') : rCatA K (.ref q) (.ref u) H Q := by
  refine ⟨q, u, il C, il [p], rfl, rfl, SqT.of hq, SqT.of hu, sz (by rw [il_len, il_len]; simp; omega), fun e => ?_, fun _ e => (by cases e), fun _ _ z hz => ?_⟩
  · have e : C = [] := List.map_eq_nil_iff.mp e
    subst e
    exact h u H (Same.refl H) hu
  · refine h z _ (Same.new hz) ?_
    rw [upd_same]
    show some (HO.tup (C.map V.int ++ [p].map V.int)) = some (HO.tup ((C ++ [p]).map V.int))
    rw [List.map_append]
theorem take_flat {α β : Type} {f : α → List β} {xs : List α} {j : Nat} {x : α} (h : xs[j]? = some x) : (xs.take (j + 1)).flatMap f = (xs.take j).flatMap f ++ f x := by
  rw [take_snoc h, List.flatMap_append]
  simp
/-- what stands while the table grows: the old one locked at d, the new one at e -/
structure FS (H0 H : Hp) (d e : Addr) (od : PySem.Obj) (kvs src : KN) : Prop where
  hd : H d = some (.frz od (.dT (kvT kvs)))
  he : H e = some (.dT (kvT (mins src)))
  kp : ∀ c o, c ≠ d → H0 c = some o → H c = some o
theorem FS.same {H0 H H' : Hp} {d e : Addr} {od : PySem.Obj} {kvs src : KN} (h : FS H0 H d e od kvs src) (s : Same H H') : FS H0 H' d e od kvs src :=
  ⟨s _ _ h.hd, s _ _ h.he, fun c o n z => s _ _ (h.kp c o n z)⟩
section
variable {P : Program} {w : World} {K : PySem.W.Frag} {mg : Str → Option Value} {base : Heap}
theorem sc_law_fewest : FnScope ["_law_rooms", "_law_row", "_law_known", "_law_page", "_law_later", "_law_kept", "_law_some", "_law_many", "_law_one", "_law_gone"] ["_law_rooms", "_law_row"] (defScope (top 43)) := ⟨rfl, rfl, rfl, by decide +kernel, rfl, by decide +kernel, by decide +kernel⟩
theorem ok_law_fewest (T : Prog K mg) : FnOk P w K mg base CX0 1 T.law_fewest.f T.law_fewest.fd ["_law_rooms", "_law_row"] (spFewest K) := by
  refine T.law_fewest.fn.ok sc_law_fewest (fun vs H Q E h => ?len) (fun cdv A outer s H vs Q E hr h => ?body)
  case len =>
    obtain ⟨n, r, row, rfl, _⟩ := h
    rfl
  case body =>
    have hu := hu_of hr
    obtain ⟨n, r, row, rfl, n1, n8, hS, hR, k⟩ := h
    refine ⟨_, PSs.nox (pss_cons (ps_set (i := 2) sc_law_fewest.nd rfl (Or.inr rfl) (CKZ.pe_disp1T hu (pe_tup pa_nil) pe_int))
        (pss_cons (ps_for PassesOwn.never rfl (pi_list (pv 1)) (pg_name (i := 3) sc_law_fewest.nd rfl (Or.inr rfl))
        (pss_cons (ps_set (i := 4) sc_law_fewest.nd rfl (Or.inl rfl) pe_dnewT)
        (pss_cons (ps_lock (ps_for PassesOwn.never rfl (pi_keys (pv 2)) (pg_name (i := 5) sc_law_fewest.nd rfl (Or.inr rfl))
        (pss_cons (ps_set (i := 6) sc_law_fewest.nd rfl (Or.inl rfl) (pe_lst (pa_cons (pv 5) pa_nil)))
        (pss_cons (ps_set (i := 7) sc_law_fewest.nd rfl (Or.inl rfl) (pe_dget hu (pv 2) (pv 5) (fun _ _ => rfl)))
        (C8.pss_cut (ps_if (pt_cmpR op_notIn_seq (pv 3) (pv 5) (by rfl))
        (pss_cons (ps_set (i := 7) sc_law_fewest.nd rfl (Or.inl rfl) (pe_op op_add (pv 7) pe_int))
        (pss_cons (ps_set (i := 6) sc_law_fewest.nd rfl (Or.inl rfl) (pe_lst (pa_cons (pe_callTy call_tuple_of (by rfl) T.tuple_ (by decide +kernel) (pa_cons (pe_callB CKZ.cr_sortedT (by rfl) T.sorted (by decide +kernel) (pa_cons (pe_op op_catA (pv 5) (pe_tup (pa_cons (pv 3) pa_nil))) pa_nil)) pa_nil)) pa_nil)))
        (pss_one (ps_if (pt_cmpR op_eq (pe_callB call_len_seq (by rfl) T.len PySem.boot_len (pa_cons (pv 5) pa_nil)) (pv 0) (nomark _))
        (pss_one (ps_setLc (i := 6) (own := [("_law_gone", 9)]) (g := gName 9) (tt := tYes) (te := (tCB (rTupQ K) (tCons (tCB (rSorted K) (tCons (tOp rCat (tLc (iTup K (tVar 5)) (gName 8) (tTest (tOp _ (tVar 8) (tVar 9))) (tVar 8) [8]) (tLst (tCons (tVar 3) tNil))) tNil)) tNil))) rfl sc_law_fewest.nd rfl rfl (sw_true rfl rfl rfl (by decide +kernel)) ((pi_tup (pv 5))) (blkOk_by (own := [("_law_gone", 9)]) (N := ["_law_rooms", "_law_row", "_law_known", "_law_page", "_law_later", "_law_kept", "_law_some", "_law_many", "_law_one", "_law_gone"]) (sc := defScope (top 43)) (by decide +kernel)) (fun _ _ _ _ _ => (by exact (pg_name (i := 9) sc_law_fewest.nd rfl (Or.inr rfl)))) (fun _ _ _ _ _ => (by exact pts_nil)) (fun _ _ _ _ _ => (by exact (pe_callTy call_tuple_of (by rfl) T.tuple_ (by decide +kernel) (pa_cons (pe_callB cr_sorted (by rfl) T.sorted (by decide +kernel) (pa_cons (pe_op op_cat (pe_lc (own := [("_law_one", 8)]) (g := gName 8) rfl sc_law_fewest.nd ((pi_tup (pv 5))) (blkOk_by (own := [("_law_one", 8)]) (by kernel_rfl)) (fun _ _ _ _ _ => (by exact (pg_name (i := 8) sc_law_fewest.nd rfl (Or.inl rfl)))) (fun _ _ _ _ _ => (by exact (pts_one (pt_cmpR op_ne (pv 8) (pv 9) (nomark _))))) (fun _ _ _ _ _ => (by exact (pv 8)))) (pe_lst (pa_cons (pv 3) pa_nil))) pa_nil)) pa_nil))))))
        pss_nil))))
        pss_nil)
        (pss_one (ps_for PassesOwn.never rfl (pi_list (pv 6)) (pg_name (i := 8) sc_law_fewest.nd rfl (Or.inl rfl))
        (pss_one (ps_dput hu (pv 4) (pv 8) (pe_callB (call_min2 rfl) (by rfl) T.min (by decide +kernel) (pa_cons (pv 7) (pa_cons (pe_dget2 hu (pv 4) (pv 8) (pv 7) ⟨rfl, rfl, rfl, rfl⟩) pa_nil))) rfl)))))))))
        (pss_one (ps_set (i := 2) sc_law_fewest.nd rfl (Or.inr rfl) (pv 4))))))
        (pss_one (ps_ret (pe_callB (cr_min rfl) (by rfl) T.min (by decide +kernel) (pa_cons (pe_lock (pe_lc (own := [("_law_kept", 5)]) (g := gName 5) (tt := tYes) (te := (tDGet (tVar 2) (tVar 5))) rfl sc_law_fewest.nd ((pi_keys (pv 2))) (blkOk_by (own := [("_law_kept", 5)]) (N := ["_law_rooms", "_law_row", "_law_known", "_law_page", "_law_later", "_law_kept", "_law_some", "_law_many", "_law_one", "_law_gone"]) (sc := defScope (top 43)) (by decide +kernel)) (fun _ _ _ _ _ => (by exact (pg_name (i := 5) sc_law_fewest.nd rfl (Or.inl rfl)))) (fun _ _ _ _ _ => (by exact pts_nil)) (fun _ _ _ _ _ => (by exact (pe_dget hu (pv 2) (pv 5) (fun _ _ => rfl)))))) pa_nil)))))), ?_⟩
    have hR1 := hR.1
    have hn0 : 0 < n.toNat := by omega
    refine fun d0 hd0 => ⟨szd rfl, fun e0 he0 => ⟨?_, e0, ky [], rfl, upd_same, ?_⟩⟩
    · exact Same.new he0 _ _ upd_same
    have de0 : d0 ≠ e0 := ne_fresh (H := upd H d0 _) upd_same he0
    have s0 : Same H (upd (upd (upd H d0 (.dT [])) e0 (.tup [])) d0 (.dT (kvT (knownTo n.toNat row 0)))) := Same.put ((Same.new hd0).trans (Same.new he0)) hd0
    refine ⟨_, rfl, r, rfl, ⟨_, s0.seq hS⟩, for_list (K := K) (a := r) (xs := il row) (fun i σ H' => ∃ d, (∃ v3 v4 v5 v6 v7 v8 v9 : Option V, σ = [some (.int n), some (.ref r), some (.ref d), v3, v4, v5, v6, v7, v8, v9]) ∧ Same H H' ∧ H d = none ∧ H' d = some (.dT (kvT (knownTo n.toNat row i)))) ⟨d0, ⟨_, _, _, _, _, _, _, rfl⟩, s0, hd0, upd_same⟩ (fun i σ H' _ h => by obtain ⟨_, _, s, _⟩ := h; exact s.seq hS) ?_ ?_⟩
    · rintro i x σ H1 hx ⟨d, ⟨v3, v4, v5, v6, v7, v8, v9, rfl⟩, s1, hd, hd1⟩
      obtain ⟨p, hp, rfl⟩ := il_get hx
      have hi : i < row.length := (List.getElem?_eq_some_iff.mp hp).1
      have hpl := hR.2 p (List.mem_of_getElem? hp)
      have KO := known_ok hn0 hR.2 i (by omega)
      have ksz := KO.size
      have kst := knownTo_succ (n := n.toNat) hp
      generalize knownTo n.toNat row i = kvs at *
      -- later = {}
      refine fun e he => ?_
      have de : d ≠ e := ne_fresh hd1 he
      have eH : H e = none := Same.back s1 he
      have se := Same.new (o := .dT []) he
      -- for kept in known, locked
      refine ⟨d, _, se _ _ hd1, trivial, fun od => ⟨_, rfl, d, od, rfl, .inr ⟨_, upd_same, ?_⟩⟩⟩
      have F0 : FS H1 (upd (upd H1 e (.dT [])) d (.frz od (.dT (kvT kvs)))) d e od kvs [] := ⟨upd_same, by rw [upd_ne (Ne.symm de), upd_same]; rfl, fun c o nc hc => by rw [upd_ne nc]; exact se _ _ hc⟩
      have hkl : (kvT kvs).length = kvs.length := List.length_map _
      refine for_it (walk_keysT (d := d) (o := od) (kvs := kvT kvs)) (fun j σ H' => (∃ v5 v6 v7 v8 v9 : Option V, σ = [some (.int n), some (.ref r), some (.ref d), some (.int p), some (.ref e), v5, v6, v7, v8, v9]) ∧ FS H1 H' d e od kvs ((kvs.take j).flatMap (fanK n.toNat p))) ⟨⟨_, _, _, _, _, rfl⟩, F0⟩ (fun j σ H' _ h => h.2.hd) ?_ ?_
      · rintro j x σ H2 H2' hj ⟨⟨v5, v6, v7, v8, v9, rfl⟩, F2⟩ ⟨rfl, k0, v0, q, hkv, rfl, hq⟩
        rw [hkl] at hj
        have ej : kvs[j]? = some (kvs[j]'hj) := List.getElem?_eq_getElem hj
        have ekv : (kvT kvs)[j]? = some (ky (kvs[j]'hj).1, V.int ((kvs[j]'hj).2 : Nat)) := by
          unfold kvT
          rw [List.getElem?_map, ej]
          rfl
        have e1 := Option.some.inj (hkv.symm.trans ekv)
        have e2 : k0 = ky (kvs[j]'hj).1 := congrArg Prod.fst e1
        subst e2
        have hm := List.getElem_mem hj
        have so := KO.ok _ hm
        have hv : valV (kvT kvs) (ky (kvs[j]'hj).1) = some (V.int ((kvs[j]'hj).2 : Nat)) := by rw [kvT_val, mem_lkp (C := (kvs[j]'hj).1) (m := (kvs[j]'hj).2) KO.nd hm]; rfl
        rw [take_flat ej]
        have oks : ∀ s ∈ (kvs.take j).flatMap (fanK n.toNat p) ++ fanK n.toNat p (kvs[j]'hj), SetOk n.toNat s.1 := fun s hs => by
          rcases List.mem_append.mp hs with z | z
          · obtain ⟨kv, h1, h2⟩ := List.mem_flatMap.mp z
            exact fan_ok (C := kv.1) (m := kv.2) (KO.ok kv (List.mem_of_mem_take h1)) hpl s h2
          · exact fan_ok (C := (kvs[j]'hj).1) (m := (kvs[j]'hj).2) so hpl s z
        rw [ky_kV] at hq
        generalize (kvs.take j).flatMap (fanK n.toNat p) = src at *
        generalize kvs[j]'hj = kv at *
        obtain ⟨C, m⟩ := kv
        have hq : H2' q = some (.tup (il C)) := hq
        have so : SetOk n.toNat C := so
        have hv : valV (kvT kvs) (ky C) = some (V.int (m : Nat)) := hv
        have cl := so.le
        have nd := rise_nodup so.up
        -- some = [kept]; many = known[kept]
        refine ⟨_, rfl, szd rfl, fun s0 hs0 => ?_⟩
        have sS := Same.new (o := .lst [V.ref q]) hs0
        have F3 := F2.same sS
        have hq3 := sS _ _ hq
        refine ⟨_, rfl, _, rfl, d, _, rfl, .inr ⟨_, ky C, q, .inr ⟨_, F3.hd⟩, rfl, by rw [ky_kV]; exact hq3, hv.symm⟩, ?_⟩
        have dq : q ≠ d := ne_of hq3 F3.hd (by intro z; cases z)
        let M : L2.St → Hp → Prop := fun σ' H' => ∃ (S : Addr) (as : List Addr), (∃ v8 v9 : Option V, σ' = [some (.int n), some (.ref r), some (.ref d), some (.int p), some (.ref e), some (.ref q), some (.ref S), some (.int ((m + costK C p : Nat) : Int)), v8, v9]) ∧ FS H1 H' d e od kvs src ∧ H' S = some (.lst (as.map V.ref)) ∧ TupsAt H' as ((succs n.toNat C p).map il)
        refine ⟨M, ?_, ?_⟩
        · -- if page not in kept
          refine ⟨_, rfl, _, rfl, q, _, rfl, .inr (SqT.of hq3), rfl, flat_il _, _, rfl, ?_⟩
          have e0 : (if true = true then !inV (V.int p) (il C) else inV (V.int p) (il C)) = !decide (p ∈ C) := by rw [if_pos rfl, inV_il]
          rw [e0]
          by_cases hpC : p ∈ C
          · refine ifF (by rw [decide_eq_true hpC]; rfl) ?_
            have es : succs n.toNat C p = [C] := by unfold succs; rw [if_pos hpC]
            have ec : m + costK C p = m := by unfold costK; rw [if_pos hpC]; rfl
            refine ⟨s0, [q], ⟨_, _, by rw [ec]; rfl⟩, F3, upd_same, ?_⟩
            rw [es]
            exact TupsAt.nil.snoc hq3
          · refine ifT (by rw [decide_eq_false hpC]; rfl) ?_
            have ec : m + costK C p = m + 1 := by unfold costK; rw [if_neg hpC]
            -- many = many + 1
            refine ⟨_, rfl, _, _, rfl, rfl, ?_⟩
            have em : ((m : Nat) : Int) + 1 = ((m + costK C p : Nat) : Int) := by rw [ec]; omega
            dsimp only
            rw [em]
            -- some = [tuple(sorted(kept + (page,)))]
            refine ⟨_, rfl, _, rfl, szd rfl, fun u hu => catA_any (Same.new hu _ _ hq3) upd_same (by omega) fun c H4 s4 hc4 => ?_⟩
            have sU := Same.new (o := .tup [V.int p]) hu
            have F4 := (F3.same sU).same s4
            refine ⟨c, C ++ [p], rfl, SqT.of hc4, by rw [List.length_append]; simp; omega, fun ns z pm so2 hz => ?_⟩
            have ens := srt_is pm so2
            subst ens
            have sZ := Same.new (o := .lst ((srt (C ++ [p])).map V.int)) hz
            refine ⟨z, _, rfl, .inl ⟨SqL.of upd_same, fun t ht => ?_⟩⟩
            have sT := Same.new (o := .tup ((srt (C ++ [p])).map V.int)) ht
            refine ⟨szd rfl, fun s1 hs1 => ?_⟩
            have sS1 := Same.new (o := .lst [V.ref t]) hs1
            have F5 := ((F4.same sZ).same sT).same sS1
            have hq5 := sS1 _ _ (sT _ _ (sZ _ _ (s4 _ _ (sU _ _ hq3))))
            have ht5 := sS1 _ _ (upd_same (H := upd H4 z (.lst ((srt (C ++ [p])).map V.int))) (a := t) (o := .tup ((srt (C ++ [p])).map V.int)))
            -- if len(kept) == rooms
            refine ⟨_, rfl, q, _, rfl, .inr (SqT.of hq5), _, rfl, rfl, _, rfl, ?_⟩
            by_cases hl : C.length = n.toNat
            · refine ifT (by rw [il_len]; exact decide_eq_true (congrArg V.int (by omega))) ?_
              -- one goes
              have es : succs n.toNat C p = C.map fun g => srt (C.filter (· != g) ++ [p]) := by unfold succs; rw [if_neg hpC, if_pos hl]
              refine ⟨_, rfl, q, rfl, ⟨_, SqT.of hq5⟩, fun D hD => ?_⟩
              have Dd : d ≠ D := ne_fresh F5.hd hD
              have De : e ≠ D := ne_fresh F5.he hD
              have Dq : q ≠ D := ne_fresh hq5 hD
              have FD : ∀ {H' : Hp} {o : HO}, FS H1 H' d e od kvs src → H1 D = none → FS H1 (upd H' D o) d e od kvs src := fun h z => ⟨by rw [upd_ne Dd]; exact h.hd, by rw [upd_ne De]; exact h.he, fun c o nc hc => by rw [upd_ne (ne_fresh hc z)]; exact h.kp c o nc hc⟩
              have D1 : H1 D = none := by
                cases z : H1 D with
                | none => rfl
                | some o =>
                  by_cases nd : D = d
                  · exact absurd nd (Ne.symm Dd)
                  · rw [F5.kp D o nd z] at hD
                    cases hD
              refine lc_tup (K := K) (a := q) (xs := il C) (fun t H' => FS H1 H' d e od kvs src ∧ H' q = some (.tup (il C)) ∧ ∃ as : List Addr, H' D = some (.lst (as.map V.ref)) ∧ TupsAt H' as (((C.take t).map fun g => srt (C.filter (· != g) ++ [p])).map il)) ⟨FD F5 D1, by rw [upd_ne Dq]; exact hq5, [], upd_same, TupsAt.nil⟩ (fun t H' _ h => SqT.of h.2.1) ?_ ?_
              · rintro t y H6 hy ⟨F6, hq6, as, hD6, ta⟩
                obtain ⟨g, hg, rfl⟩ := il_get hy
                refine ⟨rfl, _, rfl, q, rfl, ⟨_, SqT.of hq6⟩, fun E hE => ?_⟩
                have sE := Same.new (o := .lst []) hE
                refine lc_tup (K := K) (a := q) (xs := il C) (fun u H' => H' E = some (.lst (il ((C.take u).filter (· != g)))) ∧ Same H6 H') ⟨upd_same, sE⟩ (fun u H' _ h => SqT.of (h.2 _ _ hq6)) ?_ ?_
                · rintro u y H7 hy ⟨hE7, s7⟩
                  obtain ⟨x, hx, rfl⟩ := il_get hy
                  have hle := List.length_filter_le (· != g) (C.take u)
                  rw [List.length_take] at hle
                  rw [take_snoc hx, List.filter_append]
                  refine ⟨rfl, _, rfl, _, rfl, rfl, _, rfl, ?_⟩
                  by_cases q1 : x = g
                  · refine ifF (by rw [decide_eq_true (congrArg V.int q1)]; rfl) ⟨?_, s7⟩
                    simpa [q1] using hE7
                  · refine ifT (by rw [decide_eq_false (fun z => q1 (by injection z))]; rfl) ⟨_, rfl, _, hE7, szl (by rw [il_len]; omega), ?_, Same.put s7 hE⟩
                    rw [upd_same, il_snoc]
                    simp [q1]
                · rintro H7 ⟨hE7, s7⟩
                  rw [List.take_of_length_le (by rw [il_len]; exact Nat.le_refl _)] at hE7
                  have hfl := List.length_filter_le (· != g) C
                  refine ⟨_, rfl, szd rfl, fun w0 hw => ?_⟩
                  have sW := Same.new (o := .lst [V.int p]) hw
                  refine ⟨E, w0, _, _, rfl, rfl, sW _ _ hE7, upd_same, sz (by rw [il_len]; simp; omega), fun z hz => ?_⟩
                  have sZ := Same.new (o := .lst (il (C.filter (· != g)) ++ [V.int p])) hz
                  refine ⟨z, C.filter (· != g) ++ [p], rfl, ?_, by rw [List.length_append]; simp; omega, fun ns z2 pm so2 hz2 => ?_⟩
                  · refine SqL.of ?_
                    rw [upd_same]
                    show some (HO.lst ((C.filter (· != g)).map V.int ++ [p].map V.int)) = some (HO.lst ((C.filter (· != g) ++ [p]).map V.int))
                    rw [List.map_append]
                  have ens := srt_is pm so2
                  subst ens
                  have sZ2 := Same.new (o := .lst ((srt (C.filter (· != g) ++ [p])).map V.int)) hz2
                  refine ⟨z2, _, rfl, .inl ⟨SqL.of upd_same, fun t2 ht2 => ?_⟩⟩
                  have sT := Same.new (o := .tup ((srt (C.filter (· != g) ++ [p])).map V.int)) ht2
                  have s68 := (((s7.trans sW).trans sZ).trans sZ2).trans sT
                  have hD8 := s68 _ _ hD6
                  have hal : as.length ≤ t := by have := ta.len; rw [List.length_map, List.length_map, List.length_take] at this; omega
                  have htC : t < C.length := (List.getElem?_eq_some_iff.mp hg).1
                  refine ⟨_, hD8, szl (by rw [List.length_map]; omega), FD (F6.same s68) D1, by rw [upd_ne Dq]; exact s68 _ _ hq6, as ++ [t2], by rw [upd_same, List.map_append]; rfl, ?_⟩
                  rw [take_snoc hg, List.map_append, List.map_append]
                  refine TupsAt.put ((ta.same s68).snoc (x := il (srt (C.filter (· != g) ++ [p]))) upd_same) hD8 (fun u z => by cases z)
              · rintro H6 ⟨F6, hq6, as, hD6, ta⟩
                rw [List.take_of_length_le (by rw [il_len]; exact Nat.le_refl _)] at ta
                refine ⟨D, as, ⟨_, _, rfl⟩, F6, hD6, ?_⟩
                rw [es]
                exact ta
            · refine ifF (by rw [il_len]; exact decide_eq_false (fun z => by injection z with z; omega)) ?_
              have es : succs n.toNat C p = [srt (C ++ [p])] := by unfold succs; rw [if_neg hpC, if_neg hl]
              refine ⟨s1, [t], ⟨_, _, rfl⟩, F5, upd_same, ?_⟩
              rw [es]
              exact TupsAt.nil.snoc ht5
        · rintro σ H4 ⟨S, as, ⟨v8, v9, rfl⟩, F4, hS4, ta⟩
          -- for one in some
          have hln : ((succs n.toNat C p).map il).length = (succs n.toNat C p).length := List.length_map _
          refine ⟨_, rfl, S, rfl, ⟨_, SqL.of hS4⟩, for_list (K := K) (a := S) (xs := as.map V.ref) (fun t σ H' => (∃ v8 v9 : Option V, σ = [some (.int n), some (.ref r), some (.ref d), some (.int p), some (.ref e), some (.ref q), some (.ref S), some (.int ((m + costK C p : Nat) : Int)), v8, v9]) ∧ FS H1 H' d e od kvs (src ++ (fanK n.toNat p (C, m)).take t) ∧ H' S = some (.lst (as.map V.ref)) ∧ TupsAt H' as ((succs n.toNat C p).map il)) ⟨⟨_, _, rfl⟩, by rw [List.take_zero, List.append_nil]; exact F4, hS4, ta⟩ (fun t σ H' _ h => SqL.of h.2.2.1) ?_ ?_⟩
          · rintro t y σ H5 hy ⟨⟨v8, v9, rfl⟩, F5, hS5, ta5⟩
            rw [List.getElem?_map] at hy
            cases ea : as[t]? with
            | none => rw [ea] at hy; cases hy
            | some a =>
              rw [ea] at hy
              cases Option.some.inj hy
              have ht : t < (succs n.toNat C p).length := by rw [← hln, ← ta5.len]; exact (List.getElem?_eq_some_iff.mp ea).1
              have ex : (succs n.toNat C p)[t]? = some ((succs n.toNat C p)[t]'ht) := List.getElem?_eq_getElem ht
              have ha : H5 a = some (.tup (il ((succs n.toNat C p)[t]'ht))) := ta5.at_ t a _ ea (by rw [List.getElem?_map, ex]; rfl)
              have ef : (fanK n.toNat p (C, m))[t]? = some ((succs n.toNat C p)[t]'ht, m + costK C p) := by
                unfold fanK
                rw [List.getElem?_map]
                show Option.map _ ((succs n.toNat C p)[t]?) = _
                rw [ex]
                rfl
              rw [take_snoc ef, ← List.append_assoc]
              have szm := mins_size (n := n.toNat) (src := src ++ (fanK n.toNat p (C, m)).take t) fun s hs => by
                rcases List.mem_append.mp hs with z | z
                · exact oks s (List.mem_append_left _ z)
                · exact oks s (List.mem_append_right _ (List.mem_of_mem_take z))
              generalize (succs n.toNat C p)[t]'ht = X at *
              generalize src ++ (fanK n.toNat p (C, m)).take t = src1 at *
              have ha' : H5 a = some (.tup ((ky X).map kV)) := by rw [ky_kV]; exact ha
              have es : S ≠ e := ne_of hS5 F5.he (by intro z; cases z)
              refine ⟨_, rfl, _, rfl, e, rfl, .inr ⟨_, .inl F5.he⟩, _, rfl, _, rfl, _, DGet.t F5.he ha', ?_⟩
              have eg : (valV (kvT (mins src1)) (ky X)).getD (V.int ((m + costK C p : Nat) : Int)) = V.int (((lkp (mins src1) X).getD (m + costK C p) : Nat) : Int) := by
                rw [kvT_val]
                cases lkp (mins src1) X <;> rfl
              rw [eg]
              refine ⟨_, _, rfl, ?_⟩
              have emn : (if (((lkp (mins src1) X).getD (m + costK C p) : Nat) : Int) < ((m + costK C p : Nat) : Int) then (((lkp (mins src1) X).getD (m + costK C p) : Nat) : Int) else ((m + costK C p : Nat) : Int)) = ((min (m + costK C p) ((lkp (mins src1) X).getD (m + costK C p)) : Nat) : Int) := by
                split <;> omega
              rw [emn]
              refine ⟨_, rfl, _, rfl, e, _, rfl, DPut.t F5.he ha' (szl (by unfold kvT; rw [List.length_map]; omega)), ?_⟩
              rw [kvT_put]
              have ep : putN (mins src1) X (min (m + costK C p) ((lkp (mins src1) X).getD (m + costK C p))) = mins (src1 ++ [(X, m + costK C p)]) := by rw [mins_snoc]; rfl
              rw [ep]
              refine ⟨⟨_, _, rfl⟩, ⟨?_, upd_same, fun c o nc hc => ?_⟩, by rw [upd_ne es]; exact hS5, ta5.put F5.he (fun u z => by cases z)⟩
              · rw [upd_ne de]; exact F5.hd
              · rw [upd_ne (ne_fresh hc he)]; exact F5.kp c o nc hc
          · rintro σ H5 ⟨⟨v8, v9, rfl⟩, F5, hS5, ta5⟩
            rw [List.take_of_length_le (by unfold fanK; rw [List.length_map, List.length_map, ta5.len, hln]; exact Nat.le_refl _)] at F5
            exact ⟨⟨_, _, _, _, _, rfl⟩, F5⟩
      · rintro σ H2 ⟨⟨v5, v6, v7, v8, v9, rfl⟩, F2⟩
        rw [hkl, List.take_length] at F2
        refine ⟨F2.hd, _, rfl, e, ⟨_, _, _, _, _, _, _, rfl⟩, fun c o hc => ?_, eH, ?_⟩
        · by_cases nc : c = d
          · rw [nc, hd] at hc; cases hc
          · rw [upd_ne nc]; exact F2.kp c o nc (s1 _ _ hc)
        · rw [upd_ne (Ne.symm de), F2.he, kst]
          rfl
    · rintro σ H1 ⟨d, ⟨v3, v4, v5, v6, v7, v8, v9, rfl⟩, s1, hd, hd1⟩
      rw [il_len] at hd1
      have KO := known_ok hn0 hR.2 row.length (Nat.le_refl _)
      have kne := known_ne hn0 KO
      have ksz := KO.size
      have kb := fun {m : Int} => known_best hn0 (m := m) KO
      generalize knownTo n.toNat row row.length = kvs at *
      have hkl : (kvT kvs).length = kvs.length := List.length_map _
      refine ⟨d, _, hd1, trivial, fun od => ⟨_, rfl, d, od, rfl, .inr ⟨_, upd_same, fun D hD => ?_⟩⟩⟩
      have Dd : D ≠ d := by intro z; rw [z, upd_same] at hD; cases hD
      have hDH : H1 D = none := by rw [upd_ne Dd] at hD; exact hD
      refine lc_it (walk_keysT (d := d) (o := od) (kvs := kvT kvs)) (fun j H' => H' D = some (.lst (il ((kvs.take j).map fun kv => ((kv.2 : Nat) : Int)))) ∧ H' d = some (.frz od (.dT (kvT kvs))) ∧ ∀ c o, c ≠ d → H1 c = some o → H' c = some o) ?_ (fun j H' _ h => h.2.1) ?_ ?_
      · refine ⟨upd_same, by rw [upd_ne (Ne.symm Dd), upd_same], fun c o h1 h2 => ?_⟩
        rw [upd_ne (ne_fresh h2 hDH), upd_ne h1]
        exact h2
      · rintro j x H2 H3 hj ⟨hD2, hd2, hk⟩ ⟨rfl, k0, v0, q, hkv, rfl, hq⟩
        rw [hkl] at hj
        have ej : kvs[j]? = some (kvs[j]'hj) := List.getElem?_eq_getElem hj
        have ekv : (kvT kvs)[j]? = some (ky (kvs[j]'hj).1, V.int ((kvs[j]'hj).2 : Nat)) := by
          unfold kvT
          rw [List.getElem?_map, ej]
          rfl
        have e1 := Option.some.inj (hkv.symm.trans ekv)
        have e2 : k0 = ky (kvs[j]'hj).1 := congrArg Prod.fst e1
        subst e2
        have hm := List.getElem_mem hj
        have hv : valV (kvT kvs) (ky (kvs[j]'hj).1) = some (V.int ((kvs[j]'hj).2 : Nat)) := by rw [kvT_val, mem_lkp (C := (kvs[j]'hj).1) (m := (kvs[j]'hj).2) KO.nd hm]; rfl
        rw [take_snoc ej, List.map_append]
        generalize kvs[j]'hj = kv at *
        refine ⟨rfl, _, rfl, _, rfl, d, _, rfl, .inr ⟨_, ky kv.1, q, .inr ⟨_, hd2⟩, rfl, hq, hv.symm⟩, _, hD2, szl (by rw [il_len, List.length_map, List.length_take]; omega), ?_, ?_, fun c o h1 h2 => ?_⟩
        · rw [upd_same, il_snoc]; rfl
        · rw [upd_ne (Ne.symm Dd)]; exact hd2
        · rw [upd_ne (ne_fresh h2 hDH)]; exact hk c o h1 h2
      · rintro H2 ⟨hD2, hd2, hk⟩
        rw [hkl, List.take_length] at hD2
        refine ⟨hd2, D, _, rfl, SqL.of (xs := il (kvs.map fun kv => ((kv.2 : Nat) : Int))) (by rw [upd_ne Dd]; exact hD2), by rw [List.length_map]; exact List.length_pos_iff.mpr kne, fun m hm hle => ?_⟩
        rw [kb hm hle]
        refine k _ fun c o hc => ?_
        by_cases nc : c = d
        · rw [nc, hd] at hc; cases hc
        · rw [upd_ne nc]; exact hk c o nc (s1 _ _ hc)
end
end CK

/-! The law's own dial: a dict. -/
namespace CK
open PySem PySem.Spec PyProof.Rows L2
abbrev dkv (a b : Addr) (h k : Int) : List (Key × V) := [(Sum.inr "pages", .ref a), (Sum.inr "marks", .ref b), (Sum.inr "hand", .int h), (Sum.inr "lacks", .int k)]
section
variable {H : Hp} {d a b : Addr} {h k : Int}
theorem dg_pages (e : H d = some (.dK (dkv a b h k))) : DGet H d (.str "pages") (some (.ref a)) := DGet.k (k := Sum.inr "pages") e
theorem dg_marks (e : H d = some (.dK (dkv a b h k))) : DGet H d (.str "marks") (some (.ref b)) := DGet.k (k := Sum.inr "marks") e
theorem dg_hand (e : H d = some (.dK (dkv a b h k))) : DGet H d (.str "hand") (some (.int h)) := DGet.k (k := Sum.inr "hand") e
theorem dg_lacks (e : H d = some (.dK (dkv a b h k))) : DGet H d (.str "lacks") (some (.int k)) := DGet.k (k := Sum.inr "lacks") e
theorem dp_hand {j : Int} (e : H d = some (.dK (dkv a b h k))) : DPut H d (.str "hand") (.int j) (upd H d (.dK (dkv a b j k))) := DPut.k (k := Sum.inr "hand") e (by show 4 < sizeLine; decide)
theorem dp_lacks {j : Int} (e : H d = some (.dK (dkv a b h k))) : DPut H d (.str "lacks") (.int j) (upd H d (.dK (dkv a b h j))) := DPut.k (k := Sum.inr "lacks") e (by show 4 < sizeLine; decide)
end
theorem mk_dkv (a b : Addr) (h k : Int) : mergeK [] (dkv a b h k) = dkv a b h k := rfl
structure LDial (H : Hp) (d a b : Addr) (s : DS) : Prop where
  ne : a ≠ b
  ob : H d = some (.dK (dkv a b s.hand s.lacks))
  he : H a = some (.lst (HL s.held))
  ma : H b = some (.lst (BL s.marks))
theorem LDial.pa {H : Hp} {p a b : Addr} {s : DS} (D : LDial H p a b s) : p ≠ a := ne_of D.ob D.he (by intro z; cases z)
theorem LDial.pb {H : Hp} {p a b : Addr} {s : DS} (D : LDial H p a b s) : p ≠ b := ne_of D.ob D.ma (by intro z; cases z)
theorem LDial.but {S : List Addr} {H H' : Hp} {p a b : Addr} {s : DS} (D : LDial H p a b s) (k : But S H H') (h1 : p ∉ S) (h2 : a ∉ S) (h3 : b ∉ S) : LDial H' p a b s :=
  ⟨D.ne, k _ _ D.ob h1, k _ _ D.he h2, k _ _ D.ma h3⟩
theorem LDial.same {H H' : Hp} {p a b : Addr} {s : DS} (D : LDial H p a b s) (k : Same H H') : LDial H' p a b s := D.but (S := []) (But.of k) (by simp) (by simp) (by simp)
theorem LDial.off {H : Hp} {p a b t : Addr} {s : DS} (D : LDial H p a b s) (h : H t = none) : t ∉ [p, a, b] := by
  have z1 := ne_fresh D.ob h
  have z2 := ne_fresh D.he h
  have z3 := ne_fresh D.ma h
  simp [Ne.symm z1, Ne.symm z2, Ne.symm z3]
def spLDial : Sp := fun vs H Q _ => ∃ n : Int, vs = [.int n] ∧ 1 ≤ n ∧ n ≤ 8 ∧
  ∀ (d a b : Addr) (H' : Hp), H d = none → H a = none → H b = none → LDial H' d a b (DS.new n.toNat) → Same H H' → Q (.ref d) H'
def spLAsk : Sp := fun vs H Q _ => ∃ (p a b : Addr) (s : DS) (n : Nat) (pg : Int), vs = [.ref p, .int pg] ∧ LDial H p a b s ∧ s.WF n ∧ n ≤ 8 ∧
  ∀ (t l : Addr) (H' : Hp), H t = none → H l = none → t ≠ l → H' t = some (.tup [.bl (s.tells pg).1, pgV (s.tells pg).2.1, .ref l]) → H' l = some (.lst (NL (s.tells pg).2.2)) → LDial H' p a b (s.ask pg) → But [p, a, b] H H' → Q (.ref t) H'
section
variable {P : Program} {w : World} {K : PySem.W.Frag} {mg : Str → Option Value} {base : Heap}
theorem sc_law_dial : FnScope ["_law_rooms"] ["_law_rooms"] (defScope (top 40)) := ⟨rfl, rfl, rfl, by decide +kernel, rfl, by decide +kernel, by decide +kernel⟩
theorem ok_law_dial (T : Prog K mg) : FnOk P w K mg base CX0 1 T.law_dial.f T.law_dial.fd ["_law_rooms"] spLDial := by
  refine T.law_dial.fn.ok sc_law_dial (fun vs H Q E h => ?len) (fun cdv A outer s H vs Q E hr h => ?body)
  case len =>
    obtain ⟨n, rfl, _⟩ := h
    rfl
  case body =>
    have hu := hu_of hr
    obtain ⟨n, rfl, n1, n8, k⟩ := h
    refine ⟨_, PSs.nox (pss_one (ps_ret (pe_disp (pps_cons pe_str (pe_op op_rep (pe_lst (pa_cons pe_non pa_nil)) (pv 0)) (pps_cons pe_str (pe_op op_rep (pe_lst (pa_cons pe_bl pa_nil)) (pv 0)) (pps_cons pe_str pe_int (pps_cons pe_str pe_int pps_nil)))) (by rfl) (by rfl) (fun z => by cases z) (by decide)))), ?_⟩
    intro d hd
    refine ⟨szd rfl, fun e he => ?_⟩
    refine ⟨_, rfl, e, n, _, rfl, rfl, upd_same, by omega, by omega, sz (by show 1 * n.toNat ≤ 100000; omega), fun a ha => ?_⟩
    refine ⟨szd rfl, fun e2 he2 => ?_⟩
    refine ⟨_, rfl, e2, n, _, rfl, rfl, upd_same, by omega, by omega, sz (by show 1 * n.toNat ≤ 100000; omega), fun b hb => ?_⟩
    have s1 : Same H (upd H d (.dK [])) := Same.new hd
    have s2 := Same.new (o := .lst [.non]) he
    have s3 := Same.new (o := .lst (List.replicate n.toNat [V.non]).flatten) ha
    have s4 := Same.new (o := .lst [.bl false]) he2
    have s5 := Same.new (o := .lst (List.replicate n.toNat [V.bl false]).flatten) hb
    have d1 : upd H d (.dK []) d = some (.dK []) := upd_same
    have da : d ≠ a := ne_fresh (s2 _ _ d1) ha
    have db : d ≠ b := ne_fresh (s4 _ _ (s3 _ _ (s2 _ _ d1))) hb
    have ab : a ≠ b := ne_fresh (s4 _ _ upd_same) hb
    refine ⟨s5 _ _ (s4 _ _ (s3 _ _ (s2 _ _ d1))), dkv a b 0 0, rfl, by show 4 ≤ 15; decide, ?_⟩
    rw [mk_dkv]
    have sA := ((s2.trans s3).trans s4).trans s5
    refine k d a b _ hd (Same.back (s1.trans s2) ha) (Same.back (((s1.trans s2).trans s3).trans s4) hb) ⟨ab, upd_same, ?_, ?_⟩ ?_
    · rw [upd_ne (Ne.symm da)]
      refine (s5 _ _ (s4 _ _ upd_same)).trans ?_
      rw [rep_one, hl_new]
    · rw [upd_ne (Ne.symm db), upd_same, rep_one, bl_new]
    · exact Same.put (s1.trans sA) hd
theorem sc_law_ask : FnScope ["_law_dial_here", "_law_page", "_law_rooms", "_law_passed", "_law_at", "_law_gone"] ["_law_dial_here", "_law_page"] (defScope (top 41)) := ⟨rfl, rfl, rfl, by decide +kernel, rfl, by decide +kernel, by decide +kernel⟩
theorem ok_law_ask (T : Prog K mg) : FnOk P w K mg base CX0 1 T.law_ask.f T.law_ask.fd ["_law_dial_here", "_law_page"] spLAsk := by
  refine T.law_ask.fn.ok sc_law_ask (fun vs H Q E h => ?len) (fun cdv A outer s H vs Q E hr h => ?body)
  case len =>
    obtain ⟨p, a, b, s, n, pg, rfl, _⟩ := h
    rfl
  case body =>
    have hu := hu_of hr
    obtain ⟨p, a, b, s, n, pg, rfl, D, W, n8, k⟩ := h
    refine ⟨_, PSs.nox (pss_cons (ps_set (i := 2) sc_law_ask.nd rfl (Or.inl rfl) (pe_callB call_len_seq (by rfl) T.len PySem.boot_len (pa_cons (pe_dget hu (pv 0) pe_str (fun _ _ => rfl)) pa_nil)))
        (pss_cons (ps_if (pt_cmpR op_in_seq (pv 1) (pe_dget hu (pv 0) pe_str (fun _ _ => rfl)) (by rfl))
        (pss_cons (ps_asg pe_bl (pg_sub (pe_dget hu (pv 0) pe_str (fun _ _ => rfl)) (pe_bm PySem.F.plainAttrs_list PySem.F.slot_list_index PySem.F.type_list_index mt_index (pe_dget hu (pv 0) pe_str (fun _ _ => rfl)) (pa_cons (pv 1) pa_nil)) set_list))
        (pss_one (ps_ret (pe_tup (pa_cons pe_bl (pa_cons pe_non (pa_cons (pe_lst pa_nil) pa_nil)))))))
        pss_nil)
        (pss_cons (ps_set (i := 3) sc_law_ask.nd rfl (Or.inl rfl) (pe_lst pa_nil))
        (pss_cons (ps_set (i := 4) sc_law_ask.nd rfl (Or.inl rfl) (pe_dget hu (pv 0) pe_str (fun _ _ => rfl)))
        (pss_cons (ps_while PassesOwn.never (pt_val (pe_ix ix_list (pe_dget hu (pv 0) pe_str (fun _ _ => rfl)) (pv 4) (fun _ _ => rfl)))
        (pss_cons (ps_asg pe_bl (pg_sub (pe_dget hu (pv 0) pe_str (fun _ _ => rfl)) (pv 4) set_list))
        (pss_cons (ps_expr (pe_bm PySem.F.plainAttrs_list PySem.F.slot_list_append PySem.F.type_list_append mt_append (pv 3) (pa_cons (pv 4) pa_nil)))
        (pss_one (ps_set (i := 4) sc_law_ask.nd rfl (Or.inl rfl) (pe_op op_mod (pe_op op_add (pv 4) pe_int) (pv 2)))))))
        (pss_cons (ps_set (i := 5) sc_law_ask.nd rfl (Or.inl rfl) (pe_ix ix_list (pe_dget hu (pv 0) pe_str (fun _ _ => rfl)) (pv 4) (fun _ _ => rfl)))
        (pss_cons (ps_asg (pv 1) (pg_sub (pe_dget hu (pv 0) pe_str (fun _ _ => rfl)) (pv 4) set_list))
        (pss_cons (ps_asg pe_bl (pg_sub (pe_dget hu (pv 0) pe_str (fun _ _ => rfl)) (pv 4) set_list))
        (pss_cons (ps_dput hu (pv 0) pe_str (pe_op op_mod (pe_op op_add (pv 4) pe_int) (pv 2)) rfl)
        (pss_cons (ps_dput hu (pv 0) pe_str (pe_op op_add (pe_dget hu (pv 0) pe_str (fun _ _ => rfl)) pe_int) rfl)
        (pss_one (ps_ret (pe_tup (pa_cons pe_bl (pa_cons (pv 5) (pa_cons (pv 3) pa_nil)))))))))))))))), ?_⟩
    have hp := D.ob
    have pb := D.pb
    have pa := D.pa
    -- rooms = len(d['pages'])
    refine ⟨_, rfl, p, _, rfl, dg_pages hp, a, _, rfl, .inl (SqL.of D.he), ?_⟩
    -- if page in d['pages']
    refine ⟨_, rfl, _, rfl, p, _, rfl, dg_pages hp, a, _, rfl, .inl (SqL.of D.he), rfl, flat_hl _, _, rfl, ?_⟩
    have e0 : (if false = true then !inV (V.int pg) (HL s.held) else inV (V.int pg) (HL s.held)) = decide (some pg ∈ s.held) := by
      rw [if_neg (by simp), inV_hl]
    by_cases hin : some pg ∈ s.held
    · refine ifT (by rw [e0]; exact decide_eq_true hin) ?_
      have eT : s.tells pg = (false, none, []) := by unfold DS.tells; rw [if_pos hin]
      have eA : s.ask pg = s.hit pg := by unfold DS.ask; rw [if_pos hin]
      rw [eT, eA] at k
      have hj : s.held.idxOf (some pg) < n := by rw [← W.h]; exact List.idxOf_lt_length_of_mem hin
      refine ⟨_, rfl, p, _, rfl, dg_marks hp, _, rfl, p, _, rfl, dg_pages hp, .inl ⟨rfl, _, SqL.of D.he⟩, _, rfl, a, _, _, s.held.idxOf (some pg), _, rfl, rfl, SqL.of D.he, rfl, flat_hl _, hl_at (idx_at hin), ?_, ?_, ?_⟩
      · rw [eqV_pg]; exact decide_eq_true rfl
      · intro m z' hm hz
        rw [List.getElem?_map] at hz
        cases q : s.held[m]? with
        | none => rw [q] at hz; cases hz
        | some y =>
          rw [q] at hz
          have ez : pgV y = z' := Option.some.inj hz
          rw [← ez, eqV_pg]
          exact decide_eq_false (idx_no hm q)
      refine ⟨b, _, _, _, rfl, rfl, D.ma, ixn rfl (by simp [W.m]; exact hj), ?_⟩
      rw [bl_set]
      refine ⟨szd rfl, fun l hl => ⟨szd rfl, fun t ht => ?_⟩⟩
      have s1 : But [p, a, b] H (upd H b (.lst (BL (s.marks.set (s.held.idxOf (some pg)) true)))) := But.put (by simp)
      have lb : l ≠ b := by intro z; rw [z, upd_same] at hl; cases hl
      have tb : t ≠ b := by intro z; rw [z, upd_ne (Ne.symm lb), upd_same] at ht; cases ht
      have tl : t ≠ l := by intro z; rw [z, upd_same] at ht; cases ht
      have hl' : H l = none := by rw [upd_ne lb] at hl; exact hl
      have ht' : H t = none := by rw [upd_ne tl, upd_ne tb] at ht; exact ht
      have hit : LDial (upd H b (.lst (BL (s.marks.set (s.held.idxOf (some pg)) true)))) p a b (s.hit pg) :=
        ⟨D.ne, by rw [upd_ne pb]; exact hp, by rw [upd_ne D.ne]; exact D.he, upd_same⟩
      exact k t l _ ht' hl' tl upd_same (by rw [upd_ne (Ne.symm tl)]; exact upd_same) ((hit.same (Same.new hl)).same (Same.new ht)) ((s1.trans (But.new hl)).trans (But.new ht))
    refine ifF (by rw [e0]; exact decide_eq_false hin) ?_
    have eT : s.tells pg = (true, (s.held[s.pass.2.1]?).getD none, s.pass.2.2) := by unfold DS.tells; rw [if_neg hin]
    have eA : s.ask pg = s.lack pg := by unfold DS.ask; rw [if_neg hin]
    rw [eT, eA] at k
    -- passed = []; at = d['hand']
    refine ⟨szd rfl, fun l hl => ?_⟩
    have s0 : Same H (upd H l (.lst [])) := Same.new hl
    have lS := D.off hl
    have lp : l ≠ p := by intro z; rw [z] at lS; simp at lS
    have la : l ≠ a := by intro z; rw [z] at lS; simp at lS
    have lb : l ≠ b := by intro z; rw [z] at lS; simp at lS
    refine ⟨_, rfl, p, _, rfl, dg_hand (s0 _ _ hp), ?_⟩
    have hcm : s.marks.count true ≤ 8 := Nat.le_trans List.count_le_length (by rw [W.m]; exact n8)
    let St : Nat → L2.St → Hp → Prop := fun c σ H' => ∃ (m : List Bool) (h : Nat) (acc : List Nat), σ = [some (.ref p), some (.int pg), some (.int ((HL s.held).length : Int)), some (.ref l), some (.int (h : Int)), none] ∧ PassInv s.pass m h acc ∧ m.length = n ∧ h < n ∧ c = m.count true ∧ acc.length + c = s.marks.count true ∧
      LDial H' p a b { s with marks := m } ∧ H' l = some (.lst (NL acc)) ∧ But [p, a, b] H H'
    refine ⟨St, ⟨_, s.marks, s.hand, [], rfl, PassInv.start _ _, W.m, W.n, rfl, by simp, D.same s0, upd_same, But.of s0⟩, ?_⟩
    rintro c σ H1 ⟨m, h, acc, rfl, I, hm, hh, rfl, hc, D1, hl1, k1⟩
    have hat : m[h]? = some (m[h]'(by omega)) := List.getElem?_eq_getElem _
    refine ⟨_, rfl, p, _, rfl, dg_marks D1.ob, _, rfl, b, _, _, _, rfl, rfl, SqL.of D1.ma, atI_nat (bl_at hat), _, rfl, ?_⟩
    by_cases ht : m[h]'(by omega) = true
    · rw [ht] at hat ⊢
      refine iteT ⟨fun σ' H' => ∃ c', c' < m.count true ∧ St c' σ' H', fun σ' H' q => q, ?_⟩
      -- d['marks'][at] = False
      refine ⟨_, rfl, p, _, rfl, dg_marks D1.ob, _, rfl, b, _, _, _, rfl, rfl, D1.ma, ixn rfl (by simp; omega), ?_⟩
      rw [bl_set]
      have hl2 : upd H1 b (.lst (BL (m.set h false))) l = some (.lst (NL acc)) := by rw [upd_ne lb]; exact hl1
      -- passed.append(at)
      refine ⟨_, rfl, .inl ⟨rfl, _, SqL.of hl2⟩, _, rfl, l, _, _, rfl, rfl, hl2, szl (by simp; omega), ?_⟩
      -- at = (at + 1) % rooms
      have hn0 : 0 < n := by omega
      refine ⟨_, rfl, _, _, rfl, rfl, _, rfl, _, _, rfl, rfl, int0 (by simp [W.h]; omega), ?_⟩
      have cs := count_set hat
      have e1 : (((h : Nat) : Int) + 1) % (((HL s.held).length : Nat) : Int) = (((h + 1) % m.length : Nat) : Int) := by
        rw [Int.natCast_emod]
        simp [W.h, hm]
      refine ⟨_, by omega, m.set h false, (h + 1) % m.length, acc ++ [h], ?_, I.go hat, by rw [List.length_set]; exact hm, by rw [hm]; exact Nat.mod_lt _ hn0, rfl, by rw [List.length_append]; simp; omega, ⟨D1.ne, ?_, ?_, ?_⟩, ?_, ?_⟩
      · rw [← e1]; rfl
      · rw [upd_ne (Ne.symm lp), upd_ne pb]; exact D1.ob
      · rw [upd_ne (Ne.symm la), upd_ne D1.ne]; exact D1.he
      · rw [upd_ne (Ne.symm lb), upd_same]
      · rw [upd_same]
        show _ = some (HO.lst ((acc ++ [h]).map fun n : Nat => V.int (n : Int)))
        rw [List.map_append]
        rfl
      · intro c o hc hn
        have hn' : c ≠ p ∧ c ≠ a ∧ c ≠ b := by simpa using hn
        rw [upd_ne (ne_fresh hc hl), upd_ne hn'.2.2]
        exact k1 c o hc hn
    · have hf : m[h]'(by omega) = false := by simpa using ht
      rw [hf] at hat ⊢
      have e := I.end hat
      refine iteF ?_
      -- gone = d['pages'][at]
      have hlt : h < s.held.length := by rw [W.h]; exact hh
      have hga : s.held[h]? = some (s.held[h]'hlt) := List.getElem?_eq_getElem _
      rw [e] at k
      rw [hga] at k
      refine ⟨_, rfl, p, _, rfl, dg_pages D1.ob, _, rfl, a, _, _, _, rfl, rfl, SqL.of D1.he, atI_nat (hl_at hga), ?_⟩
      -- d['pages'][at] = page
      refine ⟨_, rfl, _, rfl, p, _, rfl, dg_pages D1.ob, _, rfl, a, _, _, _, rfl, rfl, D1.he, ixn rfl (by simp; exact hlt), ?_⟩
      rw [hl_set]
      have hp2 : upd H1 a (.lst (HL (s.held.set h (some pg)))) p = some (.dK (dkv a b s.hand s.lacks)) := by rw [upd_ne pa]; exact D1.ob
      have hb2 : upd H1 a (.lst (HL (s.held.set h (some pg)))) b = some (.lst (BL m)) := by rw [upd_ne (Ne.symm D.ne)]; exact D1.ma
      -- d['marks'][at] = True
      refine ⟨_, rfl, p, _, rfl, dg_marks hp2, _, rfl, b, _, _, _, rfl, rfl, hb2, ixn rfl (by simp; omega), ?_⟩
      rw [bl_set]
      have hp3 : upd (upd H1 a (.lst (HL (s.held.set h (some pg))))) b (.lst (BL (m.set h true))) p = some (.dK (dkv a b s.hand s.lacks)) := by rw [upd_ne pb]; exact hp2
      -- d['hand'] = (at + 1) % rooms
      refine ⟨_, rfl, _, _, rfl, rfl, _, rfl, _, _, rfl, rfl, int0 (by simp [W.h]; omega), _, rfl, p, _, rfl, dp_hand hp3, ?_⟩
      -- d['lacks'] = d['lacks'] + 1
      refine ⟨_, rfl, p, _, rfl, dg_lacks upd_same, _, _, rfl, rfl, _, rfl, p, _, rfl, dp_lacks upd_same, ?_⟩
      rw [upd_upd]
      -- return (True, gone, passed)
      refine ⟨_, rfl, _, rfl, szd rfl, fun t ht => ?_⟩
      have e1 : (((h : Nat) : Int) + 1) % (((HL s.held).length : Nat) : Int) = (((h + 1) % s.held.length : Nat) : Int) := by
        rw [Int.natCast_emod]
        simp
      have hl3 : upd (upd (upd H1 a (.lst (HL (s.held.set h (some pg))))) b (.lst (BL (m.set h true)))) p (.dK (dkv a b ((((h : Nat) : Int) + 1) % (((HL s.held).length : Nat) : Int)) ((s.lacks : Int) + 1))) l = some (.lst (NL acc)) := by
        rw [upd_ne lp, upd_ne lb, upd_ne la]; exact hl1
      have tl : t ≠ l := Ne.symm (ne_fresh hl3 ht)
      have kk : But [p, a, b] H (upd (upd (upd H1 a (.lst (HL (s.held.set h (some pg))))) b (.lst (BL (m.set h true)))) p (.dK (dkv a b ((((h : Nat) : Int) + 1) % (((HL s.held).length : Nat) : Int)) ((s.lacks : Int) + 1)))) :=
        ((k1.trans (But.put (by simp))).trans (But.put (by simp))).trans (But.put (by simp))
      have D4 : LDial (upd (upd (upd H1 a (.lst (HL (s.held.set h (some pg))))) b (.lst (BL (m.set h true)))) p (.dK (dkv a b ((((h : Nat) : Int) + 1) % (((HL s.held).length : Nat) : Int)) ((s.lacks : Int) + 1)))) p a b (s.lack pg) := by
        refine ⟨D.ne, ?_, ?_, ?_⟩
        · rw [upd_same, e1]
          unfold DS.lack
          rw [e]
          rfl
        · rw [upd_ne (Ne.symm pa), upd_ne D.ne, upd_same]
          unfold DS.lack
          rw [e]
        · rw [upd_ne (Ne.symm pb), upd_same]
          unfold DS.lack
          rw [e]
      exact k t l _ (kk.back ht (D4.off ht)) hl tl upd_same (by rw [upd_ne (Ne.symm tl)]; exact hl3) (D4.same (Same.new ht)) (kk.trans (But.new ht))
end
end CK

/-! The law's own lacks. -/
namespace CK
open PySem PySem.Spec PyProof.Rows L2
theorem cut_kept (L : List Int) (n : Nat) : cutV (il L) (some (if decide (L.length = n) = true then 1 else 0)) none = il (if L.length = n then L.eraseIdx 0 else L) := by
  unfold cutV
  rw [HT.sIx_none]
  by_cases h : L.length = n
  · rw [if_pos (decide_eq_true h), if_pos h]
    have e : HT.sIx (il L).length 0 (some (1 : Int)) = min 1 (il L).length   := HT.sIx_nat _ _ 1
    rw [e]
    cases L with
    | nil => rfl
    | cons a r =>
      have e2 : min 1 (il (a :: r)).length = 1 := by simp
      rw [e2]
      show (il r).take _ = il r
      exact List.take_of_length_le (by simp)
  · rw [if_neg (by simp [h]), if_neg h]
    have e : HT.sIx (il L).length 0 (some (0 : Int)) = min 0 (il L).length   := HT.sIx_nat _ _ 0
    rw [e, Nat.zero_min]
    show (il L).take _ = il L
    exact List.take_of_length_le (by simp)
theorem rl_ne {a b : Rl} (h : a ≠ b) : decide (V.str a.s = V.str b.s) = false := by
  cases a <;> cases b <;> first | exact absurd rfl h | decide +kernel
section
variable {P : Program} {w : World} {K : PySem.W.Frag} {mg : Str → Option Value} {base : Heap}
theorem sc_law_lacks : FnScope ["_law_rooms", "_law_row", "_law_rule", "_law_dial_here", "_law_kept", "_law_found", "_law_place", "_law_page", "_law_lacks_here", "_law_one"] ["_law_rooms", "_law_row", "_law_rule"] (defScope (top 42)) := ⟨rfl, rfl, rfl, by decide +kernel, rfl, by decide +kernel, by decide +kernel⟩
theorem ok_law_lacks (T : Prog K mg) : FnOk P w K mg base CX0 2 T.law_lacks.f T.law_lacks.fd ["_law_rooms", "_law_row", "_law_rule"] (spLacking K) := by
  have G_law_dial := ok_law_dial (P := P) (w := w) (base := base) T
  have G_law_ask := ok_law_ask (P := P) (w := w) (base := base) T
  refine T.law_lacks.fn.ok sc_law_lacks (fun vs H Q E h => ?len) (fun cdv A outer s H vs Q E hr h => ?body)
  case len =>
    obtain ⟨n, r, row, rule, rfl, _⟩ := h
    rfl
  case body =>
    have hr_law_dial : Room 1 _ := hr.mono (by decide)
    have hr_law_ask : Room 1 _ := hr.mono (by decide)
    have hu := hu_of hr
    obtain ⟨n, r, row, rule, rfl, n1, n8, hS, hR, k⟩ := h
    refine ⟨_, PSs.nox (pss_cons (ps_set (i := 3) sc_law_lacks.nd rfl (Or.inl rfl) (pe_call G_law_dial hr_law_dial (by rfl) T.law_dial.g T.law_dial.fn.kp T.law_dial.bd .nil pass0 (pa_cons (pv 0) pa_nil)))
        (pss_cons (ps_set (i := 4) sc_law_lacks.nd rfl (Or.inl rfl) (pe_lst pa_nil))
        (pss_cons (ps_set (i := 5) sc_law_lacks.nd rfl (Or.inl rfl) (pe_lst pa_nil))
        (pss_cons (ps_for PassesOwn.never rfl (pi_range1 (by rfl) T.range (pa_cons (pe_callB call_len_seq (by rfl) T.len PySem.boot_len (pa_cons (pv 1) pa_nil)) pa_nil)) (pg_name (i := 6) sc_law_lacks.nd rfl (Or.inl rfl))
        (pss_cons (ps_set (i := 7) sc_law_lacks.nd rfl (Or.inr rfl) (pe_ix ix_list (pv 1) (pv 6) (fun _ _ => rfl)))
        (pss_cons (ps_set (i := 8) sc_law_lacks.nd rfl (Or.inl rfl) (pe_cmpR op_notIn_seq (pv 7) (pv 4) (by rfl)))
        (C8.pss_cut (ps_if (pt_cmpR op_eq (pv 2) pe_str (nomark _))
        (pss_one (ps_set (i := 8) sc_law_lacks.nd rfl (Or.inl rfl) (pe_ix ix_tup (pe_call G_law_ask hr_law_ask (by rfl) T.law_ask.g T.law_ask.fn.kp T.law_ask.bd .nil pass0 (pa_cons (pv 3) (pa_cons (pv 7) pa_nil))) pe_int (fun _ _ => rfl))))
        (pss_one (ps_if (pt_val (pv 8))
        (pss_one (ps_set (i := 4) sc_law_lacks.nd rfl (Or.inl rfl) (pe_op op_cat (pe_slice sl_list (pv 4) (po_some (pe_callTy call_int1 (by rfl) T.int_ (by decide +kernel) (pa_cons (pe_cmpR op_eq (pe_callB call_len_seq (by rfl) T.len PySem.boot_len (pa_cons (pv 4) pa_nil)) (pv 0) (nomark _)) pa_nil))) po_none) (pe_lst (pa_cons (pv 7) pa_nil)))))
        (pss_one (ps_if (pt_cmpR op_eq (pv 2) pe_str (nomark _))
        (pss_one (ps_set (i := 4) sc_law_lacks.nd rfl (Or.inl rfl) (pe_op op_cat (pe_lc (own := [("_law_one", 9)]) (g := gName 9) rfl sc_law_lacks.nd ((pi_list (pv 4))) (blkOk_by (own := [("_law_one", 9)]) (N := ["_law_rooms", "_law_row", "_law_rule", "_law_dial_here", "_law_kept", "_law_found", "_law_place", "_law_page", "_law_lacks_here", "_law_one"]) (sc := defScope (top 42)) (by decide +kernel)) (fun _ _ _ _ _ => (by exact (pg_name (i := 9) sc_law_lacks.nd rfl (Or.inl rfl)))) (fun _ _ _ _ _ => (by exact (pts_one (pt_cmpR op_ne (pv 9) (pv 7) (nomark _))))) (fun _ _ _ _ _ => (by exact (pv 9)))) (pe_lst (pa_cons (pv 7) pa_nil)))))
        pss_nil)))))
        (pss_one (ps_set (i := 5) sc_law_lacks.nd rfl (Or.inl rfl) (pe_op op_cat (pv 5) (pe_op op_rep (pe_lst (pa_cons (pv 6) pa_nil)) (pe_callTy call_int1 (by rfl) T.int_ (by decide +kernel) (pa_cons (pv 8) pa_nil))))))))))
        (pss_one (ps_ret (pv 5))))))), ?_⟩
    refine ⟨_, rfl, n, rfl, n1, n8, fun d a b H1 dH aH bH D1 s1 => ?_⟩
    refine ⟨szd rfl, fun kp hkp => ⟨szd rfl, fun fo hfo => ?_⟩⟩
    have hn0 : 0 < n.toNat := by omega
    have hR1 := hR.1
    have W0 : (DS.new n.toNat).WF n.toNat := DS.new_wf hn0
    have s2 := Same.new (o := .lst []) hkp
    have s3 := Same.new (o := .lst []) hfo
    -- what holds ahead of a turn: the kept pages, the found places
    let Inv : Nat → Nat → Addr → Addr → Hp → Prop := fun i j kp fo H' => LDial H' d a b (dialR n.toNat rule (row.take i)) ∧ H' kp = some (.lst (il (keptR n.toNat rule (row.take i)))) ∧ H' fo = some (.lst (NL (placesT 0 (lackB n.toNat rule (row.take j))))) ∧
      kp ∉ [d, a, b] ∧ fo ∉ [d, a, b] ∧ H fo = none ∧ Same H H'
    refine ⟨_, rfl, r, _, rfl, .inl (((s1.trans s2).trans s3).seq hS), _, rfl, by omega, by rw [il_len]; omega, for_range (lo := 0) (n := (((il row).length : Nat) : Int).toNat) (fun i σ H' => ∃ (kp fo : Addr) (v6 v7 v8 : Option V), σ = [some (.int n), some (.ref r), some (.str rule.s), some (.ref d), some (.ref kp), some (.ref fo), v6, v7, v8, none] ∧ Inv i i kp fo H') ?_ ?_ ?_⟩
    · refine ⟨kp, fo, none, none, none, rfl, ?_, ?_, ?_, D1.off hkp, (D1.same s2).off hfo, Same.back (s1.trans s2) hfo, (s1.trans s2).trans s3⟩
      · have e : dialR n.toNat rule (row.take 0) = DS.new n.toNat := by cases rule <;> rfl
        rw [e]
        exact (D1.same s2).same s3
      · have e : keptR n.toNat rule (row.take 0) = [] := by cases rule <;> rfl
        rw [e]
        exact s3 _ _ upd_same
      · have e : lackB n.toNat rule (row.take 0) = [] := by cases rule <;> rfl
        rw [e]
        exact upd_same
    · rintro i σ H2 hi ⟨kp, fo, v6, v7, v8, rfl, D2, hk2, hf2, kS, fS, foH, sH⟩
      have hi' : i < row.length := by rw [il_len] at hi; omega
      have hpi : row[i]? = some (row[i]'hi') := List.getElem?_eq_getElem _
      have hpg := hR.2 _ (List.mem_of_getElem? hpi)
      generalize row[i]'hi' = pg at *
      -- page = row[place]; lacks_here = page not in kept
      refine ⟨_, rfl, _, rfl, r, _, _, _, rfl, rfl, sH.seq hS, (by rw [Int.zero_add]; exact atI_nat (il_at hpi)), ?_⟩
      refine ⟨_, rfl, _, rfl, kp, _, rfl, .inl (SqL.of hk2), rfl, flat_il _, ?_⟩
      have e0 : (if true = true then !inV (V.int pg) (il (keptR n.toNat rule (row.take i))) else inV (V.int pg) (il (keptR n.toNat rule (row.take i)))) = !decide (pg ∈ keptR n.toNat rule (row.take i)) := by rw [if_pos rfl, inV_il]
      rw [e0]
      refine ⟨fun σ' H' => ∃ (kp' : Addr), σ' = [some (.int n), some (.ref r), some (.str rule.s), some (.ref d), some (.ref kp'), some (.ref fo), some (.int (0 + (i : Int))), some (.int pg), some (.bl (lackR n.toNat rule (row.take i) pg)), none] ∧ Inv (i + 1) i kp' fo H', ?_, ?_⟩
      · -- the way of the rule
        refine ⟨_, rfl, rfl, _, rfl, ?_⟩
        -- the two other rules' way: what is kept behind it
        cases rule with
        | hand =>
          refine ifT (decide_eq_true rfl) ?_
          refine ⟨_, rfl, _, rfl, d, a, b, _, n.toNat, pg, rfl, D2, afterL_wf W0 _, by omega, fun t l H3 ht hl tl ht3 hl3 D3 k3 => ⟨t, _, _, _, rfl, rfl, SqT.of ht3, atI_nat (j := 0) rfl, ?_⟩⟩
          refine ⟨kp, rfl, ?_, k3 _ _ hk2 kS, k3 _ _ hf2 fS, kS, fS, foH, fun c o e => k3 _ _ (sH _ _ e) ?_⟩
          · show LDial H3 d a b (afterL (DS.new n.toNat) (row.take (i + 1)))
            rw [take_snoc hpi, afterL_snoc]
            exact D3
          · have z1 := ne_fresh e dH
            have z2 := ne_fresh e aH
            have z3 := ne_fresh e bH
            simp [z1, z2, z3]
        | unseen =>
          refine ifF (by decide +kernel) ?_
          refine ⟨_, rfl, _, rfl, ?_⟩
          have hO := lineAt_ok (re := true) hn0 (row.take i)
          have eN : keptR n.toNat .unseen (row.take (i + 1)) = lineStep n.toNat true (lineAt n.toNat true (row.take i)) pg := by
            show lineAt n.toNat true (row.take (i + 1)) = _
            rw [take_snoc hpi, lineAt_snoc]
          have eK : keptR n.toNat .unseen (row.take i) = lineAt n.toNat true (row.take i) := rfl
          rw [eK] at hk2 ⊢
          have eM : ∀ (kp' : Addr) (H' : Hp), H' kp' = some (.lst (il (lineStep n.toNat true (lineAt n.toNat true (row.take i)) pg))) → kp' ∉ [d, a, b] → Same H2 H' → Inv (i + 1) i kp' fo H' := fun kp' H' q1 q2 q3 =>
            ⟨D2.same q3, by rw [eN]; exact q1, q3 _ _ hf2, q2, fS, foH, sH.trans q3⟩
          have eR : lackR n.toNat .unseen (row.take i) pg = !decide (pg ∈ lineAt n.toNat true (row.take i)) := rfl
          rw [eR]
          generalize hLL : lineAt n.toNat true (row.take i) = L at *
          have hL8 := hO.le
          by_cases hin : pg ∈ L
          · refine ifF (by simp [hin]) ?_
            refine ⟨_, rfl, rfl, _, rfl, ?_⟩
            refine ifT (decide_eq_true rfl) ?_
            have eS : lineStep n.toNat true L pg = L.filter (· != pg) ++ [pg] := by
              unfold lineStep
              rw [if_pos hin, if_pos rfl, erase_line hO.nd]
            rw [eS] at eM
            -- kept = [one for one in kept if one != page] + [page]
            refine ⟨_, rfl, kp, rfl, ⟨_, SqL.of hk2⟩, fun D hD => ?_⟩
            refine lc_list (K := K) (a := kp) (xs := il L) (fun m H' => H' D = some (.lst (il ((L.take m).filter (· != pg)))) ∧ Same H2 H') ⟨upd_same, Same.new hD⟩ (fun m H' _ q => SqL.of (q.2 _ _ hk2)) ?_ ?_
            · rintro m x H' hx ⟨q1, q2⟩
              obtain ⟨y, hy, rfl⟩ := il_get hx
              have hfl := List.length_filter_le (· != pg) (L.take m)
              rw [List.length_take] at hfl
              refine ⟨rfl, _, rfl, _, rfl, rfl, _, rfl, ?_⟩
              rw [take_snoc hy, List.filter_append]
              by_cases hyp : y = pg
              · refine ifF (by simp [hyp]) ?_
                have e : [y].filter (· != pg) = [] := by simp [hyp]
                rw [e, List.append_nil]
                exact ⟨q1, q2⟩
              · refine ifT (by simp [hyp]) ?_
                have e : [y].filter (· != pg) = [y] := by simp [hyp]
                rw [e]
                refine ⟨_, rfl, _, q1, szl (by rw [il_len]; omega), ?_, Same.put q2 hD⟩
                rw [upd_same, il_snoc]
            · rintro H' ⟨q1, q2⟩
              rw [List.take_of_length_le (by simp)] at q1
              have hfl := List.length_filter_le (· != pg) L
              refine ⟨_, rfl, szd rfl, fun e he => ?_⟩
              have se := Same.new (o := .lst [V.int pg]) he
              refine ⟨D, e, _, _, rfl, rfl, se _ _ q1, upd_same, sz (by rw [il_len]; simp; omega), fun z hz => ?_⟩
              refine ⟨z, rfl, eM z _ ?_ ((D2.same (q2.trans se)).off hz) ((q2.trans se).trans (Same.new hz))⟩
              rw [upd_same, il_snoc]
          · refine ifT (by simp [hin]) ?_
            have eS : lineStep n.toNat true L pg = (if L.length = n.toNat then L.eraseIdx 0 else L) ++ [pg] := by
              unfold lineStep
              rw [if_neg hin]
            rw [eS] at eM
            have e1 : decide (V.int ((il L).length : Int) = V.int n) = decide (L.length = n.toNat) := by
              rw [il_len]
              by_cases q : L.length = n.toNat
              · rw [decide_eq_true q]
                exact decide_eq_true (congrArg V.int (by omega))
              · rw [decide_eq_false q]
                exact decide_eq_false (fun z => q (by injection z with z; omega))
            have hcut : (if L.length = n.toNat then L.eraseIdx 0 else L).length ≤ 8 := by
              have := List.length_eraseIdx_le L 0
              split <;> omega
            -- kept = kept[int(len(kept) == rooms):] + [page]
            refine ⟨_, rfl, _, rfl, kp, _, rfl, .inl (SqL.of hk2), _, rfl, rfl, .inr ⟨_, rfl, _, rfl, kp, _, rfl, SqL.of hk2, fun p hp => ?_⟩⟩
            rw [e1, cut_kept]
            refine ⟨_, rfl, szd rfl, fun e he => ?_⟩
            have sp := Same.new (o := .lst (il (if L.length = n.toNat then L.eraseIdx 0 else L))) hp
            have se := Same.new (o := .lst [V.int pg]) he
            refine ⟨p, e, _, _, rfl, rfl, se _ _ upd_same, upd_same, sz (by rw [il_len]; show _ + 1 ≤ 100000; omega), fun z hz => ?_⟩
            refine ⟨z, rfl, eM z _ ?_ ((D2.same (sp.trans se)).off hz) ((sp.trans se).trans (Same.new hz))⟩
            rw [upd_same, il_snoc]
        | first =>
          refine ifF (by decide +kernel) ?_
          refine ⟨_, rfl, _, rfl, ?_⟩
          have hO := lineAt_ok (re := false) hn0 (row.take i)
          have eN : keptR n.toNat .first (row.take (i + 1)) = lineStep n.toNat false (lineAt n.toNat false (row.take i)) pg := by
            show lineAt n.toNat false (row.take (i + 1)) = _
            rw [take_snoc hpi, lineAt_snoc]
          have eK : keptR n.toNat .first (row.take i) = lineAt n.toNat false (row.take i) := rfl
          rw [eK] at hk2 ⊢
          have eM : ∀ (kp' : Addr) (H' : Hp), H' kp' = some (.lst (il (lineStep n.toNat false (lineAt n.toNat false (row.take i)) pg))) → kp' ∉ [d, a, b] → Same H2 H' → Inv (i + 1) i kp' fo H' := fun kp' H' q1 q2 q3 =>
            ⟨D2.same q3, by rw [eN]; exact q1, q3 _ _ hf2, q2, fS, foH, sH.trans q3⟩
          have eR : lackR n.toNat .first (row.take i) pg = !decide (pg ∈ lineAt n.toNat false (row.take i)) := rfl
          rw [eR]
          generalize hLL : lineAt n.toNat false (row.take i) = L at *
          have hL8 := hO.le
          by_cases hin : pg ∈ L
          · refine ifF (by simp [hin]) ?_
            refine ⟨_, rfl, rfl, _, rfl, ?_⟩
            refine ifF (by decide +kernel) ?_
            have eS : lineStep n.toNat false L pg = L := by
              unfold lineStep
              rw [if_pos hin]
              rfl
            rw [eS] at eM
            exact ⟨kp, rfl, eM kp H2 hk2 kS (Same.refl H2)⟩
          · refine ifT (by simp [hin]) ?_
            have eS : lineStep n.toNat false L pg = (if L.length = n.toNat then L.eraseIdx 0 else L) ++ [pg] := by
              unfold lineStep
              rw [if_neg hin]
            rw [eS] at eM
            have e1 : decide (V.int ((il L).length : Int) = V.int n) = decide (L.length = n.toNat) := by
              rw [il_len]
              by_cases q : L.length = n.toNat
              · rw [decide_eq_true q]
                exact decide_eq_true (congrArg V.int (by omega))
              · rw [decide_eq_false q]
                exact decide_eq_false (fun z => q (by injection z with z; omega))
            have hcut : (if L.length = n.toNat then L.eraseIdx 0 else L).length ≤ 8 := by
              have := List.length_eraseIdx_le L 0
              split <;> omega
            -- kept = kept[int(len(kept) == rooms):] + [page]
            refine ⟨_, rfl, _, rfl, kp, _, rfl, .inl (SqL.of hk2), _, rfl, rfl, .inr ⟨_, rfl, _, rfl, kp, _, rfl, SqL.of hk2, fun p hp => ?_⟩⟩
            rw [e1, cut_kept]
            refine ⟨_, rfl, szd rfl, fun e he => ?_⟩
            have sp := Same.new (o := .lst (il (if L.length = n.toNat then L.eraseIdx 0 else L))) hp
            have se := Same.new (o := .lst [V.int pg]) he
            refine ⟨p, e, _, _, rfl, rfl, se _ _ upd_same, upd_same, sz (by rw [il_len]; show _ + 1 ≤ 100000; omega), fun z hz => ?_⟩
            refine ⟨z, rfl, eM z _ ?_ ((D2.same (sp.trans se)).off hz) ((sp.trans se).trans (Same.new hz))⟩
            rw [upd_same, il_snoc]
      · rintro σ' H3 ⟨kp', rfl, D3, hk3, hf3, kS3, fS3, _, sH3⟩
        -- found = found + [place] * int(lacks_here)
        have hpl := placesT_le 0 (lackB n.toNat rule (row.take i))
        rw [lackB_len, List.length_take] at hpl
        generalize hb : lackR n.toNat rule (row.take i) pg = lk at *
        refine ⟨_, rfl, _, rfl, szd rfl, fun e he => ?_⟩
        refine ⟨_, rfl, .inr ⟨_, rfl, e, _, _, rfl, rfl, upd_same, ?_, ?_, ?_, fun q hq => ?_⟩⟩
        · cases lk <;> decide
        · cases lk <;> decide
        · cases lk <;> exact szd rfl
        have sN := (Same.new (o := .lst [V.int (0 + (i : Int))]) he)
        have sQ := sN.trans (Same.new (o := .lst (List.replicate (Int.toNat (if lk = true then 1 else 0)) [V.int (0 + (i : Int))]).flatten) hq)
        refine ⟨fo, q, _, _, rfl, rfl, sQ _ _ hf3, upd_same, ?_, fun z hz => ?_⟩
        · have : (List.replicate (Int.toNat (if lk = true then 1 else 0)) [V.int (0 + (i : Int))]).flatten.length ≤ 1 := by cases lk <;> exact Nat.le_of_ble_eq_true rfl
          refine sz ?_
          rw [List.length_map]
          omega
        have sZ := sQ.trans (Same.new (o := .lst (NL (placesT 0 (lackB n.toNat rule (row.take i))) ++ (List.replicate (Int.toNat (if lk = true then 1 else 0)) [V.int (0 + (i : Int))]).flatten)) hz)
        refine ⟨kp', z, _, _, _, rfl, D3.same sZ, sZ _ _ hk3, ?_, kS3, (D3.same sQ).off hz, Same.back (sH3.trans sQ) hz, sH3.trans sZ⟩
        rw [upd_same, take_snoc hpi, lackB_snoc, placesT_snoc, lackB_len, List.length_take, Nat.min_eq_left (by omega), Nat.zero_add, hb]
        cases lk with
        | true =>
          show some (HO.lst (NL _ ++ [V.int (0 + (i : Int))])) = _
          rw [Int.zero_add, NL_snoc]
          rfl
        | false =>
          show some (HO.lst (NL _ ++ [])) = _
          rw [List.append_nil]
          show _ = some (HO.lst (NL (_ ++ [])))
          rw [List.append_nil]
    · rintro σ H' ⟨kp, fo, v6, v7, v8, rfl, _, _, q1, _, _, q2, q3⟩
      rw [List.take_of_length_le (by simp)] at q1
      exact ⟨_, rfl, k fo H' q2 q3 q1⟩
end
end CK

/-! The law of the worst row. -/
namespace CK
open PySem PySem.Spec PyProof.Rows L2
theorem sizes_of {p k : Nat} (h1 : 1 ≤ p) (h2 : p ≤ 12) (h3 : k ≤ 100) (h4 : p ^ k ≤ 4096) : Sizes p k := ⟨h1, h2, h3, fun j hj => Nat.le_trans (Nat.pow_le_pow_right h1 hj) h4⟩
theorem sizes_small {p k : Nat} (h1 : 1 ≤ p) (h2 : p ≤ 4) (h3 : k ≤ 5) : Sizes p k := by
  refine sizes_of h1 (by omega) (by omega) ?_
  have a := Nat.pow_le_pow_left h2 k
  have b := Nat.pow_le_pow_right (n := 4) (by decide) h3
  have c : (4 : Nat) ^ 5 = 1024 := by decide
  omega
def spSizes (K : PySem.W.Frag) : Sp := fun vs H Q _ => ∃ (b l : Addr), vs = [.ref b] ∧ BoxAt H b l ∧ ∀ (t : Addr) (n : Int) (p k : Nat) (H' : Hp), But [b, l] H H' → BoxAt H' b l → H' t = some (.tup [.int n, .int (p : Nat), .int (k : Nat)]) → 1 ≤ n → n ≤ 8 → Sizes p k → Q (.ref t) H'
theorem rl_menu2 {r : Int} (h0 : 0 ≤ r) (h1 : r < 3) : ∃ rule : Rl, atI [V.str "hand", V.str "unseen", V.str "first"] r = some (V.str rule.s) := by
  have h : r = 0 ∨ r = 1 ∨ r = 2 := by omega
  rcases h with rfl | rfl | rfl
  · exact ⟨.hand, atI_nat (j := 0) rfl⟩
  · exact ⟨.unseen, atI_nat (j := 1) rfl⟩
  · exact ⟨.first, atI_nat (j := 2) rfl⟩
section
variable {P : Program} {w : World} {K : PySem.W.Frag} {mg : Str → Option Value} {base : Heap}
theorem sc_law_sizes : FnScope ["_law_box", "_law_some", "_law_pages"] ["_law_box"] (defScope (top 45)) := ⟨rfl, rfl, rfl, by decide +kernel, rfl, by decide +kernel, by decide +kernel⟩
theorem ok_law_sizes (T : Prog K mg) : FnOk P w K mg base CX0 2 T.law_sizes.f T.law_sizes.fd ["_law_box"] (spSizes K) := by
  have G_law_take := ok_law_take (P := P) (w := w) (base := base) T
  refine T.law_sizes.fn.ok sc_law_sizes (fun vs H Q E h => ?len) (fun cdv A outer s H vs Q E hr h => ?body)
  case len =>
    obtain ⟨b, l, rfl, _⟩ := h
    rfl
  case body =>
    have hr_law_take : Room 1 _ := hr.mono (by decide)
    have hu := hu_of hr
    obtain ⟨b, l, rfl, B, k⟩ := h
    refine ⟨_, PSs.nox (pss_cons (ps_if (pt_cmpR op_eq (pe_call G_law_take hr_law_take (by rfl) T.law_take.g T.law_take.fn.kp T.law_take.bd .nil pass0 (pa_cons (pv 0) (pa_cons pe_int pa_nil))) pe_int (nomark _))
        (pss_cons (ps_set (i := 1) sc_law_sizes.nd rfl (Or.inl rfl) (pe_lst (pa_cons (pe_tup (pa_cons pe_int (pa_cons pe_int (pa_cons pe_int pa_nil)))) (pa_cons (pe_tup (pa_cons pe_int (pa_cons pe_int (pa_cons pe_int pa_nil)))) (pa_cons (pe_tup (pa_cons pe_int (pa_cons pe_int (pa_cons pe_int pa_nil)))) (pa_cons (pe_tup (pa_cons pe_int (pa_cons pe_int (pa_cons pe_int pa_nil)))) (pa_cons (pe_tup (pa_cons pe_int (pa_cons pe_int (pa_cons pe_int pa_nil)))) (pa_cons (pe_tup (pa_cons pe_int (pa_cons pe_int (pa_cons pe_int pa_nil)))) (pa_cons (pe_tup (pa_cons pe_int (pa_cons pe_int (pa_cons pe_int pa_nil)))) (pa_cons (pe_tup (pa_cons pe_int (pa_cons pe_int (pa_cons pe_int pa_nil)))) pa_nil))))))))))
        (pss_one (ps_ret (pe_ix ix_list (pv 1) (pe_call G_law_take hr_law_take (by rfl) T.law_take.g T.law_take.fn.kp T.law_take.bd .nil pass0 (pa_cons (pv 0) (pa_cons pe_int pa_nil))) (fun _ _ => rfl)))))
        pss_nil)
        (pss_cons (ps_set (i := 2) sc_law_sizes.nd rfl (Or.inl rfl) (pe_op op_add pe_int (pe_call G_law_take hr_law_take (by rfl) T.law_take.g T.law_take.fn.kp T.law_take.bd .nil pass0 (pa_cons (pv 0) (pa_cons (pe_ix ix_list (pe_lst (pa_cons pe_int (pa_cons pe_int pa_nil))) (pe_op op_fdiv (pe_call G_law_take hr_law_take (by rfl) T.law_take.g T.law_take.fn.kp T.law_take.bd .nil pass0 (pa_cons (pv 0) (pa_cons pe_int pa_nil))) pe_int) (fun _ _ => rfl)) pa_nil)))))
        (pss_one (ps_ret (pe_tup (pa_cons (pe_op op_add pe_int (pe_call G_law_take hr_law_take (by rfl) T.law_take.g T.law_take.fn.kp T.law_take.bd .nil pass0 (pa_cons (pv 0) (pa_cons pe_int pa_nil)))) (pa_cons (pv 2) (pa_cons (pe_call G_law_take hr_law_take (by rfl) T.law_take.g T.law_take.fn.kp T.law_take.bd .nil pass0 (pa_cons (pv 0) (pa_cons (pe_ix ix_list (pe_lst (pa_cons pe_int (pa_cons pe_int (pa_cons pe_int (pa_cons pe_int (pa_cons pe_int pa_nil)))))) (pv 2) (fun _ _ => rfl)) pa_nil))) pa_nil)))))))), ?_⟩
    refine ⟨_, rfl, b, l, 6, rfl, B, by decide, by decide, fun u H1 u0 u1 k1 B1 => ⟨rfl, _, rfl, ?_⟩⟩
    refine ite2 (fun _ => ?_) (fun _ => ?_)
    · -- one of the eight
      refine ⟨szd rfl, fun t0 h0 => ?_⟩
      obtain ⟨G0, g0⟩ : ∃ G, G = upd H1 t0 (.tup [V.int 2, V.int 2, V.int 11]) := ⟨_, rfl⟩
      rw [← g0]
      have s0 : Same H1 G0 := by rw [g0]; exact Same.new h0
      have e0 : G0 t0 = some (.tup [V.int 2, V.int 2, V.int 11]) := by rw [g0]; exact upd_same
      have S0 : Same H1 G0 := s0
      refine ⟨szd rfl, fun t1 h1 => ?_⟩
      obtain ⟨G1, g1⟩ : ∃ G, G = upd G0 t1 (.tup [V.int 4, V.int 3, V.int 7]) := ⟨_, rfl⟩
      rw [← g1]
      have s1 : Same G0 G1 := by rw [g1]; exact Same.new h1
      have e1 : G1 t1 = some (.tup [V.int 4, V.int 3, V.int 7]) := by rw [g1]; exact upd_same
      have e0 := s1 _ _ e0
      have S1 : Same H1 G1 := S0.trans s1
      refine ⟨szd rfl, fun t2 h2 => ?_⟩
      obtain ⟨G2, g2⟩ : ∃ G, G = upd G1 t2 (.tup [V.int 5, V.int 6, V.int 4]) := ⟨_, rfl⟩
      rw [← g2]
      have s2 : Same G1 G2 := by rw [g2]; exact Same.new h2
      have e2 : G2 t2 = some (.tup [V.int 5, V.int 6, V.int 4]) := by rw [g2]; exact upd_same
      have e0 := s2 _ _ e0
      have e1 := s2 _ _ e1
      have S2 : Same H1 G2 := S1.trans s2
      refine ⟨szd rfl, fun t3 h3 => ?_⟩
      obtain ⟨G3, g3⟩ : ∃ G, G = upd G2 t3 (.tup [V.int 3, V.int 5, V.int 5]) := ⟨_, rfl⟩
      rw [← g3]
      have s3 : Same G2 G3 := by rw [g3]; exact Same.new h3
      have e3 : G3 t3 = some (.tup [V.int 3, V.int 5, V.int 5]) := by rw [g3]; exact upd_same
      have e0 := s3 _ _ e0
      have e1 := s3 _ _ e1
      have e2 := s3 _ _ e2
      have S3 : Same H1 G3 := S2.trans s3
      refine ⟨szd rfl, fun t4 h4 => ?_⟩
      obtain ⟨G4, g4⟩ : ∃ G, G = upd G3 t4 (.tup [V.int 7, V.int 8, V.int 4]) := ⟨_, rfl⟩
      rw [← g4]
      have s4 : Same G3 G4 := by rw [g4]; exact Same.new h4
      have e4 : G4 t4 = some (.tup [V.int 7, V.int 8, V.int 4]) := by rw [g4]; exact upd_same
      have e0 := s4 _ _ e0
      have e1 := s4 _ _ e1
      have e2 := s4 _ _ e2
      have e3 := s4 _ _ e3
      have S4 : Same H1 G4 := S3.trans s4
      refine ⟨szd rfl, fun t5 h5 => ?_⟩
      obtain ⟨G5, g5⟩ : ∃ G, G = upd G4 t5 (.tup [V.int 8, V.int 12, V.int 3]) := ⟨_, rfl⟩
      rw [← g5]
      have s5 : Same G4 G5 := by rw [g5]; exact Same.new h5
      have e5 : G5 t5 = some (.tup [V.int 8, V.int 12, V.int 3]) := by rw [g5]; exact upd_same
      have e0 := s5 _ _ e0
      have e1 := s5 _ _ e1
      have e2 := s5 _ _ e2
      have e3 := s5 _ _ e3
      have e4 := s5 _ _ e4
      have S5 : Same H1 G5 := S4.trans s5
      refine ⟨szd rfl, fun t6 h6 => ?_⟩
      obtain ⟨G6, g6⟩ : ∃ G, G = upd G5 t6 (.tup [V.int 6, V.int 1, V.int 90]) := ⟨_, rfl⟩
      rw [← g6]
      have s6 : Same G5 G6 := by rw [g6]; exact Same.new h6
      have e6 : G6 t6 = some (.tup [V.int 6, V.int 1, V.int 90]) := by rw [g6]; exact upd_same
      have e0 := s6 _ _ e0
      have e1 := s6 _ _ e1
      have e2 := s6 _ _ e2
      have e3 := s6 _ _ e3
      have e4 := s6 _ _ e4
      have e5 := s6 _ _ e5
      have S6 : Same H1 G6 := S5.trans s6
      refine ⟨szd rfl, fun t7 h7 => ?_⟩
      obtain ⟨G7, g7⟩ : ∃ G, G = upd G6 t7 (.tup [V.int 4, V.int 9, V.int 3]) := ⟨_, rfl⟩
      rw [← g7]
      have s7 : Same G6 G7 := by rw [g7]; exact Same.new h7
      have e7 : G7 t7 = some (.tup [V.int 4, V.int 9, V.int 3]) := by rw [g7]; exact upd_same
      have e0 := s7 _ _ e0
      have e1 := s7 _ _ e1
      have e2 := s7 _ _ e2
      have e3 := s7 _ _ e3
      have e4 := s7 _ _ e4
      have e5 := s7 _ _ e5
      have e6 := s7 _ _ e6
      have S7 : Same H1 G7 := S6.trans s7
      refine ⟨szd rfl, fun q hq => ?_⟩
      have sq := Same.new (o := .lst [V.ref t0, V.ref t1, V.ref t2, V.ref t3, V.ref t4, V.ref t5, V.ref t6, V.ref t7]) hq
      have Bq := (B1.same S7).same sq
      refine ⟨_, rfl, _, rfl, b, l, 8, rfl, Bq, by decide, by decide, fun v H2 v0 v1 k2 B2 => ?_⟩
      have hq2 := k2 _ _ upd_same ((B1.same S7).off hq)
      have kk : But [b, l] H H2 := ((k1.trans (But.of S7)).trans (But.of sq)).trans k2
      have n0 : t0 ∉ [b, l] := by
        obtain ⟨_, _, q1, q2, _⟩ := Bq.ex
        have z1 := ne_of (sq _ _ e0) q1 (by intro z; cases z)
        have z2 := ne_of (sq _ _ e0) q2 (by intro z; cases z)
        simp [z1, z2]
      have n1 : t1 ∉ [b, l] := by
        obtain ⟨_, _, q1, q2, _⟩ := Bq.ex
        have z1 := ne_of (sq _ _ e1) q1 (by intro z; cases z)
        have z2 := ne_of (sq _ _ e1) q2 (by intro z; cases z)
        simp [z1, z2]
      have n2 : t2 ∉ [b, l] := by
        obtain ⟨_, _, q1, q2, _⟩ := Bq.ex
        have z1 := ne_of (sq _ _ e2) q1 (by intro z; cases z)
        have z2 := ne_of (sq _ _ e2) q2 (by intro z; cases z)
        simp [z1, z2]
      have n3 : t3 ∉ [b, l] := by
        obtain ⟨_, _, q1, q2, _⟩ := Bq.ex
        have z1 := ne_of (sq _ _ e3) q1 (by intro z; cases z)
        have z2 := ne_of (sq _ _ e3) q2 (by intro z; cases z)
        simp [z1, z2]
      have n4 : t4 ∉ [b, l] := by
        obtain ⟨_, _, q1, q2, _⟩ := Bq.ex
        have z1 := ne_of (sq _ _ e4) q1 (by intro z; cases z)
        have z2 := ne_of (sq _ _ e4) q2 (by intro z; cases z)
        simp [z1, z2]
      have n5 : t5 ∉ [b, l] := by
        obtain ⟨_, _, q1, q2, _⟩ := Bq.ex
        have z1 := ne_of (sq _ _ e5) q1 (by intro z; cases z)
        have z2 := ne_of (sq _ _ e5) q2 (by intro z; cases z)
        simp [z1, z2]
      have n6 : t6 ∉ [b, l] := by
        obtain ⟨_, _, q1, q2, _⟩ := Bq.ex
        have z1 := ne_of (sq _ _ e6) q1 (by intro z; cases z)
        have z2 := ne_of (sq _ _ e6) q2 (by intro z; cases z)
        simp [z1, z2]
      have n7 : t7 ∉ [b, l] := by
        obtain ⟨_, _, q1, q2, _⟩ := Bq.ex
        have z1 := ne_of (sq _ _ e7) q1 (by intro z; cases z)
        have z2 := ne_of (sq _ _ e7) q2 (by intro z; cases z)
        simp [z1, z2]
      have hv : v = 0 ∨ v = 1 ∨ v = 2 ∨ v = 3 ∨ v = 4 ∨ v = 5 ∨ v = 6 ∨ v = 7 := by omega
      rcases hv with rfl | rfl | rfl | rfl | rfl | rfl | rfl | rfl
      · exact ⟨q, _, _, V.ref t0, rfl, rfl, SqL.of hq2, atI_nat (j := 0) rfl, k t0 2 2 11 H2 kk B2 (k2 _ _ (sq _ _ e0) n0) (by decide) (by decide) (sizes_of (by decide) (by decide) (by decide) (by decide))⟩
      · exact ⟨q, _, _, V.ref t1, rfl, rfl, SqL.of hq2, atI_nat (j := 1) rfl, k t1 4 3 7 H2 kk B2 (k2 _ _ (sq _ _ e1) n1) (by decide) (by decide) (sizes_of (by decide) (by decide) (by decide) (by decide))⟩
      · exact ⟨q, _, _, V.ref t2, rfl, rfl, SqL.of hq2, atI_nat (j := 2) rfl, k t2 5 6 4 H2 kk B2 (k2 _ _ (sq _ _ e2) n2) (by decide) (by decide) (sizes_of (by decide) (by decide) (by decide) (by decide))⟩
      · exact ⟨q, _, _, V.ref t3, rfl, rfl, SqL.of hq2, atI_nat (j := 3) rfl, k t3 3 5 5 H2 kk B2 (k2 _ _ (sq _ _ e3) n3) (by decide) (by decide) (sizes_of (by decide) (by decide) (by decide) (by decide))⟩
      · exact ⟨q, _, _, V.ref t4, rfl, rfl, SqL.of hq2, atI_nat (j := 4) rfl, k t4 7 8 4 H2 kk B2 (k2 _ _ (sq _ _ e4) n4) (by decide) (by decide) (sizes_of (by decide) (by decide) (by decide) (by decide))⟩
      · exact ⟨q, _, _, V.ref t5, rfl, rfl, SqL.of hq2, atI_nat (j := 5) rfl, k t5 8 12 3 H2 kk B2 (k2 _ _ (sq _ _ e5) n5) (by decide) (by decide) (sizes_of (by decide) (by decide) (by decide) (by decide))⟩
      · exact ⟨q, _, _, V.ref t6, rfl, rfl, SqL.of hq2, atI_nat (j := 6) rfl, k t6 6 1 90 H2 kk B2 (k2 _ _ (sq _ _ e6) n6) (by decide) (by decide) (sizes_of (by decide) (by decide) (by decide) (by decide))⟩
      · exact ⟨q, _, _, V.ref t7, rfl, rfl, SqL.of hq2, atI_nat (j := 7) rfl, k t7 4 9 3 H2 kk B2 (k2 _ _ (sq _ _ e7) n7) (by decide) (by decide) (sizes_of (by decide) (by decide) (by decide) (by decide))⟩
    · refine ⟨_, rfl, szd rfl, fun e he => ?_⟩
      have se := Same.new (o := .lst (il [3, 4])) he
      refine ⟨_, rfl, b, l, 4, rfl, B1.same se, by decide, by decide, fun y H2 y0 y1 k2 B2 => ⟨_, _, rfl, rfl, ⟨by decide, by decide⟩, ?_⟩⟩
      obtain ⟨v, hv, hat⟩ := il_menu (xs := [3, 4]) (r := y / 3) (by omega) (by simp; omega)
      have v0 : 0 < v ∧ v ≤ 4 := by simp at hv; omega
      have he2 := k2 _ _ upd_same (B1.off he)
      refine ⟨e, _, _, _, rfl, rfl, SqL.of he2, hat, b, l, v, rfl, B2, v0.1, by omega, fun pg H3 p0 p1 k3 B3 => ⟨_, _, rfl, rfl, ?_⟩⟩
      have k13 : But [b, l] H H3 := ((k1.trans (But.of se)).trans k2).trans k3
      -- rooms
      refine ⟨_, rfl, b, l, 3, rfl, B3, by decide, by decide, fun r0 H4 r00 r01 k4 B4 => ⟨_, _, rfl, rfl, _, rfl, _, rfl, szd rfl, fun f hf => ?_⟩⟩
      have sf := Same.new (o := .lst (il [7, 6, 6, 6, 5])) hf
      obtain ⟨m, m0, m1, hat2⟩ : ∃ m : Int, 0 < m ∧ m ≤ 6 ∧ atI (il [7, 6, 6, 6, 5]) (1 + pg) = some (V.int m) := by
        have hp : pg = 0 ∨ pg = 1 ∨ pg = 2 ∨ pg = 3 := by omega
        rcases hp with rfl | rfl | rfl | rfl
        · exact ⟨6, by decide, by decide, atI_nat (j := 1) rfl⟩
        · exact ⟨6, by decide, by decide, atI_nat (j := 2) rfl⟩
        · exact ⟨6, by decide, by decide, atI_nat (j := 3) rfl⟩
        · exact ⟨5, by decide, by decide, atI_nat (j := 4) rfl⟩
      refine ⟨_, rfl, f, _, _, _, rfl, rfl, SqL.of upd_same, hat2, b, l, m, rfl, B4.same sf, m0, by omega, fun x H5 x0 x1 k5 B5 => ⟨szd rfl, fun t ht => ?_⟩⟩
      have st := Same.new (o := .tup [V.int (1 + r0), V.int (1 + pg), V.int x]) ht
      have ep : (1 + pg) = (((1 + pg).toNat : Nat) : Int) := by omega
      have ex : x = ((x.toNat : Nat) : Int) := by omega
      refine k t (1 + r0) (1 + pg).toNat x.toNat _ ((((k13.trans k4).trans (But.of sf)).trans k5).trans (But.of st)) (B5.same st) ?_ (by omega) (by omega) (sizes_small (by omega) (by omega) (by omega))
      rw [upd_same, ← ep, ← ex]
theorem sc_law : FnScope ["_law_script", "_law_box", "_law_rooms", "_law_pages", "_law_long", "_law_rule", "_law_rows", "_law_turn", "_law_longer", "_law_row", "_law_wide", "_law_best_so_far", "_law_more", "_law_again", "_law_found", "_law_page"] ["_law_script"] (defScope (top 46)) := ⟨rfl, rfl, rfl, by decide +kernel, rfl, by decide +kernel, by decide +kernel⟩
theorem ok_law (T : Prog K mg) {es : Array DictEntry} {nd : Nat} (TB_RULES : KDict K w T.a_RULES es nd) {f : Addr} {fd : FuncData} (F : FunD K "law" "law" (defArgs (top 46)) (defBody (top 46)) (defScope (top 46)) [] [] f fd) : FnOk P w K mg base CX0 8 f fd ["_law_script"] (spLaw K) := by
  have G_law_begun := ok_law_begun (P := P) (w := w) (base := base) T
  have G_law_sizes := ok_law_sizes (P := P) (w := w) (base := base) T
  have G_law_take := ok_law_take (P := P) (w := w) (base := base) T
  have G_worst := ok_worst (P := P) (w := w) (base := base) T TB_RULES
  have G_law_seldom := ok_law_seldom (P := P) (w := w) (base := base) T
  have G_law_alike := ok_alike (P := P) (w := w) (base := base) T 5
  have G_law_lacks := ok_law_lacks (P := P) (w := w) (base := base) T
  have G_law_fewest := ok_law_fewest (P := P) (w := w) (base := base) T
  refine F.ok sc_law (fun vs H Q E h => ?len) (fun cdv A outer s H vs Q E hr h => ?body)
  case len =>
    obtain ⟨a, ns, rfl, _⟩ := h
    rfl
  case body =>
    have hr_law_begun : Room 1 _ := hr.mono (by decide)
    have hr_law_sizes : Room 2 _ := hr.mono (by decide)
    have hr_law_take : Room 1 _ := hr.mono (by decide)
    have hr_worst : Room 7 _ := hr.mono (by decide)
    have hr_law_seldom : Room 1 _ := hr.mono (by decide)
    have hr_law_alike : Room 5 _ := hr.mono (by decide)
    have hr_law_lacks : Room 2 _ := hr.mono (by decide)
    have hr_law_fewest : Room 1 _ := hr.mono (by decide)
    have hu := hu_of hr
    obtain ⟨a, ns, rfl, hS, hl63, k⟩ := h
    refine ⟨_, PSs.nox (pss_cons (ps_set (i := 1) sc_law.nd rfl (Or.inl rfl) (pe_call G_law_begun hr_law_begun (by rfl) T.law_begun.g T.law_begun.fn.kp T.law_begun.bd .nil pass0 (pa_cons (pv 0) pa_nil)))
        (pss_cons (ps_asg (pe_call G_law_sizes hr_law_sizes (by rfl) T.law_sizes.g T.law_sizes.fn.kp T.law_sizes.bd .nil pass0 (pa_cons (pv 1) pa_nil)) (pg_tup rfl (pgs_cons (pg_name (i := 2) sc_law.nd rfl (Or.inl rfl)) (pgs_cons (pg_name (i := 3) sc_law.nd rfl (Or.inl rfl)) (pgs_cons (pg_name (i := 4) sc_law.nd rfl (Or.inl rfl)) pgs_nil)))))
        (pss_cons (ps_set (i := 5) sc_law.nd rfl (Or.inl rfl) (pe_ix ix_list (pe_lst (pa_cons pe_str (pa_cons pe_str (pa_cons pe_str pa_nil)))) (pe_call G_law_take hr_law_take (by rfl) T.law_take.g T.law_take.fn.kp T.law_take.bd .nil pass0 (pa_cons (pv 1) (pa_cons pe_int pa_nil))) (fun _ _ => rfl)))
        (pss_cons (ps_set (i := 6) sc_law.nd rfl (Or.inl rfl) (pe_lst (pa_cons (pe_lst pa_nil) pa_nil)))
        (pss_cons (ps_for PassesOwn.never rfl (pi_range1 (by rfl) T.range (pa_cons (pv 4) pa_nil)) (pg_name (i := 7) sc_law.nd rfl (Or.inl rfl))
        (pss_cons (ps_set (i := 8) sc_law.nd rfl (Or.inl rfl) (pe_lst pa_nil))
        (pss_cons (ps_for PassesOwn.never rfl (pi_list (pv 6)) (pg_name (i := 9) sc_law.nd rfl (Or.inr rfl))
        (pss_one (ps_expr (pe_bm PySem.F.plainAttrs_list PySem.F.slot_list_extend PySem.F.type_list_extend mt_extend (pv 8) (pa_cons (pe_lc (own := [("_law_page", 15)]) (g := gName 15) rfl sc_law.nd ((pi_range1 (by rfl) T.range (pa_cons (pv 3) pa_nil))) (blkOk_by (own := [("_law_page", 15)]) (N := ["_law_script", "_law_box", "_law_rooms", "_law_pages", "_law_long", "_law_rule", "_law_rows", "_law_turn", "_law_longer", "_law_row", "_law_wide", "_law_best_so_far", "_law_more", "_law_again", "_law_found", "_law_page"]) (sc := defScope (top 46)) (by decide +kernel)) (fun _ _ _ _ _ => (by exact (pg_name (i := 15) sc_law.nd rfl (Or.inl rfl)))) (fun _ _ _ _ _ => (by exact pts_nil)) (fun _ _ _ _ _ => (by exact (pe_op op_cat (pv 9) (pe_lst (pa_cons (pv 15) pa_nil)))))) pa_nil)))))
        (pss_one (ps_set (i := 6) sc_law.nd rfl (Or.inl rfl) (pv 8))))))
        (pss_cons (ps_set (i := 10) sc_law.nd rfl (Or.inl rfl) (pe_callTy call_int1 (by rfl) T.int_ (by decide +kernel) (pa_cons (pe_cmpR op_gt (pv 2) pe_int (nomark _)) pa_nil)))
        (pss_cons (ps_set (i := 11) sc_law.nd rfl (Or.inl rfl) (pe_tup (pa_cons (pe_un un_neg pe_int) (pa_cons (pe_lst pa_nil) pa_nil))))
        (pss_cons (ps_for PassesOwn.never rfl (pi_list (pv 6)) (pg_name (i := 9) sc_law.nd rfl (Or.inr rfl))
        (pss_cons (ps_set (i := 12) sc_law.nd rfl (Or.inl rfl) (pe_op op_sub (pe_callB call_len_seq (by rfl) T.len PySem.boot_len (pa_cons (pe_call G_law_lacks hr_law_lacks (by rfl) T.law_lacks.g T.law_lacks.fn.kp T.law_lacks.bd .nil pass0 (pa_cons (pv 2) (pa_cons (pv 9) (pa_cons (pv 5) pa_nil)))) pa_nil)) (pe_call G_law_seldom hr_law_seldom (by rfl) T.law_seldom.g T.law_seldom.fn.kp T.law_seldom.bd .nil pass0 (pa_cons (pv 2) (pa_cons (pv 9) pa_nil)))))
        (C8.pss_cut (ps_if (PW.pt (pw_and (pt_cmpR op_eq (pv 10) pe_int (nomark _)) (pw_and (pt_cmpR op_lt (pe_callB call_len_seq (by rfl) T.len PySem.boot_len (pa_cons (pv 6) pa_nil)) pe_int (nomark _)) (pw_and1 (pt_cmpR op_ne (pe_call G_law_seldom hr_law_seldom (by rfl) T.law_seldom.g T.law_seldom.fn.kp T.law_seldom.bd .nil pass0 (pa_cons (pv 2) (pa_cons (pv 9) pa_nil))) (pe_call G_law_fewest hr_law_fewest (by rfl) T.law_fewest.g T.law_fewest.fn.kp T.law_fewest.bd .nil pass0 (pa_cons (pv 2) (pa_cons (pv 9) pa_nil))) (nomark _))))))
        (pss_one (ps_ret pe_bl))
        pss_nil)
        (pss_one (ps_if (pt_cmpR op_gt (pv 12) (pe_ix ix_tup (pv 11) pe_int (fun _ _ => rfl)) (nomark _))
        (pss_one (ps_set (i := 11) sc_law.nd rfl (Or.inl rfl) (pe_tup (pa_cons (pv 12) (pa_cons (pv 9) pa_nil)))))
        pss_nil)))))
        (pss_cons (ps_for PassesOwn.never rfl (pi_range1 (by rfl) T.range (pa_cons pe_int pa_nil)) (pg_name (i := 13) sc_law.nd rfl (Or.inl rfl))
        (pss_cons (ps_set (i := 14) sc_law.nd rfl (Or.inl rfl) (pe_call G_worst hr_worst (by rfl) T.worst.g T.worst.fn.kp T.worst.bd .nil pass0 (pa_cons (pv 2) (pa_cons (pv 3) (pa_cons (pv 4) (pa_cons (pv 5) pa_nil))))))
        (pss_cons (ps_if (pt_not (pt_val (pe_call G_law_alike hr_law_alike (by rfl) T.law_alike.g T.law_alike.fn.kp T.law_alike.bd .nil pass0 (pa_cons (pv 14) (pa_cons (pv 11) pa_nil)))))
        (pss_one (ps_ret pe_bl))
        pss_nil)
        (pss_one (ps_expr (pe_bm PySem.F.plainAttrs_list PySem.F.slot_list_append PySem.F.type_list_append mt_append (pe_ix ix_tup (pv 14) pe_int (fun _ _ => rfl)) (pa_cons pe_int pa_nil)))))))
        (pss_one (ps_ret pe_bl))))))))))), ?_⟩
    refine ⟨_, rfl, a, ns, rfl, hS, hl63, fun b l H1 hb hl s1 B1 => ?_⟩
    refine ⟨_, rfl, b, l, rfl, B1, fun t0 n p kk H2 k2 B2 ht0 n1 n8 hz => ⟨t0, _, rfl, SqT.of ht0, rfl, _, _, rfl, _, _, rfl, _, _, rfl, rfl, ?_⟩⟩
    -- rule
    refine ⟨szd rfl, fun m0 hm0 => ?_⟩
    have sM := Same.new (o := .lst [V.str "hand", V.str "unseen", V.str "first"]) hm0
    have mS : m0 ∉ [b, l] := B2.off hm0
    refine ⟨_, rfl, b, l, 3, rfl, B2.same sM, by decide, by decide, fun r1 H3 r10 r11 k3 B3 => ?_⟩
    obtain ⟨rule, hrule⟩ := rl_menu2 r10 r11
    refine ⟨m0, _, _, _, rfl, rfl, SqL.of (k3 _ _ upd_same mS), hrule, ?_⟩
    have hn0 : 0 < n.toNat := by omega
    have hz1 := hz.1
    have hz2 := hz.2.1
    have hz3 := hz.2.2.1
    have hz4 := hz.2.2.2
    -- rows
    refine ⟨szd rfl, fun e0 he0 => ⟨szd rfl, fun d0 hd0 => ?_⟩⟩
    have sE := Same.new (o := .lst []) he0
    have sD := Same.new (o := .lst [V.ref e0]) hd0
    refine ⟨_, rfl, _, rfl, by omega, by omega, for_range (lo := 0) (n := ((kk : Nat) : Int).toNat) (fun i σ H' => ∃ (d : Addr) (as : List Addr), (∃ v7 v8 v9 v10 v11 v12 v13 v14 v15 : Option V, σ = [some (.ref a), some (.ref b), some (.int n), some (.int (p : Nat)), some (.int (kk : Nat)), some (.str rule.s), some (.ref d), v7, v8, v9, v10, v11, v12, v13, v14, v15]) ∧ H' d = some (.lst (as.map V.ref)) ∧ RowsAt H' as (allRows p i)) ?_ ?_ ?_⟩
    · exact ⟨d0, [e0], ⟨_, _, _, _, _, _, _, _, _, rfl⟩, upd_same, RowsAt.nil.snoc (sD _ _ upd_same)⟩
    · rintro i σ H4 hi ⟨d, as, ⟨v7, v8, v9, v10, v11, v12, v13, v14, v15, rfl⟩, hd4, ra⟩
      have hik : i < kk := by omega
      have hl := rows_len p i
      have rok := rows_ok p i
      have e1 : allRows p (i + 1) = (allRows p i).flatMap fun row => (rng p).map fun x => row ++ [x] := rfl
      have big : (allRows p i).length * p ≤ 4096 := by
        have := hz4 (i + 1) hik
        rw [hl, ← Nat.pow_succ]
        exact this
      rw [e1]
      generalize allRows p i = rows at *
      have lenf : ∀ t, ((rows.take t).flatMap fun row => (rng p).map fun x => row ++ [x]).length = (rows.take t).length * p := fun t => flat_len (c := p) _ (fun x => by rw [List.length_map, rng_len])
      refine ⟨szd rfl, fun e he => ?_⟩
      have se := Same.new (o := .lst []) he
      refine ⟨_, rfl, d, rfl, ⟨_, SqL.of (se _ _ hd4)⟩, for_list (K := K) (a := d) (xs := as.map V.ref) (fun t σ H' => (∃ v7 v9 v10 v11 v12 v13 v14 v15 : Option V, σ = [some (.ref a), some (.ref b), some (.int n), some (.int (p : Nat)), some (.int (kk : Nat)), some (.str rule.s), some (.ref d), v7, some (.ref e), v9, v10, v11, v12, v13, v14, v15]) ∧ Same H4 H' ∧ ∃ bs : List Addr, H' e = some (.lst (bs.map V.ref)) ∧ (∀ x ∈ bs, x ≠ e) ∧ RowsAt H' bs ((rows.take t).flatMap fun row => (rng p).map fun x => row ++ [x])) ⟨⟨_, _, _, _, _, _, _, _, rfl⟩, se, [], upd_same, fun x hx => by (cases hx), RowsAt.nil⟩ (fun t σ H' _ h => SqL.of (h.2.1 _ _ hd4)) ?_ ?_⟩
      · rintro t y σ H5 hy ⟨⟨v7, v9, v10, v11, v12, v13, v14, v15, rfl⟩, s5, bs, he5, hbe, rb⟩
        rw [List.getElem?_map] at hy
        cases ea : as[t]? with
        | none => rw [ea] at hy; cases hy
        | some ad =>
          rw [ea] at hy
          cases Option.some.inj hy
          have htr : t < rows.length := by rw [← ra.len]; exact (List.getElem?_eq_some_iff.mp ea).1
          have er : rows[t]? = some (rows[t]'htr) := List.getElem?_eq_getElem htr
          have hrl := (rok _ (List.getElem_mem htr)).1
          have ha := s5 _ _ (ra.at_ t ad _ ea er)
          have lt := lenf t
          rw [List.length_take, Nat.min_eq_left (Nat.le_of_lt htr)] at lt
          have bnd : (t + 1) * p ≤ 4096 := Nat.le_trans (Nat.mul_le_mul_right p htr) big
          rw [Nat.succ_mul] at bnd
          rw [take_flatM er]
          have hbl := rb.len
          generalize rows[t]'htr = row at *
          generalize (rows.take t).flatMap (fun row => (rng p).map fun x => row ++ [x]) = done at *
          refine ⟨_, rfl, .inl ⟨rfl, _, SqL.of he5⟩, _, rfl, _, rfl, by omega, by omega, fun D hD => ?_⟩
          refine lc_range (lo := 0) (n := ((p : Nat) : Int).toNat) (fun j H' => Same H5 H' ∧ ∃ cs : List Addr, H' D = some (.lst (cs.map V.ref)) ∧ (∀ x ∈ cs, x ≠ D ∧ H5 x = none) ∧ RowsAt H' cs (((rng p).take j).map fun x => row ++ [x])) ⟨Same.new hD, [], upd_same, fun x hx => by (cases hx), RowsAt.nil⟩ ?_ ?_
          · rintro j H6 hj ⟨s6, cs, hD6, hcd, rc⟩
            have hj' : j < p := by omega
            have hcl : cs.length = j := by rw [rc.len, List.length_map, List.length_take, rng_len, Nat.min_eq_left (Nat.le_of_lt hj')]
            rw [take_snoc (rng_at hj'), List.map_append]
            have ha6 := s6 _ _ ha
            refine ⟨rfl, _, rfl, _, rfl, szd rfl, fun u hu => ?_⟩
            have sU := Same.new (o := .lst [V.int (0 + (j : Int))]) hu
            refine ⟨ad, u, _, _, rfl, rfl, sU _ _ ha6, upd_same, sz (by rw [il_len]; simp; omega), fun z hz => ?_⟩
            have sZ := Same.new (o := .lst (il row ++ [V.int (0 + (j : Int))])) hz
            have hD7 := sZ _ _ (sU _ _ hD6)
            have zD : z ≠ D := Ne.symm (ne_fresh (sU _ _ hD6) hz)
            have z5 : H5 z = none := Same.back s6 (Same.back sU hz)
            have ez : upd (upd (upd H6 u (.lst [V.int (0 + (j : Int))])) z (.lst (il row ++ [V.int (0 + (j : Int))]))) D (.lst (cs.map V.ref ++ [V.ref z])) z = some (.lst (il (row ++ [((j : Nat) : Int)]))) := by
              rw [upd_ne zD, upd_same, ← il_snoc, Int.zero_add]
            refine ⟨_, hD7, szl (by rw [List.length_map]; omega), Same.put ((s6.trans sU).trans sZ) hD, cs ++ [z], by rw [upd_same, List.map_append]; rfl, fun x hx => ?_, ?_⟩
            · rcases List.mem_append.mp hx with q | q
              · exact hcd x q
              · rw [List.mem_singleton.mp q]; exact ⟨zD, z5⟩
            · exact (((rc.same sU).same sZ).put fun x hx => (hcd x hx).1).snoc ez
          · rintro H6 ⟨s6, cs, hD6, hcd, rc⟩
            have ep : ((p : Nat) : Int).toNat = p := by omega
            rw [ep, List.take_of_length_le (by rw [rng_len]; exact Nat.le_refl _)] at rc
            have hcl : cs.length = p := by rw [rc.len, List.length_map, rng_len]
            have he6 := s6 _ _ he5
            have hce : ∀ x ∈ cs, x ≠ e := fun x hx => Ne.symm (ne_fresh he5 (hcd x hx).2)
            refine ⟨e, D, _, _, rfl, rfl, he6, hD6, sz (by rw [List.length_map, List.length_map]; omega), ⟨_, _, _, _, _, _, _, _, rfl⟩, Same.put (s5.trans s6) he, bs ++ cs, by rw [upd_same, List.map_append], fun x hx => ?_, ((rb.same s6).put hbe).app (rc.put hce)⟩
            rcases List.mem_append.mp hx with q | q
            · exact hbe x q
            · exact hce x q
      · rintro σ H5 ⟨⟨v7, v9, v10, v11, v12, v13, v14, v15, rfl⟩, s5, bs, he5, hbe, rb⟩
        rw [List.take_of_length_le (by rw [List.length_map, ra.len]; exact Nat.le_refl _)] at rb
        exact ⟨_, rfl, e, bs, ⟨_, _, _, _, _, _, _, _, _, rfl⟩, he5, rb⟩
    · rintro σ H4 ⟨d, as, ⟨v7, v8, v9, v10, v11, v12, v13, v14, v15, rfl⟩, hd4, ra⟩
      have ek : ((kk : Nat) : Int).toNat = kk := by omega
      rw [ek] at ra
      have hl := rows_len p kk
      have pos : 0 < (allRows p kk).length := by rw [hl]; exact Nat.pow_pos (by omega)
      have rok : ∀ row ∈ allRows p kk, RowOk row := fun row h => by
        have ⟨a1, a2⟩ := rows_ok p kk row h
        exact ⟨by omega, fun x hx => by have := a2 x hx; omega⟩
      have wrs : ∀ {m m' : Int} {r r' : List Int}, IsWorst (moreL n.toNat rule) (allRows p kk) m r → IsWorst (moreL n.toNat rule) (allRows p kk) m' r' → m = m' ∧ r = r' := fun h h' => h.one h'
      obtain ⟨rows, hrows⟩ : ∃ rows, rows = allRows p kk := ⟨_, rfl⟩
      rw [← hrows] at ra pos rok wrs
      -- wide, best so far
      refine ⟨_, rfl, _, _, rfl, rfl, .inr ⟨_, rfl, ?_⟩⟩
      refine ⟨_, rfl, szd rfl, fun z0 hz0 => ⟨szd rfl, fun t1 ht1 => ?_⟩⟩
      have sz0 := Same.new (o := .lst []) hz0
      have st1 := Same.new (o := .tup [V.int (-1), V.ref z0]) ht1
      have s41 := sz0.trans st1
      dsimp only
      generalize (if decide ((3 : Int) < n) = true then (1 : Int) else 0) = wide
      let Bst : Nat → Hp → Addr → Prop := fun t H' tb => ∃ (rb : Addr) (m : Int) (rw_ : List Int), H' tb = some (.tup [.int m, .ref rb]) ∧ H' rb = some (.lst (il rw_)) ∧ ((t = 0 ∧ m = -1 ∧ rw_ = []) ∨ IsWorst (moreL n.toNat rule) (rows.take t) m rw_)
      refine ⟨_, rfl, d, rfl, ⟨_, SqL.of (s41 _ _ hd4)⟩, for_list (K := K) (a := d) (xs := as.map V.ref) (fun t σ H' => ∃ tb : Addr, (∃ v7 v8 v9 v12 v13 v14 v15 : Option V, σ = [some (.ref a), some (.ref b), some (.int n), some (.int (p : Nat)), some (.int (kk : Nat)), some (.str rule.s), some (.ref d), v7, v8, v9, some (.int wide), some (.ref tb), v12, v13, v14, v15]) ∧ Same H4 H' ∧ Bst t H' tb) ⟨t1, ⟨_, _, _, _, _, _, _, rfl⟩, s41, z0, -1, [], upd_same, st1 _ _ upd_same, .inl ⟨rfl, rfl, rfl⟩⟩ (fun t σ H' _ h => by obtain ⟨_, _, s, _⟩ := h; exact SqL.of (s _ _ hd4)) ?_ ?_⟩
      · rintro t y σ H5 hy ⟨tb, ⟨v7, v8, v9, v12, v13, v14, v15, rfl⟩, s5, rb, m, rw_, htb, hrb, hw⟩
        rw [List.getElem?_map] at hy
        cases ea : as[t]? with
        | none => rw [ea] at hy; cases hy
        | some ad =>
          rw [ea] at hy
          cases Option.some.inj hy
          have htr : t < rows.length := by rw [← ra.len]; exact (List.getElem?_eq_some_iff.mp ea).1
          have er : rows[t]? = some (rows[t]'htr) := List.getElem?_eq_getElem htr
          have hro := rok _ (List.getElem_mem htr)
          have ha := s5 _ _ (ra.at_ t ad _ ea er)
          have ets := take_snoc er
          have mp := moreL_pos hn0 rule (rows[t]'htr)
          generalize rows[t]'htr = row at *
          -- more
          refine ⟨_, rfl, _, rfl, _, rfl, n, ad, row, rule, rfl, n1, n8, SqL.of ha, hro, fun c H6 hc s6 hc6 => ?_⟩
          have ha6 := s6 _ _ ha
          refine ⟨c, _, rfl, .inl (SqL.of hc6), ?_⟩
          refine ⟨_, rfl, _, rfl, n, ad, row, rfl, n1, n8, SqL.of ha6, hro, fun H7 s7 => ⟨_, _, rfl, rfl, ?_⟩⟩
          have em : ((NL (lacksR n.toNat rule row)).length : Int) - (((bestS n.toNat row).lacks.length : Nat) : Int) = moreL n.toNat rule row := by rw [List.length_map]; rfl
          dsimp only
          rw [em]
          have s57 := s6.trans s7
          let M : L2.St → Hp → Prop := fun σ' H' => (∃ v7 v8 v13 v14 v15 : Option V, σ' = [some (.ref a), some (.ref b), some (.int n), some (.int (p : Nat)), some (.int (kk : Nat)), some (.str rule.s), some (.ref d), v7, v8, some (.ref ad), some (.int wide), some (.ref tb), some (.int (moreL n.toNat rule row)), v13, v14, v15]) ∧ Same H5 H'
          refine ⟨M, ?_, ?_⟩
          · refine ⟨_, rfl, rfl, _, rfl, ?_⟩
            refine ite2 (fun _ => ?_) (fun _ => iteF ⟨⟨_, _, _, _, _, rfl⟩, s57⟩)
            refine ⟨_, rfl, d, _, rfl, .inl (SqL.of ((s5.trans s57) _ _ hd4)), _, _, rfl, rfl, _, rfl, ?_⟩
            refine ite2 (fun _ => ?_) (fun _ => iteF ⟨⟨_, _, _, _, _, rfl⟩, s57⟩)
            refine ⟨_, rfl, _, rfl, n, ad, row, rfl, n1, n8, SqL.of (s7 _ _ ha6), hro, fun H8 s8 => ?_⟩
            refine ⟨_, rfl, _, rfl, n, ad, row, rfl, n1, n8, SqL.of (s8 _ _ (s7 _ _ ha6)), hro, fun H9 s9 => ?_⟩
            refine ⟨rfl, _, rfl, ?_⟩
            exact ifF (by rw [decide_eq_true rfl]; rfl) ⟨⟨_, _, _, _, _, rfl⟩, (s57.trans s8).trans s9⟩
          · rintro σ H8 ⟨⟨v7, v8, v13, v14, v15, rfl⟩, s8⟩
            have htb8 := s8 _ _ htb
            have hrb8 := s8 _ _ hrb
            refine ⟨_, rfl, _, rfl, tb, _, _, _, rfl, rfl, SqT.of htb8, atI_nat (j := 0) rfl, _, _, rfl, rfl, _, rfl, ?_⟩
            have nw : IsWorst (moreL n.toNat rule) (rows.take (t + 1)) (if moreL n.toNat rule row > m then moreL n.toNat rule row else m) (if moreL n.toNat rule row > m then row else rw_) := by
              rcases hw with ⟨h1, h2, h3⟩ | hw
              · subst h1
                have e0 : rows.take (0 + 1) = [row] := by rw [ets]; rfl
                rw [e0, if_pos (by omega), if_pos (by omega)]
                exact IsWorst.first
              · rw [ets]
                exact hw.next
            refine ite2 (fun h => ?_) (fun h => ?_)
            · have hgt : moreL n.toNat rule row > m := of_decide_eq_true h
              rw [if_pos hgt, if_pos hgt] at nw
              refine ⟨_, rfl, _, rfl, szd rfl, fun t2 ht2 => ?_⟩
              have st2 := Same.new (o := .tup [V.int (moreL n.toNat rule row), V.ref ad]) ht2
              exact ⟨t2, ⟨_, _, _, _, _, _, _, rfl⟩, (s5.trans s8).trans st2, ad, _, row, upd_same, st2 _ _ (s8 _ _ ha), .inr nw⟩
            · have hgt : ¬ moreL n.toNat rule row > m := of_decide_eq_false (by simpa using h)
              rw [if_neg hgt, if_neg hgt] at nw
              exact ⟨tb, ⟨_, _, _, _, _, _, _, rfl⟩, s5.trans s8, rb, m, rw_, htb8, hrb8, .inr nw⟩
      · rintro σ H5 ⟨tb, ⟨v7, v8, v9, v12, v13, v14, v15, rfl⟩, s5, rb, m, rw_, htb, hrb, hw⟩
        have hw : IsWorst (moreL n.toNat rule) rows m rw_ := by
          rw [List.take_of_length_le (by rw [List.length_map, ra.len]; exact Nat.le_refl _)] at hw
          rcases hw with ⟨h1, _, _⟩ | hw
          · rw [List.length_map, ra.len] at h1; omega
          · exact hw
        have hmem : ∃ j : Nat, rows[j]? = some rw_ := by obtain ⟨j, h1, _⟩ := hw.ex; exact ⟨j, h1⟩
        have hwl : rw_.length ≤ 100 := by obtain ⟨j, h1⟩ := hmem; exact (rok _ (List.mem_of_getElem? h1)).1
        -- twice
        refine ⟨2, rfl, by decide, by decide, for_range (lo := 0) (n := 2) (fun j σ H' => (∃ v7 v8 v9 v12 v13 v14 v15 : Option V, σ = [some (.ref a), some (.ref b), some (.int n), some (.int (p : Nat)), some (.int (kk : Nat)), some (.str rule.s), some (.ref d), v7, v8, v9, some (.int wide), some (.ref tb), v12, v13, v14, v15]) ∧ H' tb = some (.tup [.int m, .ref rb]) ∧ H' rb = some (.lst (il rw_))) ⟨⟨_, _, _, _, _, _, _, rfl⟩, htb, hrb⟩ ?_ ?_⟩
        · rintro j σ H6 hj ⟨⟨v7, v8, v9, v12, v13, v14, v15, rfl⟩, htb6, hrb6⟩
          refine ⟨_, rfl, _, rfl, _, rfl, _, rfl, n, p, kk, rule, rfl, n1, n8, hz, fun t2 a2 m2 row2 H7 ht2 ha2 ta2 s7 et2 ea2 hw2 => ?_⟩
          rw [← hrows] at hw2
          obtain ⟨em, er⟩ := wrs hw2 hw
          subst em
          subst er
          have htb7 := s7 _ _ htb6
          have hrb7 := s7 _ _ hrb6
          have dpt : ∀ {t : Addr} {q : Addr}, H7 t = some (.tup [.int m2, .ref q]) → H7 q = some (.lst (il row2)) → Dp K H7 (.ref t) (.tuple [.int m2, pd row2]) := fun h1 h2 => .tup (SqT.of h1) (.cons (.int _) (.cons (dp_il (SqL.of h2)) .nil))
          refine ⟨_, rfl, _, rfl, _, _, .tuple [.int m2, pd row2], rfl, dpt et2 ea2, dpt htb7 hrb7, ?_, ⟨by show 2 ≤ 1000; decide, trivial, small_pd (by omega), trivial⟩, _, rfl, ?_⟩
          · have := depth_pd row2
            show max 0 (max (PyData.depth _) 0) + 1 < 5
            omega
          refine iteF ?_
          have ne : ∀ {c : Addr} {o : HO}, H6 c = some o → c ≠ a2 := fun q => ne_fresh q ha2
          refine ⟨_, rfl, t2, _, _, V.ref a2, rfl, rfl, SqT.of et2, atI_nat (j := 1) rfl, .inl ⟨rfl, _, SqL.of ea2⟩, a2, _, _, rfl, rfl, ea2, szl (by rw [il_len]; omega), ⟨_, _, _, _, _, _, _, rfl⟩, ?_, ?_⟩
          · rw [upd_ne (ne htb6)]; exact htb7
          · rw [upd_ne (ne hrb6)]; exact hrb7
        · rintro σ H6 ⟨_, _⟩
          exact k H6
end
end CK

namespace CK
open PySem PySem.Spec PyProof.Rows L2
/-! ### the head: facts by names, one run of the top -/
def fn : List He.DefD := [
  ⟨("check_rooms", none), "check_rooms", "check_rooms", defArgs (top 10), defBody (top 10), defScope (top 10), [], []⟩,
  ⟨("is_page", none), "is_page", "is_page", defArgs (top 11), defBody (top 11), defScope (top 11), [], []⟩,
  ⟨("check_page", none), "check_page", "check_page", defArgs (top 12), defBody (top 12), defScope (top 12), [], []⟩,
  ⟨("find_spells", none), "find_spells", "find_spells", defArgs (top 14), defBody (top 14), defScope (top 14), [], []⟩,
  ⟨("find_best", none), "find_best", "find_best", defArgs (top 16), defBody (top 16), defScope (top 16), [], []⟩,
  ⟨("_farthest", none), "_farthest", "_farthest", defArgs (top 17), defBody (top 17), defScope (top 17), [], []⟩,
  ⟨("_by_hand", none), "_by_hand", "_by_hand", defArgs (top 21), defBody (top 21), defScope (top 21), [], []⟩,
  ⟨("_by_unseen", none), "_by_unseen", "_by_unseen", defArgs (top 22), defBody (top 22), defScope (top 22), [], []⟩,
  ⟨("_by_first", none), "_by_first", "_by_first", defArgs (top 23), defBody (top 23), defScope (top 23), [], []⟩,
  ⟨("_by_line", none), "_by_line", "_by_line", defArgs (top 24), defBody (top 24), defScope (top 24), [], []⟩,
  ⟨("check_rule", none), "check_rule", "check_rule", defArgs (top 26), defBody (top 26), defScope (top 26), [], []⟩,
  ⟨("find_lacks", none), "find_lacks", "find_lacks", defArgs (top 27), defBody (top 27), defScope (top 27), [], []⟩,
  ⟨("worst", none), "worst", "worst", defArgs (top 31), defBody (top 31), defScope (top 31), [], []⟩,
  ⟨("_check_size", none), "_check_size", "_check_size", defArgs (top 32), defBody (top 32), defScope (top 32), [], []⟩,
  ⟨("_are_too_many", none), "_are_too_many", "_are_too_many", defArgs (top 33), defBody (top 33), defScope (top 33), [], []⟩,
  ⟨("_all_rows", none), "_all_rows", "_all_rows", defArgs (top 34), defBody (top 34), defScope (top 34), [], []⟩,
  ⟨("_more_lacks", none), "_more_lacks", "_more_lacks", defArgs (top 35), defBody (top 35), defScope (top 35), [], []⟩,
  ⟨("_law_begun", none), "_law_begun", "_law_begun", defArgs (top 37), defBody (top 37), defScope (top 37), [], []⟩,
  ⟨("_law_take", none), "_law_take", "_law_take", defArgs (top 38), defBody (top 38), defScope (top 38), [], []⟩,
  ⟨("_law_alike", none), "_law_alike", "_law_alike", defArgs (top 39), defBody (top 39), defScope (top 39), [], []⟩,
  ⟨("_law_dial", none), "_law_dial", "_law_dial", defArgs (top 40), defBody (top 40), defScope (top 40), [], []⟩,
  ⟨("_law_ask", none), "_law_ask", "_law_ask", defArgs (top 41), defBody (top 41), defScope (top 41), [], []⟩,
  ⟨("_law_lacks", none), "_law_lacks", "_law_lacks", defArgs (top 42), defBody (top 42), defScope (top 42), [], []⟩,
  ⟨("_law_fewest", none), "_law_fewest", "_law_fewest", defArgs (top 43), defBody (top 43), defScope (top 43), [], []⟩,
  ⟨("_law_seldom", none), "_law_seldom", "_law_seldom", defArgs (top 44), defBody (top 44), defScope (top 44), [], []⟩,
  ⟨("_law_sizes", none), "_law_sizes", "_law_sizes", defArgs (top 45), defBody (top 45), defScope (top 45), [], []⟩,
  ⟨("law", none), "law", "law", defArgs (top 46), defBody (top 46), defScope (top 46), [], []⟩,
  ⟨("Dial", some "__init__"), "__init__", "Dial.__init__", defArgs (inClass (top 19) 0), defBody (inClass (top 19) 0), defScope (inClass (top 19) 0), [], []⟩,
  ⟨("Dial", some "ask"), "ask", "Dial.ask", defArgs (inClass (top 19) 1), defBody (inClass (top 19) 1), defScope (inClass (top 19) 1), [], []⟩,
  ⟨("Dial", some "pages"), "pages", "Dial.pages", defArgs (inClass (top 19) 2), defBody (inClass (top 19) 2), defScope (inClass (top 19) 2), [], []⟩,
  ⟨("Dial", some "looked"), "looked", "Dial.looked", defArgs (inClass (top 19) 3), defBody (inClass (top 19) 3), defScope (inClass (top 19) 3), [], []⟩,
  ⟨("Dial", some "points"), "points", "Dial.points", defArgs (inClass (top 19) 4), defBody (inClass (top 19) 4), defScope (inClass (top 19) 4), [], []⟩,
  ⟨("Dial", some "_pass_marked"), "_pass_marked", "Dial._pass_marked", defArgs (inClass (top 19) 6), defBody (inClass (top 19) 6), defScope (inClass (top 19) 6), [], []⟩,
  ⟨("Dial", some "_exchange"), "_exchange", "Dial._exchange", defArgs (inClass (top 19) 7), defBody (inClass (top 19) 7), defScope (inClass (top 19) 7), [], []⟩,
  ⟨("Dial", some "_go_on"), "_go_on", "Dial._go_on", defArgs (inClass (top 19) 8), defBody (inClass (top 19) 8), defScope (inClass (top 19) 8), [], []⟩]
def fa : List He.Fa := [
  .glo "check_rooms", .glo "is_page", .glo "check_page", .glo "find_spells", .glo "find_best", .glo "_farthest", .glo "_by_hand", .glo "_by_unseen", .glo "_by_first", .glo "_by_line", .glo "check_rule", .glo "find_lacks", .glo "worst", .glo "_check_size", .glo "_are_too_many", .glo "_all_rows", .glo "_more_lacks", .glo "_law_begun", .glo "_law_take", .glo "_law_alike", .glo "_law_dial", .glo "_law_ask", .glo "_law_lacks", .glo "_law_fewest", .glo "_law_seldom", .glo "_law_sizes", .glo "law", .cls "Dial", .glo "Dial", .noat "Dial" "_hand", .noat "Dial" "_held", .noat "Dial" "_lacks", .noat "Dial" "_marks", .meth "Dial" "__init__", .meth "Dial" "ask", .meth "Dial" "pages", .meth "Dial" "looked", .meth "Dial" "points", .meth "Dial" "_pass_marked", .meth "Dial" "_exchange", .meth "Dial" "_go_on", .mkr "Dial", .int "MOST_ROOMS" 8, .int "PAGES" 12, .int "MOST_ROWS" 5000, .int "LONGEST" 5000, .free "bool", .free "dict", .free "enumerate", .free "int", .free "isinstance", .free "len", .free "list", .free "max", .free "min", .free "range", .free "sorted", .free "str", .free "tuple", .glo "RULES"]
def tb_RULES : List (Str × He.Dv) := [("hand", .glo "_by_hand"), ("unseen", .glo "_by_unseen"), ("first", .glo "_by_first")]
def xt (K : PySem.W.Frag) : Bool := true && He.valsB K (He.ga K "RULES") tb_RULES
theorem mkProg {K : PySem.W.Frag} {h : Heap} {mg : Str → Option Value} (X : K.In h) (G : h.Ns mainGlobals mg) (c : He.SaysD fa fn K) (cx : xt K = true) : Nonempty (Prog K mg) := by
  have x_RULES : He.valsB K (He.ga K "RULES") tb_RULES = true := (He.ba cx).2
  obtain ⟨_, F0⟩ := c.def_ 0 rfl
  obtain ⟨_, F1⟩ := c.def_ 1 rfl
  obtain ⟨_, F2⟩ := c.def_ 2 rfl
  obtain ⟨_, F3⟩ := c.def_ 3 rfl
  obtain ⟨_, F4⟩ := c.def_ 4 rfl
  obtain ⟨_, F5⟩ := c.def_ 5 rfl
  obtain ⟨_, F6⟩ := c.def_ 6 rfl
  obtain ⟨_, F7⟩ := c.def_ 7 rfl
  obtain ⟨_, F8⟩ := c.def_ 8 rfl
  obtain ⟨_, F9⟩ := c.def_ 9 rfl
  obtain ⟨_, F10⟩ := c.def_ 10 rfl
  obtain ⟨_, F11⟩ := c.def_ 11 rfl
  obtain ⟨_, F12⟩ := c.def_ 12 rfl
  obtain ⟨_, F13⟩ := c.def_ 13 rfl
  obtain ⟨_, F14⟩ := c.def_ 14 rfl
  obtain ⟨_, F15⟩ := c.def_ 15 rfl
  obtain ⟨_, F16⟩ := c.def_ 16 rfl
  obtain ⟨_, F17⟩ := c.def_ 17 rfl
  obtain ⟨_, F18⟩ := c.def_ 18 rfl
  obtain ⟨_, F19⟩ := c.def_ 19 rfl
  obtain ⟨_, F20⟩ := c.def_ 20 rfl
  obtain ⟨_, F21⟩ := c.def_ 21 rfl
  obtain ⟨_, F22⟩ := c.def_ 22 rfl
  obtain ⟨_, F23⟩ := c.def_ 23 rfl
  obtain ⟨_, F24⟩ := c.def_ 24 rfl
  obtain ⟨_, F25⟩ := c.def_ 25 rfl
  obtain ⟨_, F27⟩ := c.def_ 27 rfl
  obtain ⟨_, F28⟩ := c.def_ 28 rfl
  obtain ⟨_, F29⟩ := c.def_ 29 rfl
  obtain ⟨_, F30⟩ := c.def_ 30 rfl
  obtain ⟨_, F31⟩ := c.def_ 31 rfl
  obtain ⟨_, F32⟩ := c.def_ 32 rfl
  obtain ⟨_, F33⟩ := c.def_ 33 rfl
  obtain ⟨_, F34⟩ := c.def_ 34 rfl
  obtain ⟨t_MOST_ROOMS, i_MOST_ROOMS⟩ := He.int_ok X G (c.fact 42 rfl)
  obtain ⟨t_PAGES, i_PAGES⟩ := He.int_ok X G (c.fact 43 rfl)
  obtain ⟨t_MOST_ROWS, i_MOST_ROWS⟩ := He.int_ok X G (c.fact 44 rfl)
  obtain ⟨t_LONGEST, i_LONGEST⟩ := He.int_ok X G (c.fact 45 rfl)
  exact ⟨{
    check_rooms := ⟨_, _, F0, (FunD.bindsN F0 fun _ _ _ _ _ _ us hl => match us, hl with | [_], _ => rfl), He.glo_ok X G (c.fact 0 rfl)⟩,
    is_page := ⟨_, _, F1, (FunD.bindsN F1 fun _ _ _ _ _ _ us hl => match us, hl with | [_], _ => rfl), He.glo_ok X G (c.fact 1 rfl)⟩,
    check_page := ⟨_, _, F2, (FunD.bindsN F2 fun _ _ _ _ _ _ us hl => match us, hl with | [_], _ => rfl), He.glo_ok X G (c.fact 2 rfl)⟩,
    find_spells := ⟨_, _, F3, (FunD.bindsN F3 fun _ _ _ _ _ _ us hl => match us, hl with | [_], _ => rfl), He.glo_ok X G (c.fact 3 rfl)⟩,
    find_best := ⟨_, _, F4, (FunD.bindsN F4 fun _ _ _ _ _ _ us hl => match us, hl with | [_, _], _ => rfl), He.glo_ok X G (c.fact 4 rfl)⟩,
    farthest := ⟨_, _, F5, (FunD.bindsN F5 fun _ _ _ _ _ _ us hl => match us, hl with | [_], _ => rfl), He.glo_ok X G (c.fact 5 rfl)⟩,
    by_hand := ⟨_, _, F6, (FunD.bindsN F6 fun _ _ _ _ _ _ us hl => match us, hl with | [_, _], _ => rfl), He.glo_ok X G (c.fact 6 rfl)⟩,
    by_unseen := ⟨_, _, F7, (FunD.bindsN F7 fun _ _ _ _ _ _ us hl => match us, hl with | [_, _], _ => rfl), He.glo_ok X G (c.fact 7 rfl)⟩,
    by_first := ⟨_, _, F8, (FunD.bindsN F8 fun _ _ _ _ _ _ us hl => match us, hl with | [_, _], _ => rfl), He.glo_ok X G (c.fact 8 rfl)⟩,
    by_line := ⟨_, _, F9, (FunD.bindsN F9 fun _ _ _ _ _ _ us hl => match us, hl with | [_, _, _], _ => rfl), He.glo_ok X G (c.fact 9 rfl)⟩,
    check_rule := ⟨_, _, F10, (FunD.bindsN F10 fun _ _ _ _ _ _ us hl => match us, hl with | [_], _ => rfl), He.glo_ok X G (c.fact 10 rfl)⟩,
    find_lacks := ⟨_, _, F11, (FunD.bindsN F11 fun _ _ _ _ _ _ us hl => match us, hl with | [_, _, _], _ => rfl), He.glo_ok X G (c.fact 11 rfl)⟩,
    worst := ⟨_, _, F12, (FunD.bindsN F12 fun _ _ _ _ _ _ us hl => match us, hl with | [_, _, _, _], _ => rfl), He.glo_ok X G (c.fact 12 rfl)⟩,
    check_size := ⟨_, _, F13, (FunD.bindsN F13 fun _ _ _ _ _ _ us hl => match us, hl with | [_, _], _ => rfl), He.glo_ok X G (c.fact 13 rfl)⟩,
    are_too_many := ⟨_, _, F14, (FunD.bindsN F14 fun _ _ _ _ _ _ us hl => match us, hl with | [_, _], _ => rfl), He.glo_ok X G (c.fact 14 rfl)⟩,
    all_rows := ⟨_, _, F15, (FunD.bindsN F15 fun _ _ _ _ _ _ us hl => match us, hl with | [_, _], _ => rfl), He.glo_ok X G (c.fact 15 rfl)⟩,
    more_lacks := ⟨_, _, F16, (FunD.bindsN F16 fun _ _ _ _ _ _ us hl => match us, hl with | [_, _, _], _ => rfl), He.glo_ok X G (c.fact 16 rfl)⟩,
    law_begun := ⟨_, _, F17, (FunD.bindsN F17 fun _ _ _ _ _ _ us hl => match us, hl with | [_], _ => rfl), He.glo_ok X G (c.fact 17 rfl)⟩,
    law_take := ⟨_, _, F18, (FunD.bindsN F18 fun _ _ _ _ _ _ us hl => match us, hl with | [_, _], _ => rfl), He.glo_ok X G (c.fact 18 rfl)⟩,
    law_alike := ⟨_, _, F19, (FunD.bindsN F19 fun _ _ _ _ _ _ us hl => match us, hl with | [_, _], _ => rfl), He.glo_ok X G (c.fact 19 rfl)⟩,
    law_dial := ⟨_, _, F20, (FunD.bindsN F20 fun _ _ _ _ _ _ us hl => match us, hl with | [_], _ => rfl), He.glo_ok X G (c.fact 20 rfl)⟩,
    law_ask := ⟨_, _, F21, (FunD.bindsN F21 fun _ _ _ _ _ _ us hl => match us, hl with | [_, _], _ => rfl), He.glo_ok X G (c.fact 21 rfl)⟩,
    law_lacks := ⟨_, _, F22, (FunD.bindsN F22 fun _ _ _ _ _ _ us hl => match us, hl with | [_, _, _], _ => rfl), He.glo_ok X G (c.fact 22 rfl)⟩,
    law_fewest := ⟨_, _, F23, (FunD.bindsN F23 fun _ _ _ _ _ _ us hl => match us, hl with | [_, _], _ => rfl), He.glo_ok X G (c.fact 23 rfl)⟩,
    law_seldom := ⟨_, _, F24, (FunD.bindsN F24 fun _ _ _ _ _ _ us hl => match us, hl with | [_, _], _ => rfl), He.glo_ok X G (c.fact 24 rfl)⟩,
    law_sizes := ⟨_, _, F25, (FunD.bindsN F25 fun _ _ _ _ _ _ us hl => match us, hl with | [_], _ => rfl), He.glo_ok X G (c.fact 25 rfl)⟩,
    Dial := { C := _, cl := He.cls_ok (c.fact 27 rfl), g := He.glo_ok X G (c.fact 28 rfl), n_hand := He.noat_ok (c.fact 29 rfl), n_held := He.noat_ok (c.fact 30 rfl), n_lacks := He.noat_ok (c.fact 31 rfl), n_marks := He.noat_ok (c.fact 32 rfl), init := ⟨_, _, F27, (FunD.bindsN F27 fun _ _ _ _ _ _ us hl => match us, hl with | [_, _], _ => rfl), He.meth_ok (c.fact 33 rfl)⟩, ask := ⟨_, _, F28, (FunD.bindsN F28 fun _ _ _ _ _ _ us hl => match us, hl with | [_, _], _ => rfl), He.meth_ok (c.fact 34 rfl)⟩, pages := ⟨_, _, F29, (FunD.bindsN F29 fun _ _ _ _ _ _ us hl => match us, hl with | [_], _ => rfl), He.meth_ok (c.fact 35 rfl)⟩, looked := ⟨_, _, F30, (FunD.bindsN F30 fun _ _ _ _ _ _ us hl => match us, hl with | [_], _ => rfl), He.meth_ok (c.fact 36 rfl)⟩, points := ⟨_, _, F31, (FunD.bindsN F31 fun _ _ _ _ _ _ us hl => match us, hl with | [_], _ => rfl), He.meth_ok (c.fact 37 rfl)⟩, pass_marked := ⟨_, _, F32, (FunD.bindsN F32 fun _ _ _ _ _ _ us hl => match us, hl with | [_], _ => rfl), He.meth_ok (c.fact 38 rfl)⟩, exchange := ⟨_, _, F33, (FunD.bindsN F33 fun _ _ _ _ _ _ us hl => match us, hl with | [_, _], _ => rfl), He.meth_ok (c.fact 39 rfl)⟩, go_on := ⟨_, _, F34, (FunD.bindsN F34 fun _ _ _ _ _ _ us hl => match us, hl with | [_], _ => rfl), He.meth_ok (c.fact 40 rfl)⟩, mkr := He.mkr_ok (c.fact 41 rfl), bI := (FunD.bindsN F27 fun _ _ _ _ _ _ us hl => match us, hl with | [_, _], _ => rfl) },
    t_MOST_ROOMS := t_MOST_ROOMS, g_MOST_ROOMS := i_MOST_ROOMS,
    t_PAGES := t_PAGES, g_PAGES := i_PAGES,
    t_MOST_ROWS := t_MOST_ROWS, g_MOST_ROWS := i_MOST_ROWS,
    t_LONGEST := t_LONGEST, g_LONGEST := i_LONGEST,
    bool_ := He.free_ok X G (c.fact 46 rfl),
    dict_ := He.free_ok X G (c.fact 47 rfl),
    enumerate := He.free_ok X G (c.fact 48 rfl),
    int_ := He.free_ok X G (c.fact 49 rfl),
    isinstance := He.free_ok X G (c.fact 50 rfl),
    len := He.free_ok X G (c.fact 51 rfl),
    list_ := He.free_ok X G (c.fact 52 rfl),
    max := He.free_ok X G (c.fact 53 rfl),
    min := He.free_ok X G (c.fact 54 rfl),
    range := He.free_ok X G (c.fact 55 rfl),
    sorted := He.free_ok X G (c.fact 56 rfl),
    str_ := He.free_ok X G (c.fact 57 rfl),
    tuple_ := He.free_ok X G (c.fact 58 rfl),
    a_RULES := _, g_RULES := He.glo_ok X G (c.fact 59 rfl),
    r_RULES_hand := He.valsB_ok (q := ("hand", .glo "_by_hand")) x_RULES (by simp [tb_RULES]),
    r_RULES_unseen := He.valsB_ok (q := ("unseen", .glo "_by_unseen")) x_RULES (by simp [tb_RULES]),
    r_RULES_first := He.valsB_ok (q := ("first", .glo "_by_first")) x_RULES (by simp [tb_RULES]) }⟩

def ts : List He.Tab := [(fun K => He.ga K "RULES", ["hand", "unseen", "first"])]
abbrev R : PySem.W.OpenRow := PySem.W.OpenLaw.row PySem.Challenge.rw_clockhand_k10_whole_the_worst_row
abbrev hk : PySem.W.Hook := hookX 5 fa fn ts xt
def ob (s : PySem.W.SharedT) : He.AlT × Bool := obsX 5 fa fn ts xt (HandSHeadRun.getT s)
theorem ob_eq (s : PySem.W.SharedT) : ob s = hk.obs s.abs := obsX_eq (HandSHeadRun.getT_eq s)
theorem run (w : World) : HandSHeadRun.RunEq R (PySem.W.view R.prog [46]) hk ob 4000 ((["_wall", "__name__", "PageError", "BadRooms", "BadRow", "BadRule", "TooMany", "MOST_ROOMS", "PAGES", "check_rooms", "is_page", "check_page", "find_spells", "find_best", "_farthest", "Dial", "_by_hand", "_by_unseen", "_by_first", "_by_line", "RULES", "check_rule", "find_lacks", "MOST_ROWS", "LONGEST"] : List PySem.Str) ++ (["worst", "_check_size", "_are_too_many", "_all_rows", "_more_lacks", "_law_begun", "_law_take", "_law_alike", "_law_dial", "_law_ask", "_law_lacks", "_law_fewest", "_law_seldom", "_law_sizes"] : List PySem.Str)) w := by
  refine PySem.W.byRow2 "special-get-raises" (P := fun w => HandSHeadRun.RunEq R (PySem.W.view R.prog [46]) hk ob 4000 ((["_wall", "__name__", "PageError", "BadRooms", "BadRow", "BadRule", "TooMany", "MOST_ROOMS", "PAGES", "check_rooms", "is_page", "check_page", "find_spells", "find_best", "_farthest", "Dial", "_by_hand", "_by_unseen", "_by_first", "_by_line", "RULES", "check_rule", "find_lacks", "MOST_ROWS", "LONGEST"] : List PySem.Str) ++ (["worst", "_check_size", "_are_too_many", "_all_rows", "_more_lacks", "_law_begun", "_law_take", "_law_alike", "_law_dial", "_law_ask", "_law_lacks", "_law_fewest", "_law_seldom", "_law_sizes"] : List PySem.Str)) w) (fun w => ?_) (fun w => ?_) w
  all_goals
    intro os
    kernel_rfl
end CK

namespace CK
open PySem PySem.Spec PyProof.Rows L2
theorem facts {P : Program} {w : World} {K : PySem.W.Frag} {h : Heap} {mg : Str → Option Value} {f : Addr} (X : K.In h) (G : h.Ns mainGlobals mg) (hfa : mg ("law" : Str) = some (.ref f)) (c : He.SaysT fa fn ts w K) (cx : xt K = true) :
    ∃ fd : FuncData, (∀ (s : Shared) (v : Value), BindsTo s fd ⟨[v], []⟩ [("_law_script", v)]) ∧ ∀ base : Heap, K.In base → base.Ns mainGlobals mg → FnOk P w K mg base CX0 8 f fd ["_law_script"] (spLaw K) := by
  obtain ⟨T⟩ := mkProg X G c.d cx
  obtain ⟨es0, nd0, TB0⟩ := c.tab 0 rfl
  have ea0 : T.a_RULES = He.ga K "RULES" := by
    have q := T.g_RULES.symm.trans (He.glo_ok (x := "RULES") X G (c.d.fact 59 rfl))
    injection q with q
    injection q
  have TB0 : KDict K w T.a_RULES es0 nd0 := by rw [ea0]; exact TB0
  obtain ⟨fd, F⟩ := c.d.def_ 26 rfl
  have e := hfa.symm.trans (He.glo_ok X G (c.d.fact 26 rfl))
  cases e
  have b := FunD.bindsA (ps := ["_law_script"]) F fun _ _ _ _ _ _ us hl => match us, hl with | [_], _ => rfl
  exact ⟨fd, fun s v => b s [v] rfl, fun base _ _ => ok_law T TB0 F⟩
end CK
open PySem PySem.W PySem.Calls PyProof.Rows
set_option maxRecDepth 100000 in
set_option maxHeartbeats 0 in
theorem PySem.Challenge.cw_clockhand_k10_whole_the_worst_row_holds : PySem.Challenge.rw_clockhand_k10_whole_the_worst_row.Holds := by
  w_on; o_law
  refine HandSHeadRun.head_any (r := OpenLaw.row PySem.Challenge.rw_clockhand_k10_whole_the_worst_row) (q := view (OpenLaw.row PySem.Challenge.rw_clockhand_k10_whole_the_worst_row).prog [46]) (H := CK.hk) (ob := CK.ob) (M := 4000) (loose := ((["_wall", "__name__", "PageError", "BadRooms", "BadRow", "BadRule", "TooMany", "MOST_ROOMS", "PAGES", "check_rooms", "is_page", "check_page", "find_spells", "find_best", "_farthest", "Dial", "_by_hand", "_by_unseen", "_by_first", "_by_line", "RULES", "check_rule", "find_lacks", "MOST_ROWS", "LONGEST"] : List PySem.Str) ++ (["worst", "_check_size", "_are_too_many", "_all_rows", "_more_lacks", "_law_begun", "_law_take", "_law_alike", "_law_dial", "_law_ask", "_law_lacks", "_law_fewest", "_law_seldom", "_law_sizes"] : List PySem.Str))) (d := HandSHeadRun.topDef (OpenLaw.row PySem.Challenge.rw_clockhand_k10_whole_the_worst_row).prog 46) (kwd := []) CK.ob_eq
    (by kernel_rfl) (fun s => by kernel_rfl) CK.run (by kernel_rfl) (by kernel_rfl) (by kernel_rfl) (by rfl) (by first | assumption | decide +kernel) (by decide +kernel) ⟨rfl, rfl, rfl, rfl, rfl, by decide +kernel⟩ ?hw ?hc
  case hw => w_witness2
  case hc =>
    refine L2.walk_ofE (l := PySem.Challenge.rw_clockhand_k10_whole_the_worst_row) (n := 63) (k := 8) (x := "_law_script") (CX := L2.CX0) rfl (by decide) (by kernel_rfl) ⟨rfl, by decide, by decide⟩ ?F (fun _ _ _ _ z => z)
    intro w mg fa h Y G hmg0
    obtain ⟨K, KX, c, cx⟩ := Y
    have hmg : mg ("law" : PySem.Str) = some (.ref fa) := by
      have e : (HandSHeadRun.topDef (OpenLaw.row PySem.Challenge.rw_clockhand_k10_whole_the_worst_row).prog 46).name = ("law" : PySem.Str) := by kernel_rfl
      rw [← e]
      exact hmg0
    obtain ⟨fd, hb, hF⟩ := CK.facts (P := (PySem.Challenge.rw_clockhand_k10_whole_the_worst_row).prog) (w := w) KX G hmg c cx
    exact ⟨K, fd, CK.spLaw K, KX, hb, fun H a ns hl _ hS => ⟨a, ns, rfl, hS, hl, fun _ => rfl⟩, hF⟩
