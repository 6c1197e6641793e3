import PyProof.Rows.All
import Wide.All
import OpenK.AllK
import Wide.FinOn
import KE.KStateDown
import Lean
import HandS.ForMost
import HandS.SortInts
import HandS.SetFor
import HandS.Wide
import HandS.Defaults
import HandS.IsInst
import HandS.CallLocal
import HandS.More
import HandS.Codes
import HandS.Sort
import HandS.Head0
import HandS.Head1
import HandS.Head2
import HandS.HeadEnd
import HandS.HeadHook1
import HandS.HeadHook2
import HandS.HeadHook3
import HandS.Walk
import KE.KDictZip
import KE.KTurns
import KE.KItemsList
import PyProof.ListNew
import HandS.ListItems
import HandS.Rev
import PySem.Challenge.RW_clockhand_k09_stretches
set_option Elab.async false
set_option linter.all false
set_option maxRecDepth 100000
set_option maxHeartbeats 0
/-! Clockhand: the shared ground of its laws: where a def stands, heaps, the box of the draws. -/
namespace CK
open PySem PySem.Spec PyProof.Rows L2
def top (i : Nat) : Stmt := PySem.Challenge.pw_clockhand_k09_stretches.main.body.getD i (.Pass ⟨0, 0, 0, 0⟩)

/-- a def of the text, behind the top -/
structure DAt (K : PySem.W.Frag) (mg : Str → Option Value) (x : Str) (st : Stmt) (ps : List Str) where
  f : Addr
  fd : FuncData
  fn : FunD K x x (defArgs st) (defBody st) (defScope st) [] [] f fd
  bd : Binds K fd ps []
  g : mg x = some (.ref f)
/-- a method of the class at C -/
structure MAt (K : PySem.W.Frag) (C : Addr) (x q : Str) (st : Stmt) (ps : List Str) where
  f : Addr
  fd : FuncData
  fn : FunD K x q (defArgs st) (defBody st) (defScope st) [] [] f fd
  bd : Binds K fd ps []
  me : Meth K C x f

/-! ### the head's look, by one more Bool -/
def obsX (n : Nat) (fa : List He.Fa) (fn : List He.DefD) (ts : List He.Tab) (xt : PySem.W.Frag → Bool) (g : Addr → Option Obj) : He.AlT × Bool := (He.obsTG n fa fn ts g, xt (He.frG g (He.asD g n)))
def hookX (n : Nat) (fa : List He.Fa) (fn : List He.DefD) (ts : List He.Tab) (xt : PySem.W.Frag → Bool) : PySem.W.Hook where
  α := He.AlT × Bool
  obs := fun s => obsX n fa fn ts xt s.heap.get?
  val := fun w => (He.valT fn ts w, true)
  says := fun w h => ∃ K : PySem.W.Frag, K.In h ∧ He.SaysT fa fn ts w K ∧ xt K = true
  of := fun _ _ e => ⟨_, He.frG_in, congrArg Prod.fst e, congrArg Prod.snd e⟩
  keeps := fun _ _ _ ⟨K, hK, c⟩ k => ⟨K, PySem.W.Frag.In.keeps hK k, c⟩
theorem obsX_eq {n : Nat} {fa : List He.Fa} {fn : List He.DefD} {ts : List He.Tab} {xt : PySem.W.Frag → Bool} {g : Addr → Option Obj} {s : Shared} (h : ∀ a, g a = s.heap.get? a) : obsX n fa fn ts xt g = (hookX n fa fn ts xt).obs s := by
  have e : g = s.heap.get? := funext h
  rw [e] <;> rfl
/-! ### where all stands behind the top -/
structure DialAt (K : PySem.W.Frag) (mg : Str → Option Value) where
  C : Addr
  cl : Cls K C
  g : mg "Dial" = some (.ref C)
  n_hand : NoAttr K C "_hand"
  n_held : NoAttr K C "_held"
  n_lacks : NoAttr K C "_lacks"
  n_marks : NoAttr K C "_marks"
  init : MAt K C "__init__" "Dial.__init__" (inClass (top 15) 0) ["self", "rooms"]
  ask : MAt K C "ask" "Dial.ask" (inClass (top 15) 1) ["self", "page"]
  pages : MAt K C "pages" "Dial.pages" (inClass (top 15) 2) ["self"]
  points : MAt K C "points" "Dial.points" (inClass (top 15) 4) ["self"]
  pass_marked : MAt K C "_pass_marked" "Dial._pass_marked" (inClass (top 15) 6) ["self"]
  exchange : MAt K C "_exchange" "Dial._exchange" (inClass (top 15) 7) ["self", "page"]
  go_on : MAt K C "_go_on" "Dial._go_on" (inClass (top 15) 8) ["self"]
  mkr : Mk K C init.f
  bI : Binds K init.fd ["self", "rooms"] []
structure Prog (K : PySem.W.Frag) (mg : Str → Option Value) where
  check_rooms : DAt K mg "check_rooms" (top 10) ["rooms"]
  is_page : DAt K mg "is_page" (top 11) ["page"]
  check_page : DAt K mg "check_page" (top 12) ["page"]
  check_row : DAt K mg "check_row" (top 13) ["row"]
  by_hand : DAt K mg "_by_hand" (top 17) ["rooms", "row"]
  by_unseen : DAt K mg "_by_unseen" (top 18) ["rooms", "row"]
  by_first : DAt K mg "_by_first" (top 19) ["rooms", "row"]
  by_line : DAt K mg "_by_line" (top 20) ["rooms", "row", "renewed"]
  check_rule : DAt K mg "check_rule" (top 22) ["rule"]
  lacking : DAt K mg "lacking" (top 23) ["rooms", "row", "rule"]
  find_lacks : DAt K mg "find_lacks" (top 24) ["rooms", "row", "rule"]
  stretches : DAt K mg "stretches" (top 26) ["rooms", "row"]
  lacking_in : DAt K mg "lacking_in" (top 27) ["rooms", "row", "rule"]
  begins : DAt K mg "_begins" (top 28) ["rooms", "row"]
  law_begun : DAt K mg "_law_begun" (top 30) ["_law_script"]
  law_take : DAt K mg "_law_take" (top 31) ["_law_box", "_law_many"]
  law_alike : DAt K mg "_law_alike" (top 32) ["_law_found", "_law_due"]
  law_row : DAt K mg "_law_row" (top 33) ["_law_box", "_law_most"]
  law_dial : DAt K mg "_law_dial" (top 34) ["_law_rooms"]
  law_ask : DAt K mg "_law_ask" (top 35) ["_law_dial_here", "_law_page"]
  law_lacks : DAt K mg "_law_lacks" (top 36) ["_law_rooms", "_law_row_here", "_law_rule"]
  law_parts : DAt K mg "_law_parts" (top 37) ["_law_rooms", "_law_row_here"]
  Dial : DialAt K mg
  t_MOST_ROOMS : Tok
  g_MOST_ROOMS : mg "MOST_ROOMS" = some (.int 8 t_MOST_ROOMS)
  t_PAGES : Tok
  g_PAGES : mg "PAGES" = some (.int 12 t_PAGES)
  t_MOST_ASKS : Tok
  g_MOST_ASKS : mg "MOST_ASKS" = some (.int 100 t_MOST_ASKS)
  bool_ : mg "bool" = none
  enumerate : mg "enumerate" = none
  int_ : mg "int" = none
  isinstance : mg "isinstance" = none
  len : mg "len" = none
  list_ : mg "list" = none
  min : mg "min" = none
  range : mg "range" = none
  str_ : mg "str" = none
  tuple_ : mg "tuple" = none
  zip : mg "zip" = none
  a_RULES : Addr
  g_RULES : mg "RULES" = some (.ref a_RULES)
  r_RULES_hand : ∃ u, PySem.W.nsIn K a_RULES "hand" = some (some u) ∧ RelV (.ref by_hand.f) u
  r_RULES_unseen : ∃ u, PySem.W.nsIn K a_RULES "unseen" = some (some u) ∧ RelV (.ref by_unseen.f) u
  r_RULES_first : ∃ u, PySem.W.nsIn K a_RULES "first" = some (some u) ∧ RelV (.ref by_first.f) u

/-! ### heaps -/
/-- all that H knows stands in H' as it stood, but for what stands at the places S -/
def But (S : List Addr) (H H' : Hp) : Prop := ∀ b o, H b = some o → b ∉ S → H' b = some o
theorem But.refl (S : List Addr) (H : Hp) : But S H H := fun _ _ h _ => h
theorem But.trans {S : List Addr} {H H1 H2 : Hp} (a : But S H H1) (b : But S H1 H2) : But S H H2 := fun c o h n => b c o (a c o h n) n
theorem But.mono {S T : List Addr} {H H1 : Hp} (a : But S H H1) (h : ∀ x, x ∈ S → x ∈ T) : But T H H1 := fun c o e n => a c o e fun z => n (h c z)
theorem But.same {H H1 : Hp} (a : But [] H H1) : Same H H1 := fun c o e => a c o e (by simp)
theorem But.of {S : List Addr} {H H1 : Hp} (a : Same H H1) : But S H H1 := fun c o e _ => a c o e
theorem But.new {S : List Addr} {H : Hp} {p : Addr} {o : HO} (h : H p = none) : But S H (upd H p o) := fun b u e _ => by
  rw [upd_ne (ne_of_none e h)]
  exact e
theorem But.put {S : List Addr} {H : Hp} {p : Addr} {o : HO} (h : p ∈ S) : But S H (upd H p o) := fun b u e n => by
  rw [upd_ne (fun z => n (by rw [z]; exact h))]
  exact e
/-- a place that H did not know may change -/
theorem But.free {S : List Addr} {p : Addr} {H H' : Hp} (a : But (p :: S) H H') (h : H p = none) : But S H H' := fun b o e n => a b o e fun z => by
  rcases List.mem_cons.mp z with z | z
  · rw [z, h] at e
    cases e
  · exact n z
theorem But.at {S : List Addr} {H H' : Hp} (a : But S H H') {b : Addr} {o : HO} (e : H b = some o) (n : b ∉ S := by first | assumption | simp) : H' b = some o := a b o e n
/-- what is new behind was free ahead, if it isn't of S -/
theorem But.back {S : List Addr} {H H' : Hp} (a : But S H H') {p : Addr} (h : H' p = none) (n : p ∉ S) : H p = none := by
  cases e : H p with
  | none => rfl
  | some o => rw [a p o e n] at h; cases h
theorem Same.new {H : Hp} {p : Addr} {o : HO} (h : H p = none) : Same H (upd H p o) := fun b u e => by
  rw [upd_ne (ne_of_none e h)]
  exact e
theorem Same.back {H H' : Hp} (a : Same H H') {p : Addr} (h : H' p = none) : H p = none := by
  cases e : H p with
  | none => rfl
  | some o => rw [a p o e] at h; cases h
theorem Same.put {H H' : Hp} {p : Addr} {o : HO} (a : Same H H') (h : H p = none) : Same H (upd H' p o) := fun b u e => by
  rw [upd_ne (ne_of_none e h)]
  exact a b u e
theorem ne_fresh {H : Hp} {a b : Addr} {o : HO} (h : H a = some o) (h' : H b = none) : a ≠ b := ne_of_none h h'

/-! ### lists of ints -/
abbrev il (ns : List Int) : List V := ns.map V.int
theorem il_at {ns : List Int} {j : Nat} {n : Int} (h : ns[j]? = some n) : (il ns)[j]? = some (V.int n) := by
  rw [List.getElem?_map, h]
  rfl
theorem il_set {ns : List Int} {j : Nat} {n : Int} : (il ns).set j (V.int n) = il (ns.set j n) := by
  show (ns.map V.int).set j (V.int n) = (ns.set j n).map V.int
  rw [List.map_set]
theorem il_get {ns : List Int} {j : Nat} {y : V} (h : (il ns)[j]? = some y) : ∃ n, ns[j]? = some n ∧ y = V.int n := by
  rw [List.getElem?_map] at h
  cases e : ns[j]? with
  | none => rw [e] at h; cases h
  | some n => rw [e] at h; exact ⟨n, rfl, (Option.some.inj h).symm⟩
theorem il_snoc {ns : List Int} {n : Int} : il ns ++ [V.int n] = il (ns ++ [n]) := by
  show ns.map V.int ++ [V.int n] = (ns ++ [n]).map V.int
  rw [List.map_append]
  rfl
theorem il_app {ns ms : List Int} : il ns ++ il ms = il (ns ++ ms) := by
  show ns.map V.int ++ ms.map V.int = (ns ++ ms).map V.int
  rw [List.map_append]
theorem il_len {ns : List Int} : (il ns).length = ns.length := List.length_map _
theorem flat_il (ns : List Int) : (il ns).all flatV = true := by
  rw [List.all_eq_true]
  intro x hx
  obtain ⟨n, _, rfl⟩ := List.mem_map.mp hx
  rfl
theorem inV_il (n : Int) (ns : List Int) : inV (V.int n) (il ns) = decide (n ∈ ns) := by
  induction ns with
  | nil => rfl
  | cons a r ih =>
    show (eqV (V.int a) (V.int n) || inV (V.int n) (il r)) = _
    rw [ih]
    have e : eqV (V.int a) (V.int n) = decide (a = n) := by
      first
        | rfl
        | (simp [eqV])
    rw [e]
    by_cases h : a = n
    · simp [h]
    · have h2 : ¬ n = a := fun z => h z.symm
      simp [h, h2]
/-! ### data that is read -/
def pd (ns : List Int) : PyData := .list (ns.map PyData.int)
theorem dp_all (K : PySem.W.Frag) (H : Hp) : ∀ ns : List Int, DpAll K H (il ns) (ns.map PyData.int)
  | [] => .nil
  | _ :: r => .cons (.int _) (dp_all K H r)
theorem dp_il {K : PySem.W.Frag} {H : Hp} {a : Addr} {ns : List Int} (h : SqL K H a (il ns)) : Dp K H (.ref a) (pd ns) := .lst h (dp_all K H ns)
theorem eqv_pd : ∀ a b : List Int, PyData.eqvAll (a.map PyData.int) (b.map PyData.int) = decide (a = b)
  | [], [] => rfl
  | [], _ :: _ => rfl
  | _ :: _, [] => rfl
  | x :: r, y :: s => by
    show ((x == y) && PyData.eqvAll (r.map PyData.int) (s.map PyData.int)) = _
    rw [eqv_pd r s]
    by_cases h : x = y
    · by_cases h2 : r = s
      · simp [h, h2]
      · simp [h, h2]
    · simp [h]
theorem eqv_il (a b : List Int) : PyData.eqv (pd a) (pd b) = decide (a = b) := eqv_pd a b
theorem lay_il : ∀ a : List Int, PyData.canLayAll0 (a.map PyData.int) = true
  | [] => rfl
  | _ :: r => by
    show (true && PyData.canLayAll0 (r.map PyData.int)) = true
    rw [lay_il r]
    rfl
theorem dep_il : ∀ a : List Int, PyData.depthAll (a.map PyData.int) = 0
  | [] => rfl
  | _ :: r => by
    show max 0 (PyData.depthAll (r.map PyData.int)) = 0
    rw [dep_il r]
    rfl
theorem shaped_il (a : List Int) : SeqAt.shaped (pd a) = true := by
  unfold SeqAt.shaped pd
  rw [Bool.and_eq_true]
  constructor
  · show PyData.canLayAll0 _ = true
    exact lay_il a
  · apply decide_eq_true
    show PyData.depthAll _ + 1 ≤ 64
    rw [dep_il a]
    decide
theorem sz {n : Nat} (h : n ≤ 100000) : n ≤ sizeLine := Nat.le_trans h (by decide)
theorem szl {n : Nat} (h : n < 100000) : n < sizeLine := Nat.lt_of_lt_of_le h (by decide)

theorem ixn {n : Nat} {i : Int} {j : Nat} (e : i = (j : Int)) (h : j < n) : ixN n i = some j := by
  unfold ixN
  rw [if_pos (by omega), if_pos (by omega), e]
  rfl
theorem seq_ix {n : Nat} {i : Int} {j : Nat} (e : i = (j : Int)) (h : j < n) : seqIndex? i n = some j := (ixN_seq (ixn e h)).1
theorem szd {n : Nat} (h : Nat.ble n 1000 = true) : n ≤ sizeLine := Nat.le_trans (Nat.le_of_ble_eq_true h) (by decide)
theorem il_menu {xs : List Int} {r : Int} (h0 : 0 ≤ r) (h1 : r < xs.length) : ∃ v, v ∈ xs ∧ atI (il xs) r = some (V.int v) := by
  obtain ⟨j, rfl⟩ : ∃ j : Nat, r = (j : Int) := ⟨r.toNat, by omega⟩
  have hj : j < xs.length := by omega
  exact ⟨xs[j], List.getElem_mem hj, atI_nat (il_at (List.getElem?_eq_getElem hj))⟩
theorem il_last {xs : List Int} (h : xs ≠ []) : ∃ v, v ∈ xs ∧ atI (il xs) (-1) = some (V.int v) := by
  obtain ⟨ys, y, rfl⟩ : ∃ ys y, xs = ys ++ [y] := ⟨xs.dropLast, xs.getLast h, (List.dropLast_concat_getLast h).symm⟩
  refine ⟨y, by simp, ?_⟩
  rw [← il_snoc]
  exact atI_last _ _
theorem ifT {c : Bool} {A B : Prop} (e : c = true) (h : A) : if c = true then A else B := by
  rw [if_pos e]
  exact h
theorem ifF {c : Bool} {A B : Prop} (e : c = false) (h : B) : if c = true then A else B := by
  rw [e]
  exact iteF h
theorem int0 {a b : Int} (h : a < b) : a < b := h
/-! ### the box of the draws -/
/-- the box at b: the numbers left, in the list at l, and a number by which draws go on -/
structure BoxAt (H : Hp) (b l : Addr) : Prop where
  ne : b ≠ l
  ex : ∃ (ns : List Int) (z : Int), H b = some (.lst [.ref l, .int z]) ∧ H l = some (.lst (il ns)) ∧ 0 ≤ z ∧ z < 2147483647
theorem BoxAt.but {S : List Addr} {H H' : Hp} {b l : Addr} (B : BoxAt H b l) (k : But S H H') (hb : b ∉ S) (hl : l ∉ S) : BoxAt H' b l := by
  obtain ⟨ns, z, h1, h2, h3⟩ := B.ex
  exact ⟨B.ne, ns, z, k _ _ h1 hb, k _ _ h2 hl, h3⟩
theorem BoxAt.same {H H' : Hp} {b l : Addr} (B : BoxAt H b l) (k : Same H H') : BoxAt H' b l := by
  obtain ⟨ns, z, h1, h2, h3⟩ := B.ex
  exact ⟨B.ne, ns, z, k _ _ h1, k _ _ h2, h3⟩

/-! ### the promises of the draws -/
/-- a new box over the script's ints -/
def spBegun (K : PySem.W.Frag) : Sp := fun vs H Q _ => ∃ (a : Addr) (ns : List Int), vs = [.ref a] ∧ SqL K H a (il ns) ∧ ns.length ≤ 63 ∧
  ∀ (b l : Addr) (H' : Hp), H b = none → H l = none → Same H H' → BoxAt H' b l → Q (.ref b) H'
/-- a draw: some number below m, and the box is still one -/
def spTake : Sp := fun vs H Q _ => ∃ (b l : Addr) (m : Int), vs = [.ref b, .int m] ∧ BoxAt H b l ∧ 0 < m ∧ m < 1000000000 ∧
  ∀ (r : Int) (H' : Hp), 0 ≤ r → r < m → But [b, l] H H' → BoxAt H' b l → Q (.int r) H'
/-- a row: asks for pages below twelve, at most as many as asked for -/
def spRow : Sp := fun vs H Q _ => ∃ (b l : Addr) (m : Int), vs = [.ref b, .int m] ∧ BoxAt H b l ∧ 0 ≤ m ∧ m ≤ 100 ∧
  ∀ (row : List Int) (r : Addr) (H' : Hp), H r = none → (∀ p ∈ row, 0 ≤ p ∧ p < 12) → (row.length : Int) ≤ m → But [b, l] H H' → H' r = some (.lst (il row)) → BoxAt H' b l → Q (.ref r) H'
end CK

namespace CK
open PySem PySem.Spec PyProof.Rows L2
section
variable {P : Program} {w : World} {K : PySem.W.Frag} {mg : Str → Option Value} {base : Heap}
/-! ### a draw -/
theorem sc_law_take : FnScope ["_law_box", "_law_many", "_law_number"] ["_law_box", "_law_many"] (defScope (top 31)) := ⟨rfl, rfl, rfl, by decide +kernel, rfl, by decide +kernel, by decide +kernel⟩
theorem ok_law_take (T : Prog K mg) : FnOk P w K mg base CX0 1 T.law_take.f T.law_take.fd ["_law_box", "_law_many"] spTake := by
  refine T.law_take.fn.ok sc_law_take (fun vs H Q E h => ?len) (fun cdv A outer s H vs Q E hr h => ?body)
  case len =>
    obtain ⟨b, l, m, rfl, _⟩ := h
    rfl
  case body =>
    have hu := hu_of hr
    obtain ⟨b, l, m, rfl, B, m0, m1, k⟩ := h
    refine ⟨_, PSs.nox (pss_cons (ps_if (pt_cmpR (op_eqD hr.units) (pe_ix ix_list (pv 0) pe_int (fun _ _ => rfl)) (pe_lst pa_nil) (nomark _))
        (pss_cons (ps_asg (pe_op op_mod (pe_op op_mul (pe_ix ix_list (pv 0) pe_int (fun _ _ => rfl)) pe_int) pe_int) (pg_sub (pv 0) pe_int set_list))
        (pss_one (ps_ret (pe_op op_mod (pe_op op_fdiv (pe_ix ix_list (pv 0) pe_int (fun _ _ => rfl)) pe_int) (pv 1)))))
        pss_nil)
        (pss_cons (ps_set (i := 2) sc_law_take.nd rfl (Or.inl rfl) (pe_ix ix_list (pe_ix ix_list (pv 0) pe_int (fun _ _ => rfl)) pe_int (fun _ _ => rfl)))
        (pss_cons (ps_asg (pe_op op_fdiv (pv 2) (pv 1)) (pg_sub (pe_ix ix_list (pv 0) pe_int (fun _ _ => rfl)) pe_int set_list))
        (pss_cons (ps_if (PW.pt (pw_or (pt_cmpR op_eq (pe_ix ix_list (pe_ix ix_list (pv 0) pe_int (fun _ _ => rfl)) pe_int (fun _ _ => rfl)) pe_int (nomark _)) (pw_or1 (pt_cmpR op_eq (pe_ix ix_list (pe_ix ix_list (pv 0) pe_int (fun _ _ => rfl)) pe_int (fun _ _ => rfl)) (pe_un un_neg pe_int) (nomark _)))))
        (pss_one (ps_expr (pe_bm PySem.F.plainAttrs_list PySem.F.slot_list_pop PySem.F.type_list_pop mt_popAt (pe_ix ix_list (pv 0) pe_int (fun _ _ => rfl)) (pa_cons pe_int pa_nil))))
        pss_nil)
        (pss_one (ps_ret (pe_op op_mod (pv 2) (pv 1)))))))), ?_⟩
    have B0 := B
    obtain ⟨ns, z, hb, hl, z0, z1⟩ := B.ex
    -- if box[0] == []
    refine ⟨_, rfl, b, _, _, _, rfl, rfl, SqL.of hb, atI_nat (j := 0) rfl, by decide, fun e he => ?_⟩
    have eb : b ≠ e := ne_fresh hb he
    have el : l ≠ e := ne_fresh hl he
    have s1 : But [b, l] H (upd H e (.lst [])) := But.new he
    have hb1 : upd H e (.lst []) b = some (.lst [.ref l, .int z]) := by rw [upd_ne eb]; exact hb
    have hl1 : upd H e (.lst []) l = some (.lst (il ns)) := by rw [upd_ne el]; exact hl
    refine ⟨pd ns, pd [], dp_il (SqL.of hl1), dp_il (ns := []) (SqL.of upd_same), shaped_il _, shaped_il _, _, rfl, ?_⟩
    rw [eqv_il]
    refine ite2 (fun hn => ?_) (fun hn => ?_)
    · -- box[1] = box[1] * 48271 % 2147483647; return box[1] // 7 % many
      refine ⟨_, rfl, b, _, _, _, rfl, rfl, SqL.of hb1, atI_nat (j := 1) rfl, _, _, rfl, rfl, .inl ⟨by omega, by omega⟩, _, _, rfl, rfl, int0 (by decide), ?_⟩
      refine ⟨_, rfl, b, _, 1, 1, rfl, rfl, hb1, rfl, ?_⟩
      refine ⟨_, rfl, b, _, _, _, rfl, rfl, SqL.of upd_same, atI_nat (j := 1) rfl, _, _, rfl, rfl, ⟨by decide, by decide⟩, _, rfl, _, _, rfl, rfl, m0, ?_⟩
      refine k _ _ (Int.emod_nonneg _ (by omega)) (Int.emod_lt_of_pos _ m0) (s1.trans (But.put (by simp))) ⟨B.ne, ns, _, upd_same, ?_, Int.emod_nonneg _ (by decide), Int.emod_lt_of_pos _ (by decide)⟩
      rw [upd_ne (Ne.symm B.ne)]
      exact hl1
    · -- number = box[0][0]
      obtain ⟨n, r, rfl⟩ : ∃ n r, ns = n :: r := by
        cases ns with
        | nil => exact absurd (by simp) hn
        | cons n r => exact ⟨n, r, rfl⟩
      refine ⟨_, rfl, b, _, _, _, rfl, rfl, SqL.of hb1, atI_nat (j := 0) rfl, l, _, _, _, rfl, rfl, SqL.of hl1, atI_nat (j := 0) rfl, ?_⟩
      -- box[0][0] = number // many
      refine ⟨_, rfl, _, rfl, _, _, rfl, rfl, ⟨m0, by omega⟩, ?_⟩
      refine ⟨_, rfl, b, _, _, _, rfl, rfl, SqL.of hb1, atI_nat (j := 0) rfl, l, _, 0, 0, rfl, rfl, hl1, ixn rfl (by simp), ?_⟩
      have hb2 : ∀ o, upd (upd H e (.lst [])) l o b = some (.lst [.ref l, .int z]) := fun o => by rw [upd_ne B.ne]; exact hb1
      have hl2 : upd (upd H e (.lst [])) l (.lst ((il (n :: r)).set 0 (.int (n / m)))) l = some (.lst (il ((n / m) :: r))) := upd_same
      have s2 : But [b, l] H (upd (upd H e (.lst [])) l (.lst ((il (n :: r)).set 0 (.int (n / m))))) := s1.trans (But.put (by simp))
      have r0 : 0 ≤ n % m := Int.emod_nonneg _ (by omega)
      have r1 : n % m < m := Int.emod_lt_of_pos _ m0
      -- if box[0][0] == 0 or box[0][0] == -1
      refine ⟨_, rfl, b, _, _, _, rfl, rfl, SqL.of (hb2 _), atI_nat (j := 0) rfl, l, _, _, _, rfl, rfl, SqL.of hl2, atI_nat (j := 0) rfl, rfl, _, rfl, ?_⟩
      have pop : ∀ (σ : L2.St), ∀ D : Ends, σ[0]? = some (some (.ref b)) → (∀ H', But [b, l] H H' → BoxAt H' b l → D.nx σ H') → tDrop (tBM K "list" rPopAt (tOp (rIxL K) (tVar 0) (tC (.int 0))) (tCons (tC (.int 0)) tNil)) D σ (upd (upd H e (.lst [])) l (.lst ((il (n :: r)).set 0 (.int (n / m))))) := by
        intro σ D hσ hD
        refine ⟨_, hσ, b, _, _, _, rfl, rfl, SqL.of (hb2 _), atI_nat (j := 0) rfl, .inl ⟨rfl, _, SqL.of hl2⟩, l, _, 0, 0, _, rfl, rfl, hl2, by decide, by decide, seq_ix rfl (by simp), rfl, ?_⟩
        refine hD _ (s2.trans (But.put (by simp))) ⟨B.ne, r, z, ?_, upd_same, z0, z1⟩
        rw [upd_ne B.ne]
        exact hb2 _
      have out : ∀ H', But [b, l] H H' → BoxAt H' b l → tRet (tOp (rI (fun _ j => 0 < j) fun i j => V.int (i % j)) (tVar 2) (tVar 1)) { nx := fun _ H' => Q .non H', rt := Q } [some (.ref b), some (.int m), some (.int n)] H' := fun H' k1 B1 => by
        refine ⟨_, rfl, _, rfl, _, _, rfl, rfl, m0, ?_⟩
        exact k _ _ r0 r1 k1 B1
      refine ite2 (fun _ => iteT (pop _ _ rfl out)) (fun _ => ?_)
      refine ⟨_, rfl, b, _, _, _, rfl, rfl, SqL.of (hb2 _), atI_nat (j := 0) rfl, l, _, _, _, rfl, rfl, SqL.of hl2, atI_nat (j := 0) rfl, _, rfl, rfl, _, rfl, ?_⟩
      refine ite2 (fun _ => pop _ _ rfl out) (fun _ => ?_)
      exact out _ s2 ⟨B.ne, _, z, hb2 _, hl2, z0, z1⟩
/-! ### the box -/
theorem sc_law_begun : FnScope ["_law_script", "_law_stirred", "_law_cell"] ["_law_script"] (defScope (top 30)) := ⟨rfl, rfl, rfl, by decide +kernel, rfl, by decide +kernel, by decide +kernel⟩
theorem ok_law_begun (T : Prog K mg) : FnOk P w K mg base CX0 1 T.law_begun.f T.law_begun.fd ["_law_script"] (spBegun K) := by
  refine T.law_begun.fn.ok sc_law_begun (fun vs H Q E h => ?len) (fun cdv A outer s H vs Q E hr h => ?body)
  case len =>
    obtain ⟨a, ns, rfl, _⟩ := h
    rfl
  case body =>
    have hu := hu_of hr
    obtain ⟨a, ns, rfl, hS, hlen, k⟩ := h
    refine ⟨_, PSs.nox (pss_cons (ps_set (i := 1) sc_law_begun.nd rfl (Or.inl rfl) pe_int)
        (pss_cons (ps_for PassesOwn.never rfl (pi_list (pv 0)) (pg_name (i := 2) sc_law_begun.nd rfl (Or.inl rfl))
        (pss_one (ps_set (i := 1) sc_law_begun.nd rfl (Or.inl rfl) (pe_op op_mod (pe_op op_add (pe_op op_add (pe_op op_mul (pv 1) pe_int) (pe_op op_mul (pv 2) pe_int)) pe_int) pe_int))))
        (pss_one (ps_ret (pe_lst (pa_cons (pe_callTy call_list_of (by rfl) T.list_ (by decide +kernel) (pa_cons (pv 0) pa_nil)) (pa_cons (pe_op op_mul (pv 1) (pe_callTy call_int1 (by rfl) T.int_ (by decide +kernel) (pa_cons (pe_cmpR op_gt (pe_callB call_len_seq (by rfl) T.len PySem.boot_len (pa_cons (pv 0) pa_nil)) pe_int (nomark _)) pa_nil))) pa_nil))))))), ?_⟩
    refine ⟨_, rfl, a, rfl, ⟨_, hS⟩, for_list (K := K) (a := a) (xs := il ns) (fun i σ H2 => ∃ (z : Int) (v : Option V), σ = [some (.ref a), some (.int z), v] ∧ H2 = H ∧ 0 ≤ z ∧ z < 2147483647)
      ⟨0, none, rfl, rfl, by decide, by decide⟩ (fun i σ H2 _ ⟨_, _, _, e, _⟩ => by rw [e]; exact hS) ?_ ?_⟩
    · rintro i y σ H2 hi ⟨z, v, rfl, rfl, z0, z1⟩
      obtain ⟨n, _, rfl⟩ := il_get hi
      refine ⟨_, rfl, _, _, rfl, rfl, .inl ⟨by omega, by omega⟩, _, rfl, _, _, rfl, rfl, .inr ⟨by omega, by omega⟩, _, _, rfl, rfl, _, _, rfl, rfl, _, _, rfl, rfl, int0 (by decide), ?_⟩
      exact ⟨_, _, rfl, rfl, Int.emod_nonneg _ (by decide), Int.emod_lt_of_pos _ (by decide)⟩
    · rintro σ H2 ⟨z, v, rfl, rfl, z0, z1⟩
      refine ⟨_, rfl, a, _, rfl, .inl hS, fun l hl => ?_⟩
      have s1 : Same H2 (upd H2 l (.lst (il ns))) := Same.new hl
      refine ⟨_, rfl, _, rfl, a, _, rfl, .inl (s1.seq hS), _, _, rfl, rfl, .inr ⟨_, rfl, _, _, rfl, rfl, .inl ⟨by omega, by omega⟩, ?_⟩⟩
      refine ⟨szd rfl, fun b hb => ?_⟩
      have lb : l ≠ b := ne_fresh (H := upd H2 l (.lst (il ns))) upd_same hb
      have hl2 : upd (upd H2 l (.lst (il ns))) b (.lst [V.ref l, V.int (z * (if decide ((2 : Int) < ((il ns).length : Int)) = true then 1 else 0))]) l = some (.lst (il ns)) := by
        rw [upd_ne lb]
        exact upd_same
      refine k b l _ (Same.back s1 hb) hl (s1.trans (Same.new hb)) ⟨Ne.symm lb, ns, _, upd_same, hl2, ?_, ?_⟩
      · by_cases h2 : decide ((2 : Int) < ((il ns).length : Int)) = true
        · rw [if_pos h2]; omega
        · rw [if_neg h2]; omega
      · by_cases h2 : decide ((2 : Int) < ((il ns).length : Int)) = true
        · rw [if_pos h2]; omega
        · rw [if_neg h2]; omega
/-! ### a row -/
theorem sc_law_row : FnScope ["_law_box", "_law_most", "_law_pages", "_law_found", "_law_way", "_law_turn", "_law_page"] ["_law_box", "_law_most"] (defScope (top 33)) := ⟨rfl, rfl, rfl, by decide +kernel, rfl, by decide +kernel, by decide +kernel⟩
theorem ok_law_row (T : Prog K mg) : FnOk P w K mg base CX0 2 T.law_row.f T.law_row.fd ["_law_box", "_law_most"] spRow := by
  have G_law_take := ok_law_take (P := P) (w := w) (base := base) T
  refine T.law_row.fn.ok sc_law_row (fun vs H Q E h => ?len) (fun cdv A outer s H vs Q E hr h => ?body)
  case len =>
    obtain ⟨b, l, m, rfl, _⟩ := h
    rfl
  case body =>
    have hr_law_take : Room 1 _ := hr.mono (by decide)
    have hu := hu_of hr
    obtain ⟨b, l, m, rfl, B, m0, m1, k⟩ := h
    refine ⟨_, PSs.nox (pss_cons (ps_set (i := 2) sc_law_row.nd rfl (Or.inl rfl) (pe_op op_add pe_int (pe_call G_law_take hr_law_take (by rfl) T.law_take.g T.law_take.fn.kp T.law_take.bd .nil pass0 (pa_cons (pv 0) (pa_cons (pe_ix ix_list (pe_lst (pa_cons pe_int (pa_cons pe_int (pa_cons pe_int pa_nil)))) (pe_call G_law_take hr_law_take (by rfl) T.law_take.g T.law_take.fn.kp T.law_take.bd .nil pass0 (pa_cons (pv 0) (pa_cons pe_int pa_nil))) (fun _ _ => rfl)) pa_nil)))))
        (pss_cons (ps_set (i := 3) sc_law_row.nd rfl (Or.inl rfl) (pe_lst pa_nil))
        (pss_cons (ps_set (i := 4) sc_law_row.nd rfl (Or.inl rfl) (pe_call G_law_take hr_law_take (by rfl) T.law_take.g T.law_take.fn.kp T.law_take.bd .nil pass0 (pa_cons (pv 0) (pa_cons pe_int pa_nil))))
        (pss_cons (ps_for PassesOwn.never rfl (pi_range1 (by rfl) T.range (pa_cons (pe_call G_law_take hr_law_take (by rfl) T.law_take.g T.law_take.fn.kp T.law_take.bd .nil pass0 (pa_cons (pv 0) (pa_cons (pe_op op_add (pv 1) pe_int) pa_nil))) pa_nil)) (pg_name (i := 5) sc_law_row.nd rfl (Or.inl rfl))
        (pss_cons (ps_set (i := 6) sc_law_row.nd rfl (Or.inl rfl) (pe_call G_law_take hr_law_take (by rfl) T.law_take.g T.law_take.fn.kp T.law_take.bd .nil pass0 (pa_cons (pv 0) (pa_cons (pv 2) pa_nil))))
        (C8.pss_cut (ps_if (PW.pt (pw_and (pt_cmpR op_eq (pv 4) pe_int (nomark _)) (pw_and (pt_cmpR (op_neD hr.units) (pv 3) (pe_lst pa_nil) (nomark _)) (pw_and1 (pt_cmpR op_gt (pe_call G_law_take hr_law_take (by rfl) T.law_take.g T.law_take.fn.kp T.law_take.bd .nil pass0 (pa_cons (pv 0) (pa_cons pe_int pa_nil))) pe_int (nomark _))))))
        (pss_one (ps_set (i := 6) sc_law_row.nd rfl (Or.inl rfl) (pe_ix ix_list (pv 3) (pe_op op_sub (pe_op op_sub (pe_callB call_len_seq (by rfl) T.len PySem.boot_len (pa_cons (pv 3) pa_nil)) pe_int) (pe_call G_law_take hr_law_take (by rfl) T.law_take.g T.law_take.fn.kp T.law_take.bd .nil pass0 (pa_cons (pv 0) (pa_cons (pe_callB (call_min2 rfl) (by rfl) T.min (by decide +kernel) (pa_cons pe_int (pa_cons (pe_callB call_len_seq (by rfl) T.len PySem.boot_len (pa_cons (pv 3) pa_nil)) pa_nil))) pa_nil)))) (fun _ _ => rfl))))
        pss_nil)
        (C8.pss_cut (ps_if (PW.pt (pw_and (pt_cmpR op_eq (pv 4) pe_int (nomark _)) (pw_and1 (pt_cmpR op_gt (pe_call G_law_take hr_law_take (by rfl) T.law_take.g T.law_take.fn.kp T.law_take.bd .nil pass0 (pa_cons (pv 0) (pa_cons pe_int pa_nil))) pe_int (nomark _)))))
        (pss_one (ps_set (i := 6) sc_law_row.nd rfl (Or.inl rfl) (pe_op op_mod (pv 5) (pv 2))))
        pss_nil)
        (C8.pss_cut (ps_if (PW.pt (pw_and (pt_cmpR op_eq (pv 4) pe_int (nomark _)) (pw_and (pt_cmpR (op_neD hr.units) (pv 3) (pe_lst pa_nil) (nomark _)) (pw_and1 (pt_cmpR op_gt (pe_call G_law_take hr_law_take (by rfl) T.law_take.g T.law_take.fn.kp T.law_take.bd .nil pass0 (pa_cons (pv 0) (pa_cons pe_int pa_nil))) pe_int (nomark _))))))
        (pss_one (ps_set (i := 6) sc_law_row.nd rfl (Or.inl rfl) (pe_op op_mod (pe_op op_add (pe_op op_add (pe_ix ix_list (pv 3) (pe_un un_neg pe_int) (fun _ _ => rfl)) pe_int) (pe_call G_law_take hr_law_take (by rfl) T.law_take.g T.law_take.fn.kp T.law_take.bd .nil pass0 (pa_cons (pv 0) (pa_cons pe_int pa_nil)))) (pv 2))))
        pss_nil)
        (pss_one (ps_expr (pe_bm PySem.F.plainAttrs_list PySem.F.slot_list_append PySem.F.type_list_append mt_append (pv 3) (pa_cons (pv 6) pa_nil)))))))))
        (pss_one (ps_ret (pv 3))))))), ?_⟩
    -- pages = 1 + take(box, [4, 6, 12][take(box, 3)])
    refine ⟨_, rfl, ⟨szd rfl, fun e he => ?_⟩⟩
    have eb : b ≠ e := by obtain ⟨_, _, h1, _⟩ := B.ex; exact ne_fresh h1 he
    have el : l ≠ e := by obtain ⟨_, _, _, h1, _⟩ := B.ex; exact ne_fresh h1 he
    have s1 : But [b, l] H (upd H e (.lst (il [4, 6, 12]))) := But.new he
    refine ⟨_, rfl, b, l, 3, rfl, B.same (Same.new he), by decide, by decide, fun r H1 r0 r1 k1 B1 => ?_⟩
    have he1 : H1 e = some (.lst (il [4, 6, 12])) := k1 e _ upd_same (by simp [Ne.symm eb, Ne.symm el])
    obtain ⟨v, hv, hat⟩ := il_menu (xs := [4, 6, 12]) r0 r1
    have v0 : 0 < v ∧ v ≤ 12 := by simp at hv; omega
    refine ⟨e, _, _, _, rfl, rfl, SqL.of he1, hat, b, l, v, rfl, B1, v0.1, by omega, fun pg H2 p0 p1 k2 B2 => ?_⟩
    have k02 : But [b, l] H H2 := (s1.trans k1).trans k2
    refine ⟨_, _, rfl, rfl, ?_⟩
    have pgs0 : 0 < 1 + pg ∧ 1 + pg ≤ 12 := by omega
    -- found = []; way = take(box, 4)
    refine ⟨szd rfl, fun f hf => ?_⟩
    have hfH : H f = none := k02.back hf (by
      obtain ⟨_, _, h1, h2, _⟩ := B2.ex
      have := ne_fresh h1 hf
      have := ne_fresh h2 hf
      simp only [List.mem_cons, List.not_mem_nil, or_false, not_or]
      exact ⟨Ne.symm ‹b ≠ f›, Ne.symm ‹l ≠ f›⟩)
    have fb : f ≠ b := by obtain ⟨_, _, h1, _⟩ := B2.ex; exact Ne.symm (ne_fresh h1 hf)
    have fl : f ≠ l := by obtain ⟨_, _, _, h1, _⟩ := B2.ex; exact Ne.symm (ne_fresh h1 hf)
    have fS : f ∉ [b, l] := by simp [fb, fl]
    refine ⟨_, rfl, b, l, 4, rfl, B2.same (Same.new hf), by decide, by decide, fun way H3 w0 w1 k3 B3 => ?_⟩
    -- for turn in range(take(box, most + 1))
    refine ⟨_, rfl, _, rfl, _, _, rfl, rfl, b, l, _, rfl, B3, by omega, by omega, fun j H4 j0 j1 k4 B4 => ?_⟩
    have hf4 : H4 f = some (.lst (il [])) := k4 f _ (k3 f _ upd_same fS) fS
    have k04 : But [b, l] H H4 := ((k02.trans (But.new hf)).trans k3).trans k4
    refine ⟨_, rfl, by omega, by omega, for_range (lo := 0) (n := j.toNat) (fun i σ H' => ∃ (row : List Int) (v5 v6 : Option V), σ = [some (.ref b), some (.int m), some (.int (1 + pg)), some (.ref f), some (.int way), v5, v6] ∧
      H' f = some (.lst (il row)) ∧ BoxAt H' b l ∧ But [b, l] H H' ∧ row.length = i ∧ ∀ p ∈ row, 0 ≤ p ∧ p < (1 + pg)) ⟨[], _, _, rfl, hf4, B4, k04, rfl, by simp⟩ ?_ ?_⟩
    · rintro i σ H5 hi ⟨row, v5, v6, rfl, hf5, B5, k05, hlen, hrow⟩
      -- page = take(box, pages)
      refine ⟨_, rfl, _, rfl, b, l, _, rfl, B5, pgs0.1, by omega, fun pg1 H6 q0 q1 k6 B6 => ?_⟩
      -- what stands between the ifs
      let S : L2.Hp → Prop := fun H' => H' f = some (.lst (il row)) ∧ BoxAt H' b l ∧ But [b, l] H H'
      let M : L2.St → Hp → Prop := fun σ' H' => ∃ p : Int, σ' = [some (.ref b), some (.int m), some (.int (1 + pg)), some (.ref f), some (.int way), some (.int (0 + (i : Int))), some (.int p)] ∧ S H' ∧ 0 ≤ p ∧ p < 1 + pg
      have sNew : ∀ {H' : Hp} {e : Addr} {o : HO}, S H' → H' e = none → S (upd H' e o) := fun {H' e o} h he => ⟨by rw [upd_ne (ne_fresh h.1 he)]; exact h.1, h.2.1.same (Same.new he), h.2.2.trans (But.new he)⟩
      have sTake : ∀ {H' H'' : Hp}, S H' → But [b, l] H' H'' → BoxAt H'' b l → S H'' := fun h k B => ⟨k f _ h.1 fS, B, h.2.2.trans k⟩
      have sM : ∀ {H' : Hp} {p : Int}, S H' → 0 ≤ p → p < 1 + pg → M [some (.ref b), some (.int m), some (.int (1 + pg)), some (.ref f), some (.int way), some (.int (0 + (i : Int))), some (.int p)] H' := fun h p0 p1 => ⟨_, rfl, h, p0, p1⟩
      have s6 : S H6 := ⟨k6 f _ hf5 fS, B6, k05.trans k6⟩
      refine ⟨M, ?_, ?_⟩
      · -- way == 1 and found != [] and take(box, 3) > 0
        refine ⟨_, rfl, rfl, _, rfl, ?_⟩
        refine ite2 (fun _ => ?_) (fun _ => iteF (sM s6 q0 q1))
        refine ⟨_, rfl, szd rfl, fun e he => ?_⟩
        have s7 := sNew (o := .lst []) s6 he
        refine ⟨pd row, pd [], dp_il (SqL.of s7.1), dp_il (ns := []) (SqL.of upd_same), shaped_il _, shaped_il _, _, rfl, ?_⟩
        rw [eqv_il]
        by_cases hr0 : row = []
        · exact ifF (by simp [hr0]) (iteF (sM s7 q0 q1))
        refine ifT (by simp [hr0]) ?_
        have hpos : 0 < row.length := List.length_pos_iff.mpr hr0
        refine ⟨_, rfl, b, l, 3, rfl, s7.2.1, by decide, by decide, fun c H8 c0 c1 k8 B8 => ?_⟩
        have s8 := sTake s7 k8 B8
        refine ⟨_, _, rfl, rfl, _, rfl, ?_⟩
        refine ite2 (fun _ => ?_) (fun _ => sM s8 q0 q1)
        refine ⟨_, rfl, _, rfl, f, _, rfl, .inl (SqL.of s8.1), _, _, rfl, rfl, _, rfl, _, rfl, f, _, rfl, .inl (SqL.of s8.1), _, _, rfl, b, l, _, rfl, B8, ?_, ?_, fun u H9 u0 u1 k9 B9 => ?_⟩
        · rw [il_len]; split <;> omega
        · rw [il_len]; split <;> omega
        have s9 := sTake s8 k9 B9
        rw [il_len] at u1
        have hat : ∃ v, v ∈ row ∧ atI (il row) ((((il row).length : Int) - 1) - u) = some (V.int v) := by
          rw [il_len]
          refine il_menu ?_ ?_
          · split at u1 <;> omega
          · omega
        obtain ⟨v, hv, hat⟩ := hat
        refine ⟨_, _, rfl, rfl, f, _, _, _, rfl, rfl, SqL.of s9.1, hat, ?_⟩
        exact sM s9 (hrow v hv).1 (hrow v hv).2
      · rintro σ' H7 ⟨p, rfl, s7, p0, p1⟩
        refine ⟨M, ?_, ?_⟩
        · -- way == 2 and take(box, 5) > 0
          refine ⟨_, rfl, rfl, _, rfl, ?_⟩
          refine ite2 (fun _ => ?_) (fun _ => iteF (sM s7 p0 p1))
          refine ⟨_, rfl, b, l, 5, rfl, s7.2.1, by decide, by decide, fun c H8 c0 c1 k8 B8 => ?_⟩
          have s8 := sTake s7 k8 B8
          refine ⟨_, _, rfl, rfl, _, rfl, ?_⟩
          refine ite2 (fun _ => ?_) (fun _ => sM s8 p0 p1)
          refine ⟨_, rfl, _, rfl, _, _, rfl, rfl, pgs0.1, ?_⟩
          exact sM s8 (Int.emod_nonneg _ (by omega)) (Int.emod_lt_of_pos _ pgs0.1)
        · rintro σ' H7 ⟨p, rfl, s7, p0, p1⟩
          refine ⟨M, ?_, ?_⟩
          · -- way == 3 and found != [] and take(box, 3) > 0
            refine ⟨_, rfl, rfl, _, rfl, ?_⟩
            refine ite2 (fun _ => ?_) (fun _ => iteF (sM s7 p0 p1))
            refine ⟨_, rfl, szd rfl, fun e he => ?_⟩
            have s8 := sNew (o := .lst []) s7 he
            refine ⟨pd row, pd [], dp_il (SqL.of s8.1), dp_il (ns := []) (SqL.of upd_same), shaped_il _, shaped_il _, _, rfl, ?_⟩
            rw [eqv_il]
            by_cases hr0 : row = []
            · exact ifF (by simp [hr0]) (iteF (sM s8 p0 p1))
            refine ifT (by simp [hr0]) ?_
            refine ⟨_, rfl, b, l, 3, rfl, s8.2.1, by decide, by decide, fun c H9 c0 c1 k9 B9 => ?_⟩
            have s9 := sTake s8 k9 B9
            refine ⟨_, _, rfl, rfl, _, rfl, ?_⟩
            refine ite2 (fun _ => ?_) (fun _ => sM s9 p0 p1)
            obtain ⟨v, hv, hat⟩ := il_last hr0
            refine ⟨_, rfl, _, rfl, f, _, _, _, rfl, rfl, SqL.of s9.1, hat, _, _, rfl, rfl, _, rfl, b, l, 2, rfl, B9, by decide, by decide, fun u H10 u0 u1 k10 B10 => ?_⟩
            have s10 := sTake s9 k10 B10
            refine ⟨_, _, rfl, rfl, _, rfl, _, _, rfl, rfl, pgs0.1, ?_⟩
            exact sM s10 (Int.emod_nonneg _ (by omega)) (Int.emod_lt_of_pos _ pgs0.1)
          · -- found.append(page)
            rintro σ' H8 ⟨p, rfl, s8, p0, p1⟩
            refine ⟨_, rfl, .inl ⟨rfl, _, SqL.of s8.1⟩, _, rfl, f, _, _, rfl, rfl, s8.1, szl (by rw [il_len]; omega), ?_⟩
            refine ⟨row ++ [p], _, _, rfl, ?_, s8.2.1.but (S := [f]) (But.put (by simp)) (by simp [Ne.symm fb]) (by simp [Ne.symm fl]), ?_, by simp [hlen], ?_⟩
            · rw [upd_same, il_snoc]
            · intro c o hc hn
              rw [upd_ne (ne_fresh hc hfH)]
              exact s8.2.2 c o hc hn
            · intro x hx
              rcases List.mem_append.mp hx with hx | hx
              · exact hrow x hx
              · rw [List.mem_singleton.mp hx]
                exact ⟨p0, p1⟩
    · rintro σ H' ⟨row, v5, v6, rfl, hf', B', k', hlen, hrow⟩
      exact ⟨_, rfl, k row f H' hfH (fun p hp => by have := hrow p hp; omega) (by omega) k' hf' B'⟩
end
end CK

namespace CK
open PySem PySem.Spec PyProof.Rows L2
/-! ### two things that read as the same data are alike -/
mutual
/-- no list of it is longer than a thousand -/
def smallD : PyData → Prop
  | .list ds => ds.length ≤ 1000 ∧ smallAll ds
  | .tuple ds => ds.length ≤ 1000 ∧ smallAll ds
  | _ => True
def smallAll : List PyData → Prop
  | [] => True
  | d :: ds => smallD d ∧ smallAll ds
end
theorem small_at : ∀ {ds : List PyData} {i : Nat} {d : PyData}, smallAll ds → ds[i]? = some d → smallD d
  | [], _, _, _, h => by simp at h
  | a :: r, 0, d, s, h => by
    have e : a = d := Option.some.inj h
    rw [← e]
    exact s.1
  | a :: r, i + 1, d, s, h => small_at (ds := r) (i := i) s.2 h
def spAlike (K : PySem.W.Frag) (n : Nat) : Sp := fun vs H Q _ => ∃ (x y : V) (d : PyData), vs = [x, y] ∧ Dp K H x d ∧ Dp K H y d ∧ d.depth < n ∧ smallD d ∧ Q (.bl true) H
theorem dpAll_len {K : PySem.W.Frag} {H : Hp} : ∀ {xs : List V} {ds : List PyData}, DpAll K H xs ds → xs.length = ds.length
  | _, _, .nil => rfl
  | _, _, .cons _ t => congrArg Nat.succ (dpAll_len t)
theorem dpAll_at {K : PySem.W.Frag} {H : Hp} : ∀ {xs : List V} {ds : List PyData} {i : Nat}, DpAll K H xs ds → i < ds.length → ∃ x d, xs[i]? = some x ∧ ds[i]? = some d ∧ Dp K H x d
  | _, _, _, .nil, h => absurd h (Nat.not_lt_zero _)
  | x :: _, d :: _, 0, .cons a _, _ => ⟨x, d, rfl, rfl, a⟩
  | _ :: xs, _ :: ds, i + 1, .cons _ t, h => by
    obtain ⟨x, d, e1, e2, e3⟩ := dpAll_at (i := i) t (Nat.lt_of_succ_lt_succ h)
    exact ⟨x, d, e1, e2, e3⟩
theorem dep_at : ∀ {ds : List PyData} {i : Nat} {d : PyData}, ds[i]? = some d → d.depth ≤ PyData.depthAll ds
  | [], _, _, h => by simp at h
  | a :: r, 0, d, h => by
    have e : a = d := Option.some.inj h
    rw [← e]
    exact Nat.le_max_left _ _
  | a :: r, i + 1, d, h => Nat.le_trans (dep_at (ds := r) (i := i) h) (Nat.le_max_right _ _)
theorem ty_list {K : PySem.W.Frag} {H : Hp} {a : Addr} {xs : List V} (h : SqL K H a xs) : TyX K H (.ref a) (.type "list") := by
  rcases h with (h | ⟨o, h⟩) | ⟨o, its, n, hk, hc, _⟩
  · exact .base (.lst h)
  · exact .base (.frz h)
  · exact .kList hk hc
theorem ty_tup {K : PySem.W.Frag} {H : Hp} {a : Addr} {xs : List V} (h : SqT K H a xs) : TyX K H (.ref a) (.type "tuple") := by
  rcases h with (h | ⟨o, h⟩) | ⟨o, its, n, hk, hc, _⟩
  · exact .base (.tup h)
  · exact .fTuple h
  · exact .kTuple hk hc
section
variable {P : Program} {w : World} {K : PySem.W.Frag} {mg : Str → Option Value} {base : Heap}
theorem sc_law_alike : FnScope ["_law_found", "_law_due", "_law_k"] ["_law_found", "_law_due"] (defScope (top 32)) := ⟨rfl, rfl, rfl, by decide +kernel, rfl, by decide +kernel, by decide +kernel⟩
theorem ok_law_alike (T : Prog K mg) (n : Nat) (G_law_alike : FnOk P w K mg base CX0 n T.law_alike.f T.law_alike.fd ["_law_found", "_law_due"] (spAlike K n)) : FnOk P w K mg base CX0 (n + 1) T.law_alike.f T.law_alike.fd ["_law_found", "_law_due"] (spAlike K (n + 1)) := by
  refine T.law_alike.fn.ok sc_law_alike (fun vs H Q E h => ?len) (fun cdv A outer s H vs Q E hr h => ?body)
  case len =>
    obtain ⟨x, y, d, rfl, _⟩ := h
    rfl
  case body =>
    have hu := hu_of hr
    have hr_law_alike : Room n _ := hr
    obtain ⟨x, y, d, rfl, dx, dy, hn, hsm, k⟩ := h
    refine ⟨_, PSs.nox (pss_cons (ps_if (pt_cmpR op_isN (pv 1) pe_non (nomark _))
        (pss_one (ps_ret (pe_cmpR op_isN (pv 0) pe_non (nomark _))))
        pss_nil)
        (pss_cons (ps_if (pt_val (pe_callB call_isi (by rfl) T.isinstance (by decide +kernel) (pa_cons (pv 1) (pa_cons (pe_bltn (v := L2.V.ty "bool") (by rfl) T.bool_ (by decide +kernel) rfl) pa_nil))))
        (pss_one (ps_ret (pe_and (pe_callB call_isi (by rfl) T.isinstance (by decide +kernel) (pa_cons (pv 0) (pa_cons (pe_bltn (v := L2.V.ty "bool") (by rfl) T.bool_ (by decide +kernel) rfl) pa_nil))) (pe_one (pe_cmpR op_eq (pv 0) (pv 1) (nomark _))))))
        pss_nil)
        (pss_cons (ps_if (pt_val (pe_callB call_isi (by rfl) T.isinstance (by decide +kernel) (pa_cons (pv 1) (pa_cons (pe_bltn (v := L2.V.ty "int") (by rfl) T.int_ (by decide +kernel) rfl) pa_nil))))
        (pss_one (ps_ret (pe_and (pe_callB call_isi (by rfl) T.isinstance (by decide +kernel) (pa_cons (pv 0) (pa_cons (pe_bltn (v := L2.V.ty "int") (by rfl) T.int_ (by decide +kernel) rfl) pa_nil))) (pe_and (pe_not (pe_callB call_isi (by rfl) T.isinstance (by decide +kernel) (pa_cons (pv 0) (pa_cons (pe_bltn (v := L2.V.ty "bool") (by rfl) T.bool_ (by decide +kernel) rfl) pa_nil)))) (pe_one (pe_cmpR op_eq (pv 0) (pv 1) (nomark _)))))))
        pss_nil)
        (pss_cons (ps_if (pt_val (pe_callB call_isi (by rfl) T.isinstance (by decide +kernel) (pa_cons (pv 1) (pa_cons (pe_bltn (v := L2.V.ty "str") (by rfl) T.str_ (by decide +kernel) rfl) pa_nil))))
        (pss_one (ps_ret (pe_and (pe_callB call_isi (by rfl) T.isinstance (by decide +kernel) (pa_cons (pv 0) (pa_cons (pe_bltn (v := L2.V.ty "str") (by rfl) T.str_ (by decide +kernel) rfl) pa_nil))) (pe_one (pe_cmpR op_eq (pv 0) (pv 1) (nomark _))))))
        pss_nil)
        (pss_cons (ps_if (PW.pt (pw_or (pt_cmpR op_ne (pe_callB call_isi (by rfl) T.isinstance (by decide +kernel) (pa_cons (pv 1) (pa_cons (pe_bltn (v := L2.V.ty "tuple") (by rfl) T.tuple_ (by decide +kernel) rfl) pa_nil))) (pe_callB call_isi (by rfl) T.isinstance (by decide +kernel) (pa_cons (pv 0) (pa_cons (pe_bltn (v := L2.V.ty "tuple") (by rfl) T.tuple_ (by decide +kernel) rfl) pa_nil))) (nomark _)) (pw_or1 (pt_cmpR op_ne (pe_callB call_isi (by rfl) T.isinstance (by decide +kernel) (pa_cons (pv 1) (pa_cons (pe_bltn (v := L2.V.ty "list") (by rfl) T.list_ (by decide +kernel) rfl) pa_nil))) (pe_callB call_isi (by rfl) T.isinstance (by decide +kernel) (pa_cons (pv 0) (pa_cons (pe_bltn (v := L2.V.ty "list") (by rfl) T.list_ (by decide +kernel) rfl) pa_nil))) (nomark _)))))
        (pss_one (ps_ret pe_bl))
        pss_nil)
        (pss_cons (ps_if (pt_cmpR op_ne (pe_callB call_len_seq (by rfl) T.len PySem.boot_len (pa_cons (pv 0) pa_nil)) (pe_callB call_len_seq (by rfl) T.len PySem.boot_len (pa_cons (pv 1) pa_nil)) (nomark _))
        (pss_one (ps_ret pe_bl))
        pss_nil)
        (pss_cons (ps_for PassesOwn.never rfl (pi_range1 (by rfl) T.range (pa_cons (pe_callB call_len_seq (by rfl) T.len PySem.boot_len (pa_cons (pv 1) pa_nil)) pa_nil)) (pg_name (i := 2) sc_law_alike.nd rfl (Or.inl rfl))
        (pss_one (ps_if (pt_not (pt_val (pe_call G_law_alike hr_law_alike (by rfl) T.law_alike.g T.law_alike.fn.kp T.law_alike.bd .nil pass0 (pa_cons (pe_ix ix_seq (pv 0) (pv 2) (fun _ _ => rfl)) (pa_cons (pe_ix ix_seq (pv 1) (pv 2) (fun _ _ => rfl)) pa_nil)))))
        (pss_one (ps_ret pe_bl))
        pss_nil)))
        (pss_one (ps_ret pe_bl))))))))), ?_⟩
    refine ⟨_, rfl, rfl, _, rfl, ?_⟩
    cases dy with
    | non =>
      cases dx
      exact ifT rfl ⟨_, rfl, rfl, k⟩
    | bl c =>
      cases dx
      refine ifF rfl ⟨_, rfl, _, _, _, _, _, rfl, .ty _, .base (.bl _), kit_ty (by decide +kernel), _, rfl, iteT ?_⟩
      refine ⟨_, rfl, _, _, _, _, _, rfl, .ty _, .base (.bl _), kit_ty (by decide +kernel), _, rfl, iteT ?_⟩
      refine ⟨_, rfl, _, rfl, rfl, ?_⟩
      rw [decide_eq_true rfl]
      exact k
    | int i =>
      cases dx
      refine ifF rfl ⟨_, rfl, _, _, _, _, _, rfl, .ty _, .base (.int _), kit_ty (by decide +kernel), _, rfl, iteF ?_⟩
      refine ⟨_, rfl, _, _, _, _, _, rfl, .ty _, .base (.int _), kit_ty (by decide +kernel), _, rfl, iteT ?_⟩
      refine ⟨_, rfl, _, _, _, _, _, rfl, .ty _, .base (.int _), kit_ty (by decide +kernel), _, rfl, iteT ?_⟩
      refine ⟨_, rfl, _, _, _, _, _, rfl, .ty _, .base (.int _), kit_ty (r := false) (by decide +kernel), _, rfl, _, rfl, iteT ?_⟩
      refine ⟨_, rfl, _, rfl, rfl, ?_⟩
      rw [decide_eq_true rfl]
      exact k
    | str z =>
      cases dx
      refine ifF rfl ⟨_, rfl, _, _, _, _, _, rfl, .ty _, .base (.str _), kit_ty (by decide +kernel), _, rfl, iteF ?_⟩
      refine ⟨_, rfl, _, _, _, _, _, rfl, .ty _, .base (.str _), kit_ty (by decide +kernel), _, rfl, iteF ?_⟩
      refine ⟨_, rfl, _, _, _, _, _, rfl, .ty _, .base (.str _), kit_ty (by decide +kernel), _, rfl, iteT ?_⟩
      refine ⟨_, rfl, _, _, _, _, _, rfl, .ty _, .base (.str _), kit_ty (by decide +kernel), _, rfl, iteT ?_⟩
      refine ⟨_, rfl, _, rfl, rfl, ?_⟩
      rw [decide_eq_true rfl]
      exact k
    | @lst a xs ds ha hall =>
      cases dx with
      | @lst a' xs' _ ha' hall' =>
      refine ifF rfl ⟨_, rfl, _, _, _, _, _, rfl, .ty _, ty_list ha, kit_ty (by decide +kernel), _, rfl, iteF ?_⟩
      refine ⟨_, rfl, _, _, _, _, _, rfl, .ty _, ty_list ha, kit_ty (by decide +kernel), _, rfl, iteF ?_⟩
      refine ⟨_, rfl, _, _, _, _, _, rfl, .ty _, ty_list ha, kit_ty (by decide +kernel), _, rfl, iteF ?_⟩
      refine ⟨_, rfl, _, _, _, _, _, rfl, .ty _, ty_list ha, kit_ty (r := false) (by decide +kernel), _, rfl, _, _, _, _, _, rfl, .ty _, ty_list ha', kit_ty (r := false) (by decide +kernel), rfl, _, rfl, ?_⟩
      refine ifF rfl ⟨_, rfl, _, _, _, _, _, rfl, .ty _, ty_list ha, kit_ty (r := true) (by decide +kernel), _, rfl, _, _, _, _, _, rfl, .ty _, ty_list ha', kit_ty (r := true) (by decide +kernel), rfl, _, rfl, ?_⟩
      refine ifF rfl ?_
      have e1 := dpAll_len hall
      have e2 := dpAll_len hall'
      have hs1 : ds.length ≤ 1000 := hsm.1
      refine ⟨_, rfl, _, _, rfl, .inl ha', _, rfl, _, _, rfl, .inl ha, rfl, _, rfl, ?_⟩
      refine ifF (by rw [e1, e2]; simp) ?_
      refine ⟨_, rfl, _, _, rfl, .inl ha, _, rfl, by omega, by omega, ?_⟩
      refine for_range (lo := 0) (n := ((xs.length : Int)).toNat) (fun i σ H' => ∃ v, σ = [some (.ref a'), some (.ref a), v] ∧ H' = H) ⟨_, rfl, rfl⟩ ?_ ?_
      · rintro i σ H' hi ⟨v, rfl, rfl⟩
        have hi' : i < ds.length := by omega
        obtain ⟨x1, d1, f1, f2, f3⟩ := dpAll_at hall hi'
        obtain ⟨x2, d2, g1, g2, g3⟩ := dpAll_at hall' hi'
        have ed : d2 = d1 := Option.some.inj (g2.symm.trans f2)
        subst ed
        have hat1 : atI xs (0 + (i : Int)) = some x1 := by rw [Int.zero_add]; exact atI_nat f1
        have hat2 : atI xs' (0 + (i : Int)) = some x2 := by rw [Int.zero_add]; exact atI_nat g1
        have hdep : d2.depth < n := by
          have h1 := dep_at f2
          have h2 : PyData.depthAll ds + 1 < n + 1 := hn
          omega
        refine ⟨_, rfl, _, rfl, .inl ⟨_, _, _, _, rfl, rfl, ha', hat2, _, rfl, _, rfl, .inl ⟨_, _, _, _, rfl, rfl, ha, hat1, ?_⟩⟩⟩
        refine ⟨_, _, d2, rfl, g3, f3, hdep, small_at hsm.2 f2, _, rfl, ?_⟩
        exact iteF ⟨_, rfl, rfl⟩
      · rintro σ H' ⟨v, rfl, rfl⟩
        exact k
    | @tup a xs ds ha hall =>
      cases dx with
      | @tup a' xs' _ ha' hall' =>
      refine ifF rfl ⟨_, rfl, _, _, _, _, _, rfl, .ty _, ty_tup ha, kit_ty (by decide +kernel), _, rfl, iteF ?_⟩
      refine ⟨_, rfl, _, _, _, _, _, rfl, .ty _, ty_tup ha, kit_ty (by decide +kernel), _, rfl, iteF ?_⟩
      refine ⟨_, rfl, _, _, _, _, _, rfl, .ty _, ty_tup ha, kit_ty (by decide +kernel), _, rfl, iteF ?_⟩
      refine ⟨_, rfl, _, _, _, _, _, rfl, .ty _, ty_tup ha, kit_ty (r := true) (by decide +kernel), _, rfl, _, _, _, _, _, rfl, .ty _, ty_tup ha', kit_ty (r := true) (by decide +kernel), rfl, _, rfl, ?_⟩
      refine ifF rfl ⟨_, rfl, _, _, _, _, _, rfl, .ty _, ty_tup ha, kit_ty (r := false) (by decide +kernel), _, rfl, _, _, _, _, _, rfl, .ty _, ty_tup ha', kit_ty (r := false) (by decide +kernel), rfl, _, rfl, ?_⟩
      refine ifF rfl ?_
      have e1 := dpAll_len hall
      have e2 := dpAll_len hall'
      have hs1 : ds.length ≤ 1000 := hsm.1
      refine ⟨_, rfl, _, _, rfl, .inr ha', _, rfl, _, _, rfl, .inr ha, rfl, _, rfl, ?_⟩
      refine ifF (by rw [e1, e2]; simp) ?_
      refine ⟨_, rfl, _, _, rfl, .inr ha, _, rfl, by omega, by omega, ?_⟩
      refine for_range (lo := 0) (n := ((xs.length : Int)).toNat) (fun i σ H' => ∃ v, σ = [some (.ref a'), some (.ref a), v] ∧ H' = H) ⟨_, rfl, rfl⟩ ?_ ?_
      · rintro i σ H' hi ⟨v, rfl, rfl⟩
        have hi' : i < ds.length := by omega
        obtain ⟨x1, d1, f1, f2, f3⟩ := dpAll_at hall hi'
        obtain ⟨x2, d2, g1, g2, g3⟩ := dpAll_at hall' hi'
        have ed : d2 = d1 := Option.some.inj (g2.symm.trans f2)
        subst ed
        have hat1 : atI xs (0 + (i : Int)) = some x1 := by rw [Int.zero_add]; exact atI_nat f1
        have hat2 : atI xs' (0 + (i : Int)) = some x2 := by rw [Int.zero_add]; exact atI_nat g1
        have hdep : d2.depth < n := by
          have h1 := dep_at f2
          have h2 : PyData.depthAll ds + 1 < n + 1 := hn
          omega
        refine ⟨_, rfl, _, rfl, .inr (.inl ⟨_, _, _, _, rfl, rfl, ha', hat2, _, rfl, _, rfl, .inr (.inl ⟨_, _, _, _, rfl, rfl, ha, hat1, ?_⟩)⟩)⟩
        refine ⟨_, _, d2, rfl, g3, f3, hdep, small_at hsm.2 f2, _, rfl, ?_⟩
        exact iteF ⟨_, rfl, rfl⟩
      · rintro σ H' ⟨v, rfl, rfl⟩
        exact k
/-- so of any depth, by its levels -/
theorem ok_alike (T : Prog K mg) : ∀ n : Nat, FnOk P w K mg base CX0 n T.law_alike.f T.law_alike.fd ["_law_found", "_law_due"] (spAlike K n)
  | 0 => ⟨fun vs H Q E ⟨x, y, d, e, _⟩ => by rw [e]; rfl, fun A outer s H args us vs Q E _ _ _ _ ⟨x, y, d, _, _, _, h, _⟩ => absurd h (Nat.not_lt_zero _)⟩
  | n + 1 => ok_law_alike T n (ok_alike T n)
end
end CK

/-! The dial as plain data, and what an ask does to it. -/
namespace CK
structure DS where
  held : List (Option Int)
  marks : List Bool
  hand : Nat
  lacks : Nat
structure DS.WF (s : DS) (n : Nat) : Prop where
  h : s.held.length = n
  m : s.marks.length = n
  n : s.hand < n
def DS.new (n : Nat) : DS := ⟨List.replicate n none, List.replicate n false, 0, 0⟩
/-- the hand past the marked rooms: so many rounds at most -/
def passF : Nat → List Bool → Nat → List Bool × Nat × List Nat
  | 0, m, h => (m, h, [])
  | k + 1, m, h => if m[h]? = some true then
      let r := passF k (m.set h false) ((h + 1) % m.length)
      (r.1, r.2.1, h :: r.2.2)
    else (m, h, [])
def DS.pass (s : DS) : List Bool × Nat × List Nat := passF (s.marks.count true) s.marks s.hand
def DS.lack (s : DS) (p : Int) : DS :=
  ⟨s.held.set s.pass.2.1 (some p), s.pass.1.set s.pass.2.1 true, (s.pass.2.1 + 1) % s.held.length, s.lacks + 1⟩
def DS.hit (s : DS) (p : Int) : DS := { s with marks := s.marks.set (s.held.idxOf (some p)) true }
def DS.ask (s : DS) (p : Int) : DS := if some p ∈ s.held then s.hit p else s.lack p
/-- what an ask tells -/
def DS.tells (s : DS) (p : Int) : Bool × Option Int × List Nat :=
  if some p ∈ s.held then (false, none, []) else (true, (s.held[s.pass.2.1]?).getD none, s.pass.2.2)
def afterL (s : DS) (row : List Int) : DS := row.foldl DS.ask s
def tellsL : DS → List Int → List (Bool × Option Int × List Nat)
  | _, [] => []
  | s, p :: r => s.tells p :: tellsL (s.ask p) r
theorem afterL_snoc (s : DS) (xs : List Int) (p : Int) : afterL s (xs ++ [p]) = (afterL s xs).ask p := by
  unfold afterL
  rw [List.foldl_append]
  rfl
theorem tellsL_snoc : ∀ (s : DS) (xs : List Int) (p : Int), tellsL s (xs ++ [p]) = tellsL s xs ++ [(afterL s xs).tells p]
  | _, [], _ => rfl
  | s, x :: r, p => congrArg (s.tells x :: ·) (tellsL_snoc (s.ask x) r p)
theorem tellsL_len : ∀ (s : DS) (xs : List Int), (tellsL s xs).length = xs.length
  | _, [] => rfl
  | s, x :: r => congrArg Nat.succ (tellsL_len (s.ask x) r)
/-- the places of what is true -/
def placesT : Nat → List Bool → List Nat
  | _, [] => []
  | i, b :: r => if b = true then i :: placesT (i + 1) r else placesT (i + 1) r
theorem placesT_snoc : ∀ (i : Nat) (xs : List Bool) (b : Bool), placesT i (xs ++ [b]) = placesT i xs ++ (if b = true then [i + xs.length] else [])
  | i, [], b => by
    show (if b = true then i :: [] else []) = [] ++ _
    rfl
  | i, x :: r, b => by
    show (if x = true then i :: placesT (i + 1) (r ++ [b]) else placesT (i + 1) (r ++ [b])) = (if x = true then i :: placesT (i + 1) r else placesT (i + 1) r) ++ _
    rw [placesT_snoc (i + 1) r b]
    have e : i + 1 + r.length = i + (x :: r).length := by simp; omega
    rw [e]
    by_cases h : x = true
    · rw [if_pos h, if_pos h]; rfl
    · rw [if_neg h, if_neg h]
theorem placesT_le : ∀ (i : Nat) (xs : List Bool), (placesT i xs).length ≤ xs.length
  | _, [] => Nat.le_refl _
  | i, x :: r => by
    have q := placesT_le (i + 1) r
    unfold placesT
    split
    · simpa using q
    · simp; omega
/-- the line of the other rules -/
def lineStep (n : Nat) (re : Bool) (l : List Int) (p : Int) : List Int :=
  if p ∈ l then (if re = true then l.eraseIdx (l.idxOf p) ++ [p] else l) else (if l.length = n then l.eraseIdx 0 else l) ++ [p]
def lineAt (n : Nat) (re : Bool) (row : List Int) : List Int := row.foldl (lineStep n re) []
def lineL (n : Nat) (re : Bool) : List Int → List Int → List Bool
  | _, [] => []
  | l, p :: r => (!decide (p ∈ l)) :: lineL n re (lineStep n re l p) r
theorem lineAt_snoc (n : Nat) (re : Bool) (xs : List Int) (p : Int) : lineAt n re (xs ++ [p]) = lineStep n re (lineAt n re xs) p := by
  unfold lineAt
  rw [List.foldl_append]
  rfl
theorem lineL_snoc : ∀ (n : Nat) (re : Bool) (l xs : List Int) (p : Int), lineL n re l (xs ++ [p]) = lineL n re l xs ++ [!decide (p ∈ xs.foldl (lineStep n re) l)]
  | _, _, _, [], _ => rfl
  | n, re, l, x :: r, p => congrArg (_ :: ·) (lineL_snoc n re (lineStep n re l x) r p)
theorem lineL_len : ∀ (n : Nat) (re : Bool) (l xs : List Int), (lineL n re l xs).length = xs.length
  | _, _, _, [] => rfl
  | n, re, l, x :: r => congrArg Nat.succ (lineL_len n re (lineStep n re l x) r)
structure LineOk (n : Nat) (l : List Int) : Prop where
  nd : l.Nodup
  le : l.length ≤ n
theorem erase_line {l : List Int} (nd : l.Nodup) (p : Int) : l.eraseIdx (l.idxOf p) = l.filter (· != p) := by
  rw [← List.erase_eq_eraseIdx_of_idxOf (a := p) (l := l) (i := l.idxOf p) rfl]
  exact nd.erase_eq_filter p
theorem line_ok {n : Nat} {re : Bool} {l : List Int} {p : Int} (h : LineOk n l) (hn : 0 < n) : LineOk n (lineStep n re l p) := by
  unfold lineStep
  split
  · rename_i hp
    split
    · have hlt := List.idxOf_lt_length_of_mem hp
      have e := erase_line h.nd p
      refine ⟨?_, ?_⟩
      · rw [e]
        rw [List.nodup_append]
        refine ⟨h.nd.filter _, by simp, fun a ha b hb => ?_⟩
        have hb' : b = p := by simpa using hb
        have ha' : a ≠ p := by
          have := (List.mem_filter.mp ha).2
          simpa using this
        rw [hb']
        exact ha'
      · rw [List.length_append, List.length_eraseIdx_of_lt hlt]
        have := h.le
        simp
        omega
    · exact h
  · rename_i hp
    split
    · rename_i hl
      refine ⟨?_, ?_⟩
      · rw [List.nodup_append]
        refine ⟨h.nd.sublist (List.eraseIdx_sublist _ _), by simp, fun a ha b hb => ?_⟩
        have hb' : b = p := by simpa using hb
        intro z
        rw [z, hb'] at ha
        exact hp ((List.eraseIdx_sublist l 0).subset ha)
      · rw [List.length_append, List.length_eraseIdx_of_lt (by omega)]
        have := h.le
        simp
        omega
    · refine ⟨?_, ?_⟩
      · rw [List.nodup_append]
        refine ⟨h.nd, by simp, fun a ha b hb => ?_⟩
        have hb' : b = p := by simpa using hb
        intro z
        rw [z, hb'] at ha
        exact hp ha
      · rw [List.length_append]
        have := h.le
        simp
        omega
theorem lineAt_ok {n : Nat} {re : Bool} (hn : 0 < n) (row : List Int) : LineOk n (lineAt n re row) := by
  have q : ∀ (row l : List Int), LineOk n l → LineOk n (row.foldl (lineStep n re) l) := by
    intro row
    induction row with
    | nil => exact fun l h => h
    | cons p r ih => exact fun l h => ih _ (line_ok h hn)
  exact q row [] ⟨by simp, by simp⟩
/-- the lacks by a rule: which asks, their places -/
inductive Rl where
  | hand | unseen | first
def Rl.s : Rl → PySem.Str
  | .hand => "hand"
  | .unseen => "unseen"
  | .first => "first"
def lackB (n : Nat) : Rl → List Int → List Bool
  | .hand, row => (tellsL (DS.new n) row).map (·.1)
  | .unseen, row => lineL n true [] row
  | .first, row => lineL n false [] row
def lacksR (n : Nat) (rule : Rl) (row : List Int) : List Nat := placesT 0 (lackB n rule row)
/-- what the law's own going keeps by a rule -/
def keptR (n : Nat) : Rl → List Int → List Int
  | .hand, _ => []
  | .unseen, row => lineAt n true row
  | .first, row => lineAt n false row
def dialR (n : Nat) : Rl → List Int → DS
  | .hand, row => afterL (DS.new n) row
  | _, _ => DS.new n
def lackR (n : Nat) (rule : Rl) (row : List Int) (p : Int) : Bool := match rule with
  | .hand => ((afterL (DS.new n) row).tells p).1
  | _ => !decide (p ∈ keptR n rule row)
theorem lackB_snoc (n : Nat) (rule : Rl) (row : List Int) (p : Int) : lackB n rule (row ++ [p]) = lackB n rule row ++ [lackR n rule row p] := by
  cases rule
  · show (tellsL (DS.new n) (row ++ [p])).map (·.1) = _
    rw [tellsL_snoc, List.map_append]
    rfl
  · exact lineL_snoc n true [] row p
  · exact lineL_snoc n false [] row p
theorem lackB_len (n : Nat) (rule : Rl) (row : List Int) : (lackB n rule row).length = row.length := by
  cases rule
  · show ((tellsL (DS.new n) row).map (·.1)).length = _
    rw [List.length_map, tellsL_len]
  · exact lineL_len _ _ _ _
  · exact lineL_len _ _ _ _
theorem lacksR_le (n : Nat) (rule : Rl) (row : List Int) : (lacksR n rule row).length ≤ row.length := by
  have q := placesT_le 0 (lackB n rule row)
  rw [lackB_len] at q
  exact q
theorem count_set {m : List Bool} {h : Nat} (e : m[h]? = some true) : (m.set h false).count true + 1 = m.count true := by
  induction m generalizing h with
  | nil => simp at e
  | cons a r ih =>
    cases h with
    | zero =>
      have ea : a = true := Option.some.inj e
      subst ea
      simp
    | succ h =>
      have e' : r[h]? = some true := e
      have q := ih e'
      simp only [List.set_cons_succ, List.count_cons]
      omega
theorem count_pos {m : List Bool} {h : Nat} (e : m[h]? = some true) : 0 < m.count true := by
  have := count_set e
  omega
theorem passF_len : ∀ (k : Nat) (m : List Bool) (h : Nat), (passF k m h).1.length = m.length
  | 0, _, _ => rfl
  | k + 1, m, h => by
    unfold passF
    split
    · have q := passF_len k (m.set h false) ((h + 1) % m.length)
      rw [List.length_set] at q
      exact q
    · rfl
theorem passF_lt : ∀ (k : Nat) (m : List Bool) (h : Nat), h < m.length → (passF k m h).2.1 < m.length
  | 0, _, _, l => l
  | k + 1, m, h, l => by
    unfold passF
    split
    · have q := passF_lt k (m.set h false) ((h + 1) % m.length) (by rw [List.length_set]; exact Nat.mod_lt _ (by omega))
      rw [List.length_set] at q
      exact q
    · exact l
/-- the loop's own word: from (m, h), with l passed so far, the end is e -/
structure PassInv (e : List Bool × Nat × List Nat) (m : List Bool) (h : Nat) (l : List Nat) : Prop where
  a : (passF (m.count true) m h).1 = e.1
  b : (passF (m.count true) m h).2.1 = e.2.1
  c : l ++ (passF (m.count true) m h).2.2 = e.2.2
theorem PassInv.start (m : List Bool) (h : Nat) : PassInv (passF (m.count true) m h) m h [] := ⟨rfl, rfl, rfl⟩
theorem passF_step {m : List Bool} {h : Nat} (e : m[h]? = some true) : passF (m.count true) m h =
    ((passF ((m.set h false).count true) (m.set h false) ((h + 1) % m.length)).1, (passF ((m.set h false).count true) (m.set h false) ((h + 1) % m.length)).2.1, h :: (passF ((m.set h false).count true) (m.set h false) ((h + 1) % m.length)).2.2) := by
  rw [← count_set e]
  show (if m[h]? = some true then _ else _) = _
  rw [if_pos e]
theorem passF_stop {m : List Bool} {h k : Nat} (e : m[h]? = some false) : passF k m h = (m, h, []) := by
  cases k with
  | zero => rfl
  | succ k =>
    show (if m[h]? = some true then _ else _) = _
    rw [if_neg (by rw [e]; simp)]
theorem PassInv.go {e : List Bool × Nat × List Nat} {m : List Bool} {h : Nat} {l : List Nat} (I : PassInv e m h l) (t : m[h]? = some true) : PassInv e (m.set h false) ((h + 1) % m.length) (l ++ [h]) := by
  obtain ⟨a, b, c⟩ := I
  rw [passF_step t] at a b c
  refine ⟨a, b, ?_⟩
  rw [← c, List.append_assoc]
  rfl
theorem PassInv.end {e : List Bool × Nat × List Nat} {m : List Bool} {h : Nat} {l : List Nat} (I : PassInv e m h l) (t : m[h]? = some false) : e = (m, h, l) := by
  obtain ⟨a, b, c⟩ := I
  rw [passF_stop t] at a b c
  obtain ⟨x, y, z⟩ := e
  simp only [List.append_nil] at a b c
  rw [a, b, c]
theorem DS.WF.pos {s : DS} {n : Nat} (w : s.WF n) : 0 < n := Nat.lt_of_le_of_lt (Nat.zero_le _) w.n
theorem DS.WF.passlt {s : DS} {n : Nat} (w : s.WF n) : s.pass.2.1 < n := by
  have q := passF_lt (s.marks.count true) s.marks s.hand (by rw [w.m]; exact w.n)
  rw [w.m] at q
  exact q
theorem DS.WF.passm {s : DS} {n : Nat} (w : s.WF n) : s.pass.1.length = n := by
  have q := passF_len (s.marks.count true) s.marks s.hand
  rw [w.m] at q
  exact q
theorem DS.new_wf {n : Nat} (h : 0 < n) : (DS.new n).WF n := ⟨List.length_replicate, List.length_replicate, h⟩
theorem DS.lack_wf {s : DS} {n : Nat} {p : Int} (w : s.WF n) : (s.lack p).WF n := by
  refine ⟨?_, ?_, ?_⟩
  · show (s.held.set _ _).length = n
    rw [List.length_set]; exact w.h
  · show (s.pass.1.set _ _).length = n
    rw [List.length_set]; exact w.passm
  · show (s.pass.2.1 + 1) % s.held.length < n
    rw [w.h]; exact Nat.mod_lt _ w.pos
theorem DS.hit_wf {s : DS} {n : Nat} {p : Int} (w : s.WF n) : (s.hit p).WF n :=
  ⟨w.h, by show (s.marks.set _ _).length = n; rw [List.length_set]; exact w.m, w.n⟩
theorem DS.ask_wf {s : DS} {n : Nat} {p : Int} (w : s.WF n) : (s.ask p).WF n := by
  unfold DS.ask
  split
  · exact hit_wf w
  · exact lack_wf w
theorem afterL_wf {s : DS} {n : Nat} (w : s.WF n) : ∀ row : List Int, (afterL s row).WF n := by
  intro row
  induction row generalizing s with
  | nil => exact w
  | cons p r ih => exact ih (DS.ask_wf w)
/-- the first place of a thing -/
theorem idx_at {α : Type} [BEq α] [LawfulBEq α] {l : List α} {x : α} (h : x ∈ l) : l[l.idxOf x]? = some x := by
  have q := List.idxOf_lt_length_of_mem h
  rw [List.getElem?_eq_getElem q]
  exact congrArg some (List.getElem_idxOf q)
theorem idx_no {α : Type} [BEq α] [LawfulBEq α] : ∀ {l : List α} {x y : α} {m : Nat}, m < l.idxOf x → l[m]? = some y → ¬ y = x
  | [], _, _, _, h, _ => by simp at h
  | a :: r, x, y, m, h, e => by
    intro q
    subst q
    by_cases ha : a = y
    · subst ha
      simp [List.idxOf_cons] at h
    · have hb : (a == y) = false := by simpa using ha
      rw [List.idxOf_cons, hb] at h
      cases m with
      | zero => exact ha (Option.some.inj e)
      | succ m => exact idx_no (l := r) (m := m) (by simpa using h) e rfl
theorem take_snoc {α : Type} {l : List α} {i : Nat} {x : α} (h : l[i]? = some x) : l.take (i + 1) = l.take i ++ [x] := by
  rw [List.take_add_one, h]
  rfl
/-! ### as values -/
open PySem L2
def pgV : Option Int → V
  | none => .non
  | some p => .int p
abbrev HL (l : List (Option Int)) : List V := l.map pgV
abbrev BL (l : List Bool) : List V := l.map V.bl
theorem flat_hl (l : List (Option Int)) : (HL l).all flatV = true := by
  rw [List.all_eq_true]
  intro x hx
  obtain ⟨n, _, rfl⟩ := List.mem_map.mp hx
  cases n <;> rfl
theorem eqV_pg (a : Option Int) (p : Int) : eqV (pgV a) (.int p) = decide (a = some p) := by
  cases a with
  | none => rfl
  | some n =>
    show (n == p) = _
    by_cases h : n = p <;> simp [h]
theorem inV_hl (p : Int) (l : List (Option Int)) : inV (V.int p) (HL l) = decide (some p ∈ l) := by
  induction l with
  | nil => rfl
  | cons a r ih =>
    show (eqV (pgV a) (V.int p) || inV (V.int p) (HL r)) = _
    rw [ih, eqV_pg]
    by_cases h : a = some p
    · simp [h]
    · have h2 : ¬ some p = a := fun z => h z.symm
      simp [h, h2]
theorem hl_set {l : List (Option Int)} {j : Nat} {p : Int} : (HL l).set j (V.int p) = HL (l.set j (some p)) := by
  show (l.map pgV).set j (pgV (some p)) = (l.set j (some p)).map pgV
  rw [List.map_set]
theorem bl_set {l : List Bool} {j : Nat} {b : Bool} : (BL l).set j (V.bl b) = BL (l.set j b) := by
  show (l.map V.bl).set j (V.bl b) = (l.set j b).map V.bl
  rw [List.map_set]
theorem bl_at {l : List Bool} {j : Nat} {b : Bool} (h : l[j]? = some b) : (BL l)[j]? = some (V.bl b) := by
  rw [List.getElem?_map, h]
  rfl
theorem hl_at {l : List (Option Int)} {j : Nat} {b : Option Int} (h : l[j]? = some b) : (HL l)[j]? = some (pgV b) := by
  rw [List.getElem?_map, h]
  rfl
abbrev NL (l : List Nat) : List V := l.map fun n : Nat => V.int (n : Int)
/-- rReps: n times one thing -/
theorem rep_one {x : V} {n : Nat} : (List.replicate n [x]).flatten = List.replicate n x := by
  induction n with
  | zero => rfl
  | succ n ih =>
    rw [List.replicate_succ, List.flatten_cons, ih, List.replicate_succ]
    rfl
theorem hl_new (n : Nat) : HL (DS.new n).held = List.replicate n .non := by
  show (List.replicate n none).map pgV = _
  rw [List.map_replicate]
  rfl
theorem bl_new (n : Nat) : BL (DS.new n).marks = List.replicate n (.bl false) := by
  show (List.replicate n false).map V.bl = _
  rw [List.map_replicate]
end CK

/-! The program's checks. -/
namespace CK
open PySem PySem.Spec PyProof.Rows L2
theorem NL_snoc {ns : List Nat} {n : Nat} : NL ns ++ [V.int (n : Int)] = NL (ns ++ [n]) := by
  show ns.map _ ++ _ = (ns ++ [n]).map _
  rw [List.map_append]
  rfl
theorem NL_il (ns : List Nat) : NL ns = il (ns.map fun n : Nat => (n : Int)) := by
  show ns.map _ = (ns.map _).map V.int
  rw [List.map_map]
  rfl
theorem NL_at {ns : List Nat} {j : Nat} {y : V} (h : (NL ns)[j]? = some y) : ∃ n, ns[j]? = some n ∧ y = V.int (n : Int) := by
  rw [List.getElem?_map] at h
  cases e : ns[j]? with
  | none => rw [e] at h; cases h
  | some n => rw [e] at h; exact ⟨n, rfl, (Option.some.inj h).symm⟩
abbrev rLenQ (K : PySem.W.Frag) : List V → Hp → VK → Prop := fun xs H Q => ∃ p ys, xs = [.ref p] ∧ (SqL K H p ys ∨ SqT K H p ys) ∧ Q (.int ys.length) H
/-! ### places in the text -/
def sub (s : Stmt) (i : Nat) : Stmt := match s with
  | .FunctionDef _ _ b _ _ _ _ _ _ _ => b.getD i (.Pass ⟨0, 0, 0, 0⟩)
  | .For _ _ b _ _ => b.getD i (.Pass ⟨0, 0, 0, 0⟩)
  | .While _ b _ _ => b.getD i (.Pass ⟨0, 0, 0, 0⟩)
  | .If _ b o _ => (b ++ o).getD i (.Pass ⟨0, 0, 0, 0⟩)
  | s => s
def valE : Stmt → Expr
  | .Return (some e) _ => e
  | .Assign _ e _ => e
  | .Expr e _ => e
  | _ => .Name "" ⟨0, 0, 0, 0⟩
def lcSc : Expr → Scope
  | .ListComp _ _ sc _ => sc
  | _ => { kind := .function, names := [], isGenerator := false, isCoroutine := false }
theorem BoxAt.off {H : Hp} {b l c : Addr} (B : BoxAt H b l) (h : H c = none) : c ∉ [b, l] := by
  obtain ⟨_, _, q1, q2, _⟩ := B.ex
  have z1 := ne_fresh q1 h
  have z2 := ne_fresh q2 h
  simp [Ne.symm z1, Ne.symm z2]
theorem BoxAt.notup {H : Hp} {b l : Addr} (B : BoxAt H b l) : ∀ d ∈ [b, l], ∀ u, H d ≠ some (.tup u) := by
  obtain ⟨_, _, q1, q2, _⟩ := B.ex
  intro d hd u z
  rcases List.mem_cons.mp hd with e | e
  · rw [e, q1] at z; cases z
  · rw [List.mem_singleton.mp e, q2] at z; cases z
def spCheckRooms : Sp := fun vs H Q _ => ∃ n : Int, vs = [.int n] ∧ 1 ≤ n ∧ n ≤ 8 ∧ Q .non H
def spIsPage : Sp := fun vs H Q _ => ∃ p : Int, vs = [.int p] ∧ Q (.bl (decide (0 ≤ p ∧ p < 12))) H
/-- a row as it may be handed in -/
def RowOk (row : List Int) : Prop := row.length ≤ 100 ∧ ∀ p ∈ row, 0 ≤ p ∧ p < 12
def spCheckRow (K : PySem.W.Frag) : Sp := fun vs H Q _ => ∃ (r : Addr) (row : List Int), vs = [.ref r] ∧ SqL K H r (il row) ∧ RowOk row ∧ ∀ H', Same H H' → Q .non H'
def spLaw (K : PySem.W.Frag) : Sp := fun vs H Q _ => ∃ (a : Addr) (ns : List Int), vs = [.ref a] ∧ SqL K H a (il ns) ∧ ns.length ≤ 63 ∧ ∀ H', Q (.bl true) H'
theorem depth_pd (a : List Int) : (pd a).depth = 1 := by
  show PyData.depthAll _ + 1 = 1
  rw [dep_il]
theorem small_ints : ∀ a : List Int, smallAll (a.map PyData.int)
  | [] => trivial
  | _ :: r => ⟨trivial, small_ints r⟩
theorem small_pd {a : List Int} (h : a.length ≤ 1000) : smallD (pd a) := ⟨by rw [List.length_map]; exact h, small_ints a⟩
section
variable {P : Program} {w : World} {K : PySem.W.Frag} {mg : Str → Option Value} {base : Heap}
theorem sc_check_rooms : FnScope ["rooms"] ["rooms"] (defScope (top 10)) := ⟨rfl, rfl, rfl, by decide +kernel, rfl, by decide +kernel, by decide +kernel⟩
theorem ok_check_rooms (T : Prog K mg) : FnOk P w K mg base CX0 1 T.check_rooms.f T.check_rooms.fd ["rooms"] spCheckRooms := by
  refine T.check_rooms.fn.ok sc_check_rooms (fun vs H Q E h => ?len) (fun cdv A outer s H vs Q E hr h => ?body)
  case len =>
    obtain ⟨n, rfl, _⟩ := h
    rfl
  case body =>
    have hu := hu_of hr
    obtain ⟨n, rfl, n1, n8, k⟩ := h
    refine ⟨_, PSs.nox (pss_one (ps_if (pt_not (pt_chain op_le op_le pe_int (pv 0) (pe_glob (v := L2.V.int 8) rfl T.g_MOST_ROOMS ⟨_, rfl⟩)))
        (pss_one ps_never)
        pss_nil)), ?_⟩
    refine ⟨_, rfl, _, _, rfl, rfl, _, rfl, ifT (decide_eq_true n1) ⟨_, _, rfl, rfl, _, rfl, ?_⟩⟩
    exact ifF (by rw [decide_eq_true n8]; rfl) k
theorem sc_is_page : FnScope ["page"] ["page"] (defScope (top 11)) := ⟨rfl, rfl, rfl, by decide +kernel, rfl, by decide +kernel, by decide +kernel⟩
theorem ok_is_page (T : Prog K mg) : FnOk P w K mg base CX0 1 T.is_page.f T.is_page.fd ["page"] spIsPage := by
  refine T.is_page.fn.ok sc_is_page (fun vs H Q E h => ?len) (fun cdv A outer s H vs Q E hr h => ?body)
  case len =>
    obtain ⟨n, rfl, _⟩ := h
    rfl
  case body =>
    have hu := hu_of hr
    obtain ⟨p, rfl, k⟩ := h
    refine ⟨_, PSs.nox (pss_one (ps_ret (pe_chain op_le op_lt pe_int (pv 0) (pe_glob (v := L2.V.int 12) rfl T.g_PAGES ⟨_, rfl⟩)))), ?_⟩
    refine ⟨_, rfl, _, _, rfl, rfl, _, rfl, ?_⟩
    by_cases h0 : 0 ≤ p
    · refine ifT (decide_eq_true h0) ⟨_, _, rfl, rfl, ?_⟩
      have e : decide (p < 12) = decide (0 ≤ p ∧ p < 12) := by simp [h0]
      rw [← e] at k
      exact k
    · refine ifF (decide_eq_false h0) ?_
      have e : false = decide (0 ≤ p ∧ p < 12) := by simp [h0]
      rw [← e] at k
      exact k
theorem sc_check_row : FnScope ["row", "place", "page"] ["row"] (defScope (top 13)) := ⟨rfl, rfl, rfl, by decide +kernel, rfl, by decide +kernel, by decide +kernel⟩
theorem ok_check_row (T : Prog K mg) : FnOk P w K mg base CX0 2 T.check_row.f T.check_row.fd ["row"] (spCheckRow K) := by
  have G_is_page := ok_is_page (P := P) (w := w) (base := base) T
  refine T.check_row.fn.ok sc_check_row (fun vs H Q E h => ?len) (fun cdv A outer s H vs Q E hr h => ?body)
  case len =>
    obtain ⟨r, row, rfl, _⟩ := h
    rfl
  case body =>
    have hr_is_page : Room 1 _ := hr.mono (by decide)
    have hu := hu_of hr
    obtain ⟨r, row, rfl, hS, hR, k⟩ := h
    refine ⟨_, PSs.nox (pss_one (ps_for PassesOwn.never rfl (pi_enum (by rfl) T.enumerate (pa_cons (pv 0) pa_nil)) (pg_tup rfl (pgs_cons (pg_name (i := 1) sc_check_row.nd rfl (Or.inl rfl)) (pgs_cons (pg_name (i := 2) sc_check_row.nd rfl (Or.inl rfl)) pgs_nil)))
        (pss_one (ps_if (PW.pt (pw_or (pt_cmpR op_eq (pv 1) (pe_glob (v := L2.V.int 100) rfl T.g_MOST_ASKS ⟨_, rfl⟩) (nomark _)) (pw_or1 (pt_not (pt_val (pe_call G_is_page hr_is_page (by rfl) T.is_page.g T.is_page.fn.kp T.is_page.bd .nil pass0 (pa_cons (pv 2) pa_nil)))))))
        (pss_one ps_never)
        pss_nil)))), ?_⟩
    refine ⟨_, rfl, r, _, rfl, hS, for_it (walk_enum (K := K) (a := r) (xs := il row)) (fun i σ H' => (∃ v1 v2, σ = [some (.ref r), v1, v2]) ∧ Same H H') ⟨⟨_, _, rfl⟩, Same.refl H⟩ (fun i σ H' _ h => h.2.seq hS) ?_ ?_⟩
    · rintro i x σ H1 H2 hi ⟨⟨v1, v2, rfl⟩, s1⟩ ⟨t, a, b, rfl, ht, rfl, ha, hb⟩
      have ea : V.int (i : Nat) = a := Option.some.inj ha
      subst ea
      obtain ⟨p, hp, rfl⟩ := il_get hb
      have hpg := hR.2 p (List.mem_of_getElem? hp)
      rw [il_len] at hi
      have hlen := hR.1
      refine ⟨t, _, rfl, SqT.of upd_same, rfl, _, _, rfl, _, _, rfl, rfl, ?_⟩
      refine ⟨_, rfl, rfl, _, rfl, ifF (decide_eq_false (by intro z; injection z with z; omega)) ?_⟩
      refine ⟨_, rfl, p, rfl, _, rfl, ifF (by rw [decide_eq_true hpg]; rfl) ?_⟩
      exact ⟨⟨_, _, rfl⟩, s1.trans (Same.new ht)⟩
    · rintro σ H' ⟨⟨v1, v2, rfl⟩, s1⟩
      exact k H' s1
end
end CK

/-! The program's dial. -/
namespace CK
open PySem PySem.Spec PyProof.Rows L2
def spCheckPage : Sp := fun vs H Q _ => ∃ p : Int, vs = [.int p] ∧ 0 ≤ p ∧ p < 12 ∧ Q .non H
section
variable {P : Program} {w : World} {K : PySem.W.Frag} {mg : Str → Option Value} {base : Heap}
theorem sc_check_page : FnScope ["page"] ["page"] (defScope (top 12)) := ⟨rfl, rfl, rfl, by decide +kernel, rfl, by decide +kernel, by decide +kernel⟩
theorem ok_check_page (T : Prog K mg) : FnOk P w K mg base CX0 2 T.check_page.f T.check_page.fd ["page"] spCheckPage := by
  have G_is_page := ok_is_page (P := P) (w := w) (base := base) T
  refine T.check_page.fn.ok sc_check_page (fun vs H Q E h => ?len) (fun cdv A outer s H vs Q E hr h => ?body)
  case len =>
    obtain ⟨n, rfl, _⟩ := h
    rfl
  case body =>
    have hr_is_page : Room 1 _ := hr.mono (by decide)
    have hu := hu_of hr
    obtain ⟨p, rfl, p0, p1, k⟩ := h
    refine ⟨_, PSs.nox (pss_one (ps_if (pt_not (pt_val (pe_call G_is_page hr_is_page (by rfl) T.is_page.g T.is_page.fn.kp T.is_page.bd .nil pass0 (pa_cons (pv 0) pa_nil))))
        (pss_one ps_never)
        pss_nil)), ?_⟩
    refine ⟨_, rfl, p, rfl, _, rfl, ?_⟩
    exact ifF (by rw [decide_eq_true ⟨p0, p1⟩]; rfl) k
/-! ### the dial -/
abbrev flD (a b : Addr) (h k : Int) : List (Str × V) := [("_held", .ref a), ("_marks", .ref b), ("_hand", .int h), ("_lacks", .int k)]
/-- a Dial of the class at C stands at p, its rooms' pages at a, their marks at b: s -/
structure DialIs (C : Addr) (H : Hp) (p a b : Addr) (s : DS) : Prop where
  ne : a ≠ b
  ob : ∃ dx, H p = some (.ins C dx (flD a b s.hand s.lacks))
  he : H a = some (.lst (HL s.held))
  ma : H b = some (.lst (BL s.marks))
theorem DialIs.pa {C : Addr} {H : Hp} {p a b : Addr} {s : DS} (D : DialIs C H p a b s) : p ≠ a := by
  obtain ⟨dx, h⟩ := D.ob
  exact ne_of h D.he (by intro z; cases z)
theorem DialIs.pb {C : Addr} {H : Hp} {p a b : Addr} {s : DS} (D : DialIs C H p a b s) : p ≠ b := by
  obtain ⟨dx, h⟩ := D.ob
  exact ne_of h D.ma (by intro z; cases z)
theorem DialIs.but {S : List Addr} {C : Addr} {H H' : Hp} {p a b : Addr} {s : DS} (D : DialIs C H p a b s) (k : But S H H') (h1 : p ∉ S) (h2 : a ∉ S) (h3 : b ∉ S) : DialIs C H' p a b s := by
  obtain ⟨dx, h⟩ := D.ob
  exact ⟨D.ne, ⟨dx, k _ _ h h1⟩, k _ _ D.he h2, k _ _ D.ma h3⟩
theorem DialIs.same {C : Addr} {H H' : Hp} {p a b : Addr} {s : DS} (D : DialIs C H p a b s) (k : Same H H') : DialIs C H' p a b s := D.but (S := []) (But.of k) (by simp) (by simp) (by simp)
/-- the hand goes on by one -/
def spGoOn (C : Addr) : Sp := fun vs H Q _ => ∃ (p a b dx : Addr) (xs : List V) (h k : Nat), vs = [.ref p] ∧ H p = some (.ins C dx (flD a b h k)) ∧ H a = some (.lst xs) ∧ 0 < xs.length ∧
  Q .non (upd H p (.ins C dx (flD a b ((h + 1) % xs.length : Nat) k)))
theorem sc_Dial_go_on : FnScope ["self"] ["self"] (defScope (inClass (top 15) 8)) := ⟨rfl, rfl, rfl, by decide +kernel, rfl, by decide +kernel, by decide +kernel⟩
theorem ok_Dial_go_on (T : Prog K mg) : FnOk P w K mg base CX0 1 T.Dial.go_on.f T.Dial.go_on.fd ["self"] (spGoOn T.Dial.C) := by
  refine T.Dial.go_on.fn.ok sc_Dial_go_on (fun vs H Q E h => ?len) (fun cdv A outer s H vs Q E hr h => ?body)
  case len =>
    obtain ⟨p, a, b, dx, xs, h, k, rfl, _⟩ := h
    rfl
  case body =>
    have hu := hu_of hr
    obtain ⟨p, a, b, dx, xs, h, k, rfl, hp, ha, hx, q⟩ := h
    refine ⟨_, PSs.nox (pss_one (ps_fld (pv 0) (pe_op op_mod (pe_op op_add (pe_fld (pv 0) rfl) pe_int) (pe_callB call_len_seq (by rfl) T.len PySem.boot_len (pa_cons (pe_fld (pv 0) rfl) pa_nil))) rfl)), ?_⟩
    refine ⟨_, rfl, p, _, dx, _, _, rfl, hp, T.Dial.cl, T.Dial.n_hand, rfl, _, _, rfl, rfl, ?_⟩
    refine ⟨_, rfl, p, _, dx, _, _, rfl, hp, T.Dial.cl, T.Dial.n_held, rfl, a, xs, rfl, .inl (SqL.of ha), _, _, rfl, rfl, int0 (by omega), ?_⟩
    refine ⟨_, rfl, p, _, dx, _, rfl, hp, T.Dial.cl, T.Dial.n_hand, by show 4 < 1000; decide, ?_⟩
    have e : (((h : Nat) : Int) + 1) % ((xs.length : Nat) : Int) = (((h + 1) % xs.length : Nat) : Int) := by
      rw [Int.natCast_emod]
      rfl
    have e2 : putF "_hand" (V.int ((((h : Nat) : Int) + 1) % ((xs.length : Nat) : Int))) (flD a b h k) = flD a b ((h + 1) % xs.length : Nat) k := by
      rw [e]
      rfl
    exact e2 ▸ q
/-- a new dial of n rooms -/
def spDInit (C : Addr) : Sp := fun vs H Q _ => ∃ (p dx : Addr) (n : Int), vs = [.ref p, .int n] ∧ H p = some (.ins C dx []) ∧ 1 ≤ n ∧ n ≤ 8 ∧
  ∀ (a b : Addr) (H' : Hp), H a = none → H b = none → DialIs C H' p a b (DS.new n.toNat) → But [p] H H' → Q .non H'
theorem sc_Dial_init : FnScope ["self", "rooms"] ["self", "rooms"] (defScope (inClass (top 15) 0)) := ⟨rfl, rfl, rfl, by decide +kernel, rfl, by decide +kernel, by decide +kernel⟩
theorem ok_Dial_init (T : Prog K mg) : FnOk P w K mg base CX0 2 T.Dial.init.f T.Dial.init.fd ["self", "rooms"] (spDInit T.Dial.C) := by
  have G_check_rooms := ok_check_rooms (P := P) (w := w) (base := base) T
  refine T.Dial.init.fn.ok sc_Dial_init (fun vs H Q E h => ?len) (fun cdv A outer s H vs Q E hr h => ?body)
  case len =>
    obtain ⟨p, dx, n, rfl, _⟩ := h
    rfl
  case body =>
    have hr_check_rooms : Room 1 _ := hr.mono (by decide)
    have hu := hu_of hr
    obtain ⟨p, dx, n, rfl, hp, n1, n8, k⟩ := h
    refine ⟨_, PSs.nox (pss_cons (ps_expr (pe_call G_check_rooms hr_check_rooms (by rfl) T.check_rooms.g T.check_rooms.fn.kp T.check_rooms.bd .nil pass0 (pa_cons (pv 1) pa_nil)))
        (pss_cons (ps_fld (pv 0) (pe_op op_rep (pe_lst (pa_cons pe_non pa_nil)) (pv 1)) rfl)
        (pss_cons (ps_fld (pv 0) (pe_op op_rep (pe_lst (pa_cons pe_bl pa_nil)) (pv 1)) rfl)
        (pss_cons (ps_fld (pv 0) pe_int rfl)
        (pss_one (ps_fld (pv 0) pe_int rfl)))))), ?_⟩
    refine ⟨_, rfl, n, rfl, n1, n8, ?_⟩
    -- self._held = [None] * rooms
    refine ⟨szd rfl, fun e he => ?_⟩
    have pe : p ≠ e := ne_fresh hp he
    refine ⟨_, rfl, e, n, _, rfl, rfl, upd_same, by omega, by omega, sz (by show 1 * n.toNat ≤ 100000; omega), fun a ha => ?_⟩
    have s1 : Same H (upd H e (.lst [.non])) := Same.new he
    have haH := Same.back s1 ha
    have hp1 : upd H e (.lst [.non]) p = some (.ins T.Dial.C dx []) := s1 _ _ hp
    have pa : p ≠ a := ne_fresh hp1 ha
    have ea : e ≠ a := ne_fresh (H := upd H e (.lst [.non])) upd_same ha
    refine ⟨_, rfl, p, _, dx, _, rfl, by rw [upd_ne pa]; exact hp1, T.Dial.cl, T.Dial.n_held, by show 0 < 1000; decide, ?_⟩
    -- self._marks = [False] * rooms
    refine ⟨szd rfl, fun e2 he2 => ?_⟩
    have pe2 : p ≠ e2 := ne_fresh upd_same he2
    have ae2 : a ≠ e2 := ne_fresh (by rw [upd_ne (Ne.symm pa)]; exact upd_same) he2
    refine ⟨_, rfl, e2, n, _, rfl, rfl, upd_same, by omega, by omega, sz (by show 1 * n.toNat ≤ 100000; omega), fun b hb => ?_⟩
    have pb : p ≠ b := ne_fresh (by rw [upd_ne pe2]; exact upd_same) hb
    have ab : a ≠ b := ne_fresh (by rw [upd_ne ae2, upd_ne (Ne.symm pa)]; exact upd_same) hb
    refine ⟨_, rfl, p, _, dx, _, rfl, by rw [upd_ne pb, upd_ne pe2]; exact upd_same, T.Dial.cl, T.Dial.n_marks, by show 1 < 1000; decide, ?_⟩
    -- self._hand = 0; self._lacks = 0
    refine ⟨_, rfl, p, _, dx, _, rfl, upd_same, T.Dial.cl, T.Dial.n_hand, by show 2 < 1000; decide, ?_⟩
    refine ⟨_, rfl, p, _, dx, _, rfl, upd_same, T.Dial.cl, T.Dial.n_lacks, by show 3 < 1000; decide, ?_⟩
    rw [upd_upd, upd_upd]
    have bH : H b = none := by
      have q := hb
      by_cases z1 : b = e2
      · rw [z1] at q; rw [upd_same] at q; cases q
      rw [upd_ne z1, upd_ne (Ne.symm pb), upd_ne (Ne.symm ab)] at q
      exact Same.back s1 q
    refine k a b _ haH bH ⟨ab, ⟨dx, ?_⟩, ?_, ?_⟩ ?_
    · rw [upd_same]; rfl
    · rw [upd_ne (Ne.symm pa), upd_ne ab, upd_ne ae2, upd_ne (Ne.symm pa), upd_same, rep_one, hl_new]
    · rw [upd_ne (Ne.symm pb), upd_same, rep_one, bl_new]
    · intro c o hc hn
      have c1 : c ≠ p := by simpa using hn
      have c2 : c ≠ e := ne_fresh hc he
      have c3 : c ≠ a := ne_fresh hc haH
      have c4 : c ≠ b := ne_fresh hc bH
      have c5 : c ≠ e2 := by
        intro z
        rw [z] at hc c1 c3
        rw [upd_ne c1, upd_ne c3] at he2
        have := s1 _ _ hc
        rw [he2] at this
        cases this
      rw [upd_ne c1, upd_ne c4, upd_ne c5, upd_ne c1, upd_ne c3, upd_ne c2]
      exact hc
/-- the hand past the marked rooms -/
def spPass (C : Addr) : Sp := fun vs H Q _ => ∃ (p a b : Addr) (s : DS) (n : Nat), vs = [.ref p] ∧ DialIs C H p a b s ∧ s.WF n ∧ n ≤ 8 ∧
  ∀ (l : Addr) (H' : Hp), H l = none → H' l = some (.lst (NL s.pass.2.2)) → DialIs C H' p a b { s with marks := s.pass.1, hand := s.pass.2.1 } → But [p, b] H H' → Q (.ref l) H'
theorem sc_Dial_pass_marked : FnScope ["self", "passed"] ["self"] (defScope (inClass (top 15) 6)) := ⟨rfl, rfl, rfl, by decide +kernel, rfl, by decide +kernel, by decide +kernel⟩
theorem ok_Dial_pass_marked (T : Prog K mg) : FnOk P w K mg base CX0 2 T.Dial.pass_marked.f T.Dial.pass_marked.fd ["self"] (spPass T.Dial.C) := by
  have G_go_on := ok_Dial_go_on (P := P) (w := w) (base := base) T
  refine T.Dial.pass_marked.fn.ok sc_Dial_pass_marked (fun vs H Q E h => ?len) (fun cdv A outer s H vs Q E hr h => ?body)
  case len =>
    obtain ⟨p, a, b, s, n, rfl, _⟩ := h
    rfl
  case body =>
    have hr_go_on : Room 1 _ := hr.mono (by decide)
    have hu := hu_of hr
    obtain ⟨p, a, b, s, n, rfl, D, W, n8, k⟩ := h
    refine ⟨_, PSs.nox (pss_cons (ps_set (i := 1) sc_Dial_pass_marked.nd rfl (Or.inl rfl) (pe_lst pa_nil))
        (pss_cons (ps_while PassesOwn.never (pt_val (pe_ix ix_list (pe_fld (pv 0) rfl) (pe_fld (pv 0) rfl) (fun _ _ => rfl)))
        (pss_cons (ps_asg pe_bl (pg_sub (pe_fld (pv 0) rfl) (pe_fld (pv 0) rfl) set_list))
        (pss_cons (ps_expr (pe_bm PySem.F.plainAttrs_list PySem.F.slot_list_append PySem.F.type_list_append mt_append (pv 1) (pa_cons (pe_fld (pv 0) rfl) pa_nil)))
        (pss_one (ps_expr (pe_meth0 (pv 0) T.Dial.cl T.Dial.go_on.me G_go_on hr_go_on T.Dial.go_on.bd .nil pass0))))))
        (pss_one (ps_ret (pv 1))))), ?_⟩
    refine ⟨szd rfl, fun l hl => ?_⟩
    have s0 : Same H (upd H l (.lst [])) := Same.new hl
    let St : Nat → L2.St → Hp → Prop := fun c σ H' => ∃ (m : List Bool) (h : Nat) (acc : List Nat), σ = [some (.ref p), some (.ref l)] ∧ PassInv s.pass m h acc ∧ m.length = n ∧ h < n ∧ c = m.count true ∧ acc.length + c = s.marks.count true ∧
      DialIs T.Dial.C H' p a b { s with marks := m, hand := h } ∧ H' l = some (.lst (NL acc)) ∧ But [p, b] H H'
    refine ⟨St, ⟨_, s.marks, s.hand, [], rfl, PassInv.start _ _, W.m, W.n, rfl, by simp, D.same s0, upd_same, But.of s0⟩, ?_⟩
    rintro c σ H1 ⟨m, h, acc, rfl, I, hm, hh, rfl, hc, D1, hl1, k1⟩
    obtain ⟨dx, hp1⟩ := D1.ob
    have hcm : s.marks.count true ≤ 8 := Nat.le_trans List.count_le_length (by rw [W.m]; exact n8)
    have hat : m[h]? = some (m[h]'(by omega)) := List.getElem?_eq_getElem _
    refine ⟨_, rfl, p, _, dx, _, _, rfl, hp1, T.Dial.cl, T.Dial.n_marks, rfl, _, rfl, p, _, dx, _, _, rfl, hp1, T.Dial.cl, T.Dial.n_hand, rfl, b, _, _, _, rfl, rfl, SqL.of D1.ma, atI_nat (bl_at hat), _, rfl, ?_⟩
    have pb := D1.pb
    have pa := D1.pa
    have lp : l ≠ p := by intro z; rw [z] at hl1; rw [hp1] at hl1; cases hl1
    have lb : l ≠ b := by
      obtain ⟨dx0, hp0⟩ := D.ob
      intro z
      rw [z] at hl
      rw [D.ma] at hl
      cases hl
    have la : l ≠ a := by
      intro z
      rw [z] at hl
      rw [D.he] at hl
      cases hl
    by_cases ht : m[h]'(by omega) = true
    · rw [ht] at hat ⊢
      refine iteT ⟨fun σ' H' => ∃ c', c' < m.count true ∧ St c' σ' H', fun σ' H' q => q, ?_⟩
      -- self._marks[self._hand] = False
      refine ⟨_, rfl, p, _, dx, _, _, rfl, hp1, T.Dial.cl, T.Dial.n_marks, rfl, _, rfl, p, _, dx, _, _, rfl, hp1, T.Dial.cl, T.Dial.n_hand, rfl, b, _, _, _, rfl, rfl, D1.ma, ixn rfl (by simp; omega), ?_⟩
      rw [bl_set]
      -- passed.append(self._hand)
      have hp2 : upd H1 b (.lst (BL (m.set h false))) p = some (.ins T.Dial.C dx (flD a b h s.lacks)) := by rw [upd_ne pb]; exact hp1
      have hl2 : upd H1 b (.lst (BL (m.set h false))) l = some (.lst (NL acc)) := by rw [upd_ne lb]; exact hl1
      refine ⟨_, rfl, .inl ⟨rfl, _, SqL.of hl2⟩, _, rfl, p, _, dx, _, _, rfl, hp2, T.Dial.cl, T.Dial.n_hand, rfl, l, _, _, rfl, rfl, hl2, szl (by simp; omega), ?_⟩
      -- self._go_on()
      have hp3 : upd (upd H1 b (.lst (BL (m.set h false)))) l (.lst (NL acc ++ [V.int h])) p = some (.ins T.Dial.C dx (flD a b h s.lacks)) := by rw [upd_ne (Ne.symm lp)]; exact hp2
      have ha3 : upd (upd H1 b (.lst (BL (m.set h false)))) l (.lst (NL acc ++ [V.int h])) a = some (.lst (HL s.held)) := by rw [upd_ne (Ne.symm la), upd_ne D1.ne]; exact D1.he
      refine ⟨_, rfl, p, dx, _, rfl, hp3, rfl, p, a, b, dx, _, h, s.lacks, rfl, hp3, ha3, by simp [W.h]; omega, ?_⟩
      have cs := count_set hat
      have hn0 : 0 < n := by omega
      refine ⟨_, by omega, m.set h false, (h + 1) % m.length, acc ++ [h], rfl, I.go hat, by rw [List.length_set]; exact hm, by rw [hm]; exact Nat.mod_lt _ hn0, rfl, by rw [List.length_append]; simp; omega, ⟨D1.ne, ⟨dx, ?_⟩, ?_, ?_⟩, ?_, ?_⟩
      · rw [upd_same]
        have e : (HL s.held).length = m.length := by simp [W.h, hm]
        rw [e]
      · rw [upd_ne (Ne.symm pa)]; exact ha3
      · rw [upd_ne (Ne.symm pb), upd_ne (Ne.symm lb), upd_same]
      · rw [upd_ne lp, upd_same]
        show _ = some (HO.lst ((acc ++ [h]).map fun n : Nat => V.int (n : Int)))
        rw [List.map_append]
        rfl
      · intro c o hc hn
        have hn' : c ≠ p ∧ c ≠ b := by simpa using hn
        rw [upd_ne hn'.1, upd_ne (ne_fresh hc hl), upd_ne hn'.2]
        exact k1 c o hc hn
    · have hf : m[h]'(by omega) = false := by simpa using ht
      rw [hf] at hat ⊢
      have e := I.end hat
      refine iteF ⟨_, rfl, k l H1 hl (by rw [e]; exact hl1) ?_ k1⟩
      rw [e]
      exact D1
/-- the asked page to the room of the hand; the one that was there -/
def spExch (C : Addr) : Sp := fun vs H Q _ => ∃ (p a b : Addr) (s : DS) (n : Nat) (pg : Int), vs = [.ref p, .int pg] ∧ DialIs C H p a b s ∧ s.WF n ∧
  ∀ H' : Hp, DialIs C H' p a b ⟨s.held.set s.hand (some pg), s.marks.set s.hand true, (s.hand + 1) % s.held.length, s.lacks⟩ → But [p, a, b] H H' → Q (pgV ((s.held[s.hand]?).getD none)) H'
theorem sc_Dial_exchange : FnScope ["self", "page", "gone"] ["self", "page"] (defScope (inClass (top 15) 7)) := ⟨rfl, rfl, rfl, by decide +kernel, rfl, by decide +kernel, by decide +kernel⟩
theorem ok_Dial_exchange (T : Prog K mg) : FnOk P w K mg base CX0 2 T.Dial.exchange.f T.Dial.exchange.fd ["self", "page"] (spExch T.Dial.C) := by
  have G_go_on := ok_Dial_go_on (P := P) (w := w) (base := base) T
  refine T.Dial.exchange.fn.ok sc_Dial_exchange (fun vs H Q E h => ?len) (fun cdv A outer s H vs Q E hr h => ?body)
  case len =>
    obtain ⟨p, a, b, s, n, pg, rfl, _⟩ := h
    rfl
  case body =>
    have hr_go_on : Room 1 _ := hr.mono (by decide)
    have hu := hu_of hr
    obtain ⟨p, a, b, s, n, pg, rfl, D, W, k⟩ := h
    refine ⟨_, PSs.nox (pss_cons (ps_set (i := 2) sc_Dial_exchange.nd rfl (Or.inl rfl) (pe_ix ix_list (pe_fld (pv 0) rfl) (pe_fld (pv 0) rfl) (fun _ _ => rfl)))
        (pss_cons (ps_asg (pv 1) (pg_sub (pe_fld (pv 0) rfl) (pe_fld (pv 0) rfl) set_list))
        (pss_cons (ps_asg pe_bl (pg_sub (pe_fld (pv 0) rfl) (pe_fld (pv 0) rfl) set_list))
        (pss_cons (ps_expr (pe_meth0 (pv 0) T.Dial.cl T.Dial.go_on.me G_go_on hr_go_on T.Dial.go_on.bd .nil pass0))
        (pss_one (ps_ret (pv 2))))))), ?_⟩
    obtain ⟨dx, hp⟩ := D.ob
    have pb := D.pb
    have pa := D.pa
    have hlt : s.hand < s.held.length := by rw [W.h]; exact W.n
    have hat : s.held[s.hand]? = some (s.held[s.hand]'hlt) := List.getElem?_eq_getElem _
    rw [hat] at k
    -- gone = self._held[self._hand]
    refine ⟨_, rfl, p, _, dx, _, _, rfl, hp, T.Dial.cl, T.Dial.n_held, rfl, _, rfl, p, _, dx, _, _, rfl, hp, T.Dial.cl, T.Dial.n_hand, rfl, a, _, _, _, rfl, rfl, SqL.of D.he, atI_nat (hl_at hat), ?_⟩
    -- self._held[self._hand] = page
    refine ⟨_, rfl, _, rfl, p, _, dx, _, _, rfl, hp, T.Dial.cl, T.Dial.n_held, rfl, _, rfl, p, _, dx, _, _, rfl, hp, T.Dial.cl, T.Dial.n_hand, rfl, a, _, _, _, rfl, rfl, D.he, ixn rfl (by simp; exact hlt), ?_⟩
    rw [hl_set]
    have hp1 : upd H a (.lst (HL (s.held.set s.hand (some pg)))) p = some (.ins T.Dial.C dx (flD a b s.hand s.lacks)) := by rw [upd_ne pa]; exact hp
    have hb1 : upd H a (.lst (HL (s.held.set s.hand (some pg)))) b = some (.lst (BL s.marks)) := by rw [upd_ne (Ne.symm D.ne)]; exact D.ma
    -- self._marks[self._hand] = True
    refine ⟨_, rfl, p, _, dx, _, _, rfl, hp1, T.Dial.cl, T.Dial.n_marks, rfl, _, rfl, p, _, dx, _, _, rfl, hp1, T.Dial.cl, T.Dial.n_hand, rfl, b, _, _, _, rfl, rfl, hb1, ixn rfl (by simp [W.m]; exact W.n), ?_⟩
    rw [bl_set]
    have hp2 : ∀ o, upd (upd H a (.lst (HL (s.held.set s.hand (some pg))))) b o p = some (.ins T.Dial.C dx (flD a b s.hand s.lacks)) := fun o => by rw [upd_ne pb]; exact hp1
    have ha2 : ∀ o, upd (upd H a (.lst (HL (s.held.set s.hand (some pg))))) b o a = some (.lst (HL (s.held.set s.hand (some pg)))) := fun o => by rw [upd_ne D.ne, upd_same]
    refine ⟨_, rfl, p, dx, _, rfl, hp2 _, rfl, p, a, b, dx, _, s.hand, s.lacks, rfl, hp2 _, ha2 _, by simp [W.h]; exact W.pos, ?_⟩
    refine ⟨_, rfl, k _ ⟨D.ne, ⟨dx, ?_⟩, ?_, ?_⟩ ?_⟩
    · rw [upd_same]
      have e : (HL (s.held.set s.hand (some pg))).length = s.held.length := by simp
      rw [e]
    · rw [upd_ne (Ne.symm pa)]; exact ha2 _
    · rw [upd_ne (Ne.symm pb), upd_same]
    · exact ((But.put (by simp)).trans (But.put (by simp))).trans (But.put (by simp))
/-- an ask -/
def spAsk (C : Addr) : Sp := fun vs H Q _ => ∃ (p a b : Addr) (s : DS) (n : Nat) (pg : Int), vs = [.ref p, .int pg] ∧ DialIs C H p a b s ∧ s.WF n ∧ n ≤ 8 ∧ 0 ≤ pg ∧ pg < 12 ∧
  ∀ (t l : Addr) (H' : Hp), H t = none → H l = none → t ≠ l → H' t = some (.tup [.bl (s.tells pg).1, pgV (s.tells pg).2.1, .ref l]) → H' l = some (.lst (NL (s.tells pg).2.2)) → DialIs C H' p a b (s.ask pg) → But [p, a, b] H H' → Q (.ref t) H'
theorem sc_Dial_ask : FnScope ["self", "page", "passed", "gone"] ["self", "page"] (defScope (inClass (top 15) 1)) := ⟨rfl, rfl, rfl, by decide +kernel, rfl, by decide +kernel, by decide +kernel⟩
theorem ok_Dial_ask (T : Prog K mg) : FnOk P w K mg base CX0 3 T.Dial.ask.f T.Dial.ask.fd ["self", "page"] (spAsk T.Dial.C) := by
  have G_check_page := ok_check_page (P := P) (w := w) (base := base) T
  have G_pass_marked := ok_Dial_pass_marked (P := P) (w := w) (base := base) T
  have G_exchange := ok_Dial_exchange (P := P) (w := w) (base := base) T
  refine T.Dial.ask.fn.ok sc_Dial_ask (fun vs H Q E h => ?len) (fun cdv A outer s H vs Q E hr h => ?body)
  case len =>
    obtain ⟨p, a, b, s, n, pg, rfl, _⟩ := h
    rfl
  case body =>
    have hr_check_page : Room 2 _ := hr.mono (by decide)
    have hr_pass_marked : Room 2 _ := hr.mono (by decide)
    have hr_exchange : Room 2 _ := hr.mono (by decide)
    have hu := hu_of hr
    obtain ⟨p, a, b, s, n, pg, rfl, D, W, n8, g0, g1, k⟩ := h
    refine ⟨_, PSs.nox (pss_cons (ps_expr (pe_call G_check_page hr_check_page (by rfl) T.check_page.g T.check_page.fn.kp T.check_page.bd .nil pass0 (pa_cons (pv 1) pa_nil)))
        (pss_cons (ps_if (pt_cmpR op_in_seq (pv 1) (pe_fld (pv 0) rfl) (by rfl))
        (pss_cons (ps_asg pe_bl (pg_sub (pe_fld (pv 0) rfl) (pe_bm PySem.F.plainAttrs_list PySem.F.slot_list_index PySem.F.type_list_index mt_index (pe_fld (pv 0) rfl) (pa_cons (pv 1) pa_nil)) set_list))
        (pss_one (ps_ret (pe_tup (pa_cons pe_bl (pa_cons pe_non (pa_cons (pe_lst pa_nil) pa_nil)))))))
        pss_nil)
        (pss_cons (ps_fldaug (pv 0) pe_int in_add)
        (pss_cons (ps_set (i := 2) sc_Dial_ask.nd rfl (Or.inl rfl) (pe_meth0 (pv 0) T.Dial.cl T.Dial.pass_marked.me G_pass_marked hr_pass_marked T.Dial.pass_marked.bd .nil pass0))
        (pss_cons (ps_set (i := 3) sc_Dial_ask.nd rfl (Or.inl rfl) (pe_meth (pv 0) T.Dial.cl T.Dial.exchange.me G_exchange hr_exchange T.Dial.exchange.bd .nil pass0 (pa_cons (pv 1) pa_nil)))
        (pss_one (ps_ret (pe_tup (pa_cons pe_bl (pa_cons (pv 3) (pa_cons (pv 2) pa_nil))))))))))), ?_⟩
    obtain ⟨dx, hp⟩ := D.ob
    have pb := D.pb
    have pa := D.pa
    refine ⟨_, rfl, pg, rfl, g0, g1, ?_⟩
    -- if page in self._held
    refine ⟨_, rfl, _, rfl, p, _, dx, _, _, rfl, hp, T.Dial.cl, T.Dial.n_held, rfl, a, _, rfl, .inl (SqL.of D.he), rfl, flat_hl _, _, rfl, ?_⟩
    have e0 : (if false = true then !inV (V.int pg) (HL s.held) else inV (V.int pg) (HL s.held)) = decide (some pg ∈ s.held) := by
      rw [if_neg (by simp), inV_hl]
    by_cases hin : some pg ∈ s.held
    · refine ifT (by rw [e0]; exact decide_eq_true hin) ?_
      have eT : s.tells pg = (false, none, []) := by unfold DS.tells; rw [if_pos hin]
      have eA : s.ask pg = s.hit pg := by unfold DS.ask; rw [if_pos hin]
      rw [eT, eA] at k
      have hj : s.held.idxOf (some pg) < n := by rw [← W.h]; exact List.idxOf_lt_length_of_mem hin
      -- self._marks[self._held.index(page)] = True
      refine ⟨_, rfl, p, _, dx, _, _, rfl, hp, T.Dial.cl, T.Dial.n_marks, rfl, _, rfl, p, _, dx, _, _, rfl, hp, T.Dial.cl, T.Dial.n_held, rfl, .inl ⟨rfl, _, SqL.of D.he⟩, _, rfl, a, _, _, s.held.idxOf (some pg), _, rfl, rfl, SqL.of D.he, rfl, flat_hl _, hl_at (idx_at hin), ?_, ?_, ?_⟩
      · rw [eqV_pg]; exact decide_eq_true rfl
      · intro m z' hm hz
        rw [List.getElem?_map] at hz
        cases q : s.held[m]? with
        | none => rw [q] at hz; cases hz
        | some y =>
          rw [q] at hz
          have ez : pgV y = z' := Option.some.inj hz
          rw [← ez, eqV_pg]
          exact decide_eq_false (idx_no hm q)
      refine ⟨b, _, _, _, rfl, rfl, D.ma, ixn rfl (by simp [W.m]; exact hj), ?_⟩
      rw [bl_set]
      -- return False, None, []
      refine ⟨szd rfl, fun l hl => ⟨szd rfl, fun t ht => ?_⟩⟩
      have s1 : But [p, a, b] H (upd H b (.lst (BL (s.marks.set (s.held.idxOf (some pg)) true)))) := But.put (by simp)
      have lb : l ≠ b := by intro z; rw [z, upd_same] at hl; cases hl
      have tb : t ≠ b := by intro z; rw [z, upd_ne (Ne.symm lb), upd_same] at ht; cases ht
      have tl : t ≠ l := by intro z; rw [z, upd_same] at ht; cases ht
      have hl' : H l = none := by rw [upd_ne lb] at hl; exact hl
      have ht' : H t = none := by rw [upd_ne tl, upd_ne tb] at ht; exact ht
      have hit : DialIs T.Dial.C (upd H b (.lst (BL (s.marks.set (s.held.idxOf (some pg)) true)))) p a b (s.hit pg) :=
        ⟨D.ne, ⟨dx, by rw [upd_ne pb]; exact hp⟩, by rw [upd_ne D.ne]; exact D.he, upd_same⟩
      exact k t l _ ht' hl' tl upd_same (by rw [upd_ne (Ne.symm tl)]; exact upd_same) ((hit.same (Same.new hl)).same (Same.new ht)) ((s1.trans (But.new hl)).trans (But.new ht))
    · refine ifF (by rw [e0]; exact decide_eq_false hin) ?_
      have eT : s.tells pg = (true, (s.held[s.pass.2.1]?).getD none, s.pass.2.2) := by unfold DS.tells; rw [if_neg hin]
      have eA : s.ask pg = s.lack pg := by unfold DS.ask; rw [if_neg hin]
      rw [eT, eA] at k
      -- self._lacks += 1
      refine ⟨_, rfl, p, _, dx, _, _, rfl, hp, T.Dial.cl, T.Dial.n_lacks, rfl, _, _, rfl, rfl, dx, _, hp, by show 4 < 1000; decide, ?_⟩
      have D1 : DialIs T.Dial.C (upd H p (.ins T.Dial.C dx (putF "_lacks" (V.int ((s.lacks : Int) + 1)) (flD a b s.hand s.lacks)))) p a b { s with lacks := s.lacks + 1 } :=
        ⟨D.ne, ⟨dx, by rw [upd_same]; rfl⟩, by rw [upd_ne (Ne.symm pa)]; exact D.he, by rw [upd_ne (Ne.symm pb)]; exact D.ma⟩
      have k1 : But [p, a, b] H (upd H p (.ins T.Dial.C dx (putF "_lacks" (V.int ((s.lacks : Int) + 1)) (flD a b s.hand s.lacks)))) := But.put (by simp)
      have W1 : DS.WF { s with lacks := s.lacks + 1 } n := ⟨W.h, W.m, W.n⟩
      -- passed = self._pass_marked()
      obtain ⟨dx1, hp1⟩ := D1.ob
      refine ⟨_, rfl, p, dx1, _, rfl, hp1, rfl, p, a, b, _, n, rfl, D1, W1, n8, fun l H2 hl hl2 D2 k2 => ?_⟩
      have hlH : H l = none := k1.back hl (by
        obtain ⟨_, q⟩ := D1.ob
        have z1 := ne_fresh q hl
        have z2 := ne_fresh D1.he hl
        have z3 := ne_fresh D1.ma hl
        simp [Ne.symm z1, Ne.symm z2, Ne.symm z3])
      -- gone = self._exchange(page)
      obtain ⟨dx2, hp2⟩ := D2.ob
      have W2 : DS.WF { s with lacks := s.lacks + 1, marks := s.pass.1, hand := s.pass.2.1 } n := ⟨W.h, W.passm, W.passlt⟩
      refine ⟨_, rfl, p, dx2, _, rfl, hp2, rfl, _, rfl, p, a, b, _, n, pg, rfl, D2, W2, fun H3 D3 k3 => ?_⟩
      have lS : l ∉ [p, a, b] := by
        have z1 := ne_fresh hp hlH
        have z2 := ne_fresh D.he hlH
        have z3 := ne_fresh D.ma hlH
        simp [Ne.symm z1, Ne.symm z2, Ne.symm z3]
      have hl3 : H3 l = some (.lst (NL s.pass.2.2)) := k3 l _ hl2 lS
      have k03 : But [p, a, b] H H3 := (k1.trans (k2.mono (by simp))).trans k3
      -- return True, gone, passed
      refine ⟨_, rfl, _, rfl, szd rfl, fun t ht => ?_⟩
      have tl : t ≠ l := Ne.symm (ne_fresh hl3 ht)
      have htH : H t = none := k03.back ht (by
        obtain ⟨_, q⟩ := D3.ob
        have z1 := ne_fresh q ht
        have z2 := ne_fresh D3.he ht
        have z3 := ne_fresh D3.ma ht
        simp [Ne.symm z1, Ne.symm z2, Ne.symm z3])
      exact k t l _ htH hlH tl upd_same (by rw [upd_ne (Ne.symm tl)]; exact hl3) (D3.same (Same.new ht)) (k03.trans (But.new ht))
/-- what an ask told stands at t -/
def TellAt (H : Hp) (t : Addr) (x : Bool × Option Int × List Nat) : Prop := ∃ l : Addr, t ≠ l ∧ H t = some (.tup [.bl x.1, pgV x.2.1, .ref l]) ∧ H l = some (.lst (NL x.2.2))
/-- the tuples at as are what was told, xs: new since H, none of them at a place of S -/
structure TellsAt (S : List Addr) (H H' : Hp) (as : List Addr) (xs : List (Bool × Option Int × List Nat)) : Prop where
  len : as.length = xs.length
  at_ : ∀ (i : Nat) (a : Addr) (x : Bool × Option Int × List Nat), as[i]? = some a → xs[i]? = some x → H a = none ∧ a ∉ S ∧ ∃ l : Addr, H l = none ∧ l ∉ S ∧ a ≠ l ∧ H' a = some (.tup [.bl x.1, pgV x.2.1, .ref l]) ∧ H' l = some (.lst (NL x.2.2))
theorem TellsAt.but {S S' : List Addr} {H H' H'' : Hp} {as : List Addr} {xs : List (Bool × Option Int × List Nat)} (t : TellsAt S H H' as xs) (k : But S' H' H'') (hS : ∀ a ∈ S', a ∈ S) : TellsAt S H H'' as xs := by
  refine ⟨t.len, fun i a x ha hx => ?_⟩
  obtain ⟨h1, n1, l, h2, n2, h3, h4, h5⟩ := t.at_ i a x ha hx
  exact ⟨h1, n1, l, h2, n2, h3, k _ _ h4 fun z => n1 (hS _ z), k _ _ h5 fun z => n2 (hS _ z)⟩
theorem TellsAt.snoc {S : List Addr} {H H' : Hp} {as : List Addr} {xs : List (Bool × Option Int × List Nat)} {t l : Addr} {x : Bool × Option Int × List Nat} (T : TellsAt S H H' as xs) (h1 : H t = none) (n1 : t ∉ S) (h2 : H l = none) (n2 : l ∉ S) (h3 : t ≠ l)
    (h4 : H' t = some (.tup [.bl x.1, pgV x.2.1, .ref l])) (h5 : H' l = some (.lst (NL x.2.2))) : TellsAt S H H' (as ++ [t]) (xs ++ [x]) := by
  refine ⟨by simp [T.len], fun j c y hc hy => ?_⟩
  by_cases hj : j < as.length
  · rw [List.getElem?_append_left hj] at hc
    rw [List.getElem?_append_left (by rw [← T.len]; exact hj)] at hy
    exact T.at_ j c y hc hy
  · have ej : j = as.length := by
      have := (List.getElem?_eq_some_iff.mp hc).1
      simp at this
      omega
    subst ej
    rw [List.getElem?_append_right (Nat.le_refl _), Nat.sub_self] at hc
    rw [List.getElem?_append_right (by rw [T.len]; exact Nat.le_refl _), T.len, Nat.sub_self] at hy
    have ec : t = c := Option.some.inj hc
    have ex := Option.some.inj hy
    subst ec
    rw [← ex]
    exact ⟨h1, n1, l, h2, n2, h3, h4, h5⟩
end
end CK

/-! The rules. -/
namespace CK
open PySem PySem.Spec PyProof.Rows L2
/-- a new list of the places of the lacks -/
def spBy (K : PySem.W.Frag) (rule : Rl) : Sp := fun vs H Q _ => ∃ (n : Int) (r : Addr) (row : List Int), vs = [.int n, .ref r] ∧ 1 ≤ n ∧ n ≤ 8 ∧ SqL K H r (il row) ∧ RowOk row ∧
  ∀ (d : Addr) (H' : Hp), H d = none → Same H H' → H' d = some (.lst (NL (lacksR n.toNat rule row))) → Q (.ref d) H'
def spByLine (K : PySem.W.Frag) : Sp := fun vs H Q _ => ∃ (n : Int) (r : Addr) (row : List Int) (re : Bool), vs = [.int n, .ref r, .bl re] ∧ 1 ≤ n ∧ n ≤ 8 ∧ SqL K H r (il row) ∧ RowOk row ∧
  ∀ (d : Addr) (H' : Hp), H d = none → Same H H' → H' d = some (.lst (NL (placesT 0 (lineL n.toNat re [] row)))) → Q (.ref d) H'
def spCheckRule : Sp := fun vs H Q _ => ∃ rule : Rl, vs = [.str rule.s] ∧ Q .non H
def spLacking (K : PySem.W.Frag) : Sp := fun vs H Q _ => ∃ (n : Int) (r : Addr) (row : List Int) (rule : Rl), vs = [.int n, .ref r, .str rule.s] ∧ 1 ≤ n ∧ n ≤ 8 ∧ SqL K H r (il row) ∧ RowOk row ∧
  ∀ (d : Addr) (H' : Hp), H d = none → Same H H' → H' d = some (.lst (NL (lacksR n.toNat rule row))) → Q (.ref d) H'
theorem il_erase {ns : List Int} {j : Nat} : (il ns).eraseIdx j = il (ns.eraseIdx j) := by
  show (ns.map V.int).eraseIdx j = (ns.eraseIdx j).map V.int
  induction ns generalizing j with
  | nil => rfl
  | cons a r ih =>
    cases j with
    | zero => rfl
    | succ j => exact congrArg (V.int a :: ·) ih
section
variable {P : Program} {w : World} {K : PySem.W.Frag} {mg : Str → Option Value} {base : Heap}
theorem sc_by_line : FnScope ["rooms", "row", "renewed", "line", "lacks", "place", "page"] ["rooms", "row", "renewed"] (defScope (top 20)) := ⟨rfl, rfl, rfl, by decide +kernel, rfl, by decide +kernel, by decide +kernel⟩
theorem ok_by_line (T : Prog K mg) : FnOk P w K mg base CX0 1 T.by_line.f T.by_line.fd ["rooms", "row", "renewed"] (spByLine K) := by
  refine T.by_line.fn.ok sc_by_line (fun vs H Q E h => ?len) (fun cdv A outer s H vs Q E hr h => ?body)
  case len =>
    obtain ⟨n, r, row, re, rfl, _⟩ := h
    rfl
  case body =>
    have hu := hu_of hr
    obtain ⟨n, r, row, re, rfl, n1, n8, hS, hR, k⟩ := h
    refine ⟨_, PSs.nox (pss_cons (ps_set (i := 3) sc_by_line.nd rfl (Or.inl rfl) (pe_lst pa_nil))
        (pss_cons (ps_set (i := 4) sc_by_line.nd rfl (Or.inl rfl) (pe_lst pa_nil))
        (pss_cons (ps_for PassesOwn.never rfl (pi_enum (by rfl) T.enumerate (pa_cons (pv 1) pa_nil)) (pg_tup rfl (pgs_cons (pg_name (i := 5) sc_by_line.nd rfl (Or.inl rfl)) (pgs_cons (pg_name (i := 6) sc_by_line.nd rfl (Or.inl rfl)) pgs_nil)))
        (pss_one (ps_if (pt_cmpR op_notIn_seq (pv 6) (pv 3) (by rfl))
        (pss_cons (ps_expr (pe_bm PySem.F.plainAttrs_list PySem.F.slot_list_append PySem.F.type_list_append mt_append (pv 4) (pa_cons (pv 5) pa_nil)))
        (pss_cons (ps_if (pt_cmpR op_eq (pe_callB call_len_seq (by rfl) T.len PySem.boot_len (pa_cons (pv 3) pa_nil)) (pv 0) (nomark _))
        (pss_one (ps_expr (pe_bm PySem.F.plainAttrs_list PySem.F.slot_list_pop PySem.F.type_list_pop mt_popAt (pv 3) (pa_cons pe_int pa_nil))))
        pss_nil)
        (pss_one (ps_expr (pe_bm PySem.F.plainAttrs_list PySem.F.slot_list_append PySem.F.type_list_append mt_append (pv 3) (pa_cons (pv 6) pa_nil))))))
        (pss_one (ps_if (pt_val (pv 2))
        (pss_cons (ps_expr (pe_bm PySem.F.plainAttrs_list PySem.F.slot_list_remove PySem.F.type_list_remove mt_remove (pv 3) (pa_cons (pv 6) pa_nil)))
        (pss_one (ps_expr (pe_bm PySem.F.plainAttrs_list PySem.F.slot_list_append PySem.F.type_list_append mt_append (pv 3) (pa_cons (pv 6) pa_nil)))))
        pss_nil)))))
        (pss_one (ps_ret (pv 4)))))), ?_⟩
    -- line = []; lacks = []
    refine ⟨szd rfl, fun l hl => ⟨szd rfl, fun c hc => ?_⟩⟩
    have s1 : Same H (upd (upd H l (.lst [])) c (.lst [])) := (Same.new hl).trans (Same.new hc)
    have lc : l ≠ c := ne_fresh (H := upd H l (.lst [])) upd_same hc
    have cH : H c = none := Same.back (Same.new hl) hc
    have hn0 : 0 < n.toNat := by omega
    refine ⟨_, rfl, r, _, rfl, s1.seq hS, for_it (walk_enum (K := K) (a := r) (xs := il row)) (fun i σ H' => (∃ v1 v2, σ = [some (.int n), some (.ref r), some (.bl re), some (.ref l), some (.ref c), v1, v2]) ∧ Same H H' ∧ H' l = some (.lst (il (lineAt n.toNat re (row.take i)))) ∧
      H' c = some (.lst (NL (placesT 0 (lineL n.toNat re [] (row.take i))))))
      ⟨⟨_, _, rfl⟩, s1, by rw [upd_ne lc]; exact upd_same, upd_same⟩ (fun i σ H' _ h => h.2.1.seq hS) ?_ ?_⟩
    · rintro i x σ H1 H2 hi ⟨⟨v1, v2, rfl⟩, s2, hl1, hc1⟩ ⟨t, x1, x2, rfl, ht, rfl, ha, hb⟩
      have ea : V.int (i : Nat) = x1 := Option.some.inj ha
      subst ea
      obtain ⟨p, hp, rfl⟩ := il_get hb
      rw [il_len] at hi
      have hR1 := hR.1
      have lt : l ≠ t := ne_fresh hl1 ht
      have ct : c ≠ t := ne_fresh hc1 ht
      have hlO := lineAt_ok (re := re) hn0 (row.take i)
      have hpl := placesT_le 0 (lineL n.toNat re [] (row.take i))
      rw [lineL_len, List.length_take] at hpl
      have s3 : Same H (upd H1 t (.tup [V.int (i : Nat), V.int p])) := s2.trans (Same.new ht)
      have hl2 : upd H1 t (.tup [V.int (i : Nat), V.int p]) l = some (.lst (il (lineAt n.toNat re (row.take i)))) := by rw [upd_ne lt]; exact hl1
      have hc2 : upd H1 t (.tup [V.int (i : Nat), V.int p]) c = some (.lst (NL (placesT 0 (lineL n.toNat re [] (row.take i))))) := by rw [upd_ne ct]; exact hc1
      have eB : placesT 0 (lineL n.toNat re [] (row.take (i + 1))) = placesT 0 (lineL n.toNat re [] (row.take i)) ++ (if (!decide (p ∈ lineAt n.toNat re (row.take i))) = true then [i] else []) := by
        rw [take_snoc hp, lineL_snoc, placesT_snoc, lineL_len, List.length_take, Nat.min_eq_left (by omega), Nat.zero_add]
        rfl
      have eL : lineAt n.toNat re (row.take (i + 1)) = lineStep n.toNat re (lineAt n.toNat re (row.take i)) p := by
        rw [take_snoc hp, lineAt_snoc]
      rw [eB, eL]
      generalize hLL : lineAt n.toNat re (row.take i) = L at *
      generalize hPP : placesT 0 (lineL n.toNat re [] (row.take i)) = PL at *
      refine ⟨t, _, rfl, SqT.of upd_same, rfl, _, _, rfl, _, _, rfl, rfl, ?_⟩
      -- if page not in line
      refine ⟨_, rfl, _, rfl, l, _, rfl, .inl (SqL.of hl2), rfl, flat_il _, _, rfl, ?_⟩
      have e0 : (if true = true then !inV (V.int p) (il L) else inV (V.int p) (il L)) = !decide (p ∈ L) := by rw [if_pos rfl, inV_il]
      by_cases hin : p ∈ L
      · refine ifF (by rw [e0]; simp [hin]) ?_
        rw [if_neg (show ¬ (!decide (p ∈ L)) = true by simp [hin]), List.append_nil]
        -- elif renewed
        cases re with
        | true =>
          have eS : lineStep n.toNat true L p = L.eraseIdx (L.idxOf p) ++ [p] := by unfold lineStep; rw [if_pos hin]; rfl
          rw [eS]
          refine ⟨_, rfl, _, rfl, ?_⟩
          refine ⟨_, rfl, .inl ⟨rfl, _, SqL.of hl2⟩, _, rfl, l, L, p, L.idxOf p, rfl, rfl, hl2, idx_at hin, fun m hm z => idx_no hm z rfl, ?_⟩
          refine ⟨_, rfl, .inl ⟨rfl, _, SqL.of upd_same⟩, _, rfl, l, _, _, rfl, rfl, upd_same, szl (by
            have h1 := hlO.le
            have h2 := List.length_eraseIdx_le L (L.idxOf p)
            simp
            omega), ?_⟩
          rw [upd_upd]
          refine ⟨⟨_, _, rfl⟩, Same.put s3 hl, ?_, ?_⟩
          · rw [upd_same, il_snoc]
          · rw [upd_ne (Ne.symm lc)]; exact hc2
        | false =>
          have eS : lineStep n.toNat false L p = L := by unfold lineStep; rw [if_pos hin]; rfl
          rw [eS]
          exact ⟨_, rfl, _, rfl, ⟨_, _, rfl⟩, s3, hl2, hc2⟩
      · refine ifT (by rw [e0]; simp [hin]) ?_
        have eS : lineStep n.toNat re L p = (if L.length = n.toNat then L.eraseIdx 0 else L) ++ [p] := by unfold lineStep; rw [if_neg hin]
        rw [eS, if_pos (show (!decide (p ∈ L)) = true by simp [hin])]
        -- lacks.append(place)
        refine ⟨_, rfl, .inl ⟨rfl, _, SqL.of hc2⟩, _, rfl, c, _, _, rfl, rfl, hc2, szl (by simp; omega), ?_⟩
        rw [NL_snoc]
        have hl3 : upd (upd H1 t (.tup [V.int (i : Nat), V.int p])) c (.lst (NL (PL ++ [i]))) l = some (.lst (il L)) := by rw [upd_ne lc]; exact hl2
        -- if len(line) == rooms: line.pop(0)
        refine ⟨_, rfl, l, _, rfl, .inl (SqL.of hl3), _, rfl, rfl, _, rfl, ?_⟩
        have e1 : decide (V.int ((il L).length : Int) = V.int n) = decide (L.length = n.toNat) := by
          rw [il_len]
          by_cases q : L.length = n.toNat
          · rw [decide_eq_true q]
            exact decide_eq_true (congrArg V.int (by omega))
          · rw [decide_eq_false q]
            exact decide_eq_false (fun z => q (by injection z with z; omega))
        by_cases hln : L.length = n.toNat
        · refine ifT (by rw [e1]; exact decide_eq_true hln) ?_
          rw [if_pos hln]
          have hat0 : (il L)[0]? = some (V.int (L[0]'(by omega))) := il_at (List.getElem?_eq_getElem _)
          refine ⟨_, rfl, .inl ⟨rfl, _, SqL.of hl3⟩, l, _, 0, 0, _, rfl, rfl, hl3, by decide, by decide, seq_ix rfl (by simp; omega), hat0, ?_⟩
          refine ⟨_, rfl, .inl ⟨rfl, _, SqL.of upd_same⟩, _, rfl, l, _, _, rfl, rfl, upd_same, szl (by
            have h1 := hlO.le
            have h2 := List.length_eraseIdx_le (il L) 0
            simp at h2 ⊢
            omega), ?_⟩
          rw [upd_upd, il_erase, il_snoc]
          refine ⟨⟨_, _, rfl⟩, Same.put (Same.put s3 cH) hl, upd_same, ?_⟩
          rw [upd_ne (Ne.symm lc), upd_same]
        · refine ifF (by rw [e1]; exact decide_eq_false hln) ?_
          rw [if_neg hln]
          refine ⟨_, rfl, .inl ⟨rfl, _, SqL.of hl3⟩, _, rfl, l, _, _, rfl, rfl, hl3, szl (by
            have h1 := hlO.le
            simp
            omega), ?_⟩
          rw [il_snoc]
          refine ⟨⟨_, _, rfl⟩, Same.put (Same.put s3 cH) hl, upd_same, ?_⟩
          rw [upd_ne (Ne.symm lc), upd_same]
    · rintro σ H' ⟨⟨v1, v2, rfl⟩, s2, hl1, hc1⟩
      rw [List.take_of_length_le (by simp)] at hc1
      exact ⟨_, rfl, k c H' cH s2 hc1⟩
theorem sc_by_unseen : FnScope ["rooms", "row"] ["rooms", "row"] (defScope (top 18)) := ⟨rfl, rfl, rfl, by decide +kernel, rfl, by decide +kernel, by decide +kernel⟩
theorem ok_by_unseen (T : Prog K mg) : FnOk P w K mg base CX0 2 T.by_unseen.f T.by_unseen.fd ["rooms", "row"] (spBy K .unseen) := by
  have G_by_line := ok_by_line (P := P) (w := w) (base := base) T
  refine T.by_unseen.fn.ok sc_by_unseen (fun vs H Q E h => ?len) (fun cdv A outer s H vs Q E hr h => ?body)
  case len =>
    obtain ⟨n, r, row, rfl, _⟩ := h
    rfl
  case body =>
    have hr_by_line : Room 1 _ := hr.mono (by decide)
    have hu := hu_of hr
    obtain ⟨n, r, row, rfl, n1, n8, hS, hR, k⟩ := h
    refine ⟨_, PSs.nox (pss_one (ps_ret (pe_call G_by_line hr_by_line (by rfl) T.by_line.g T.by_line.fn.kp T.by_line.bd .nil pass0 (pa_cons (pv 0) (pa_cons (pv 1) (pa_cons pe_bl pa_nil)))))), ?_⟩
    exact ⟨_, rfl, _, rfl, n, r, row, true, rfl, n1, n8, hS, hR, k⟩
theorem sc_by_first : FnScope ["rooms", "row"] ["rooms", "row"] (defScope (top 19)) := ⟨rfl, rfl, rfl, by decide +kernel, rfl, by decide +kernel, by decide +kernel⟩
theorem ok_by_first (T : Prog K mg) : FnOk P w K mg base CX0 2 T.by_first.f T.by_first.fd ["rooms", "row"] (spBy K .first) := by
  have G_by_line := ok_by_line (P := P) (w := w) (base := base) T
  refine T.by_first.fn.ok sc_by_first (fun vs H Q E h => ?len) (fun cdv A outer s H vs Q E hr h => ?body)
  case len =>
    obtain ⟨n, r, row, rfl, _⟩ := h
    rfl
  case body =>
    have hr_by_line : Room 1 _ := hr.mono (by decide)
    have hu := hu_of hr
    obtain ⟨n, r, row, rfl, n1, n8, hS, hR, k⟩ := h
    refine ⟨_, PSs.nox (pss_one (ps_ret (pe_call G_by_line hr_by_line (by rfl) T.by_line.g T.by_line.fn.kp T.by_line.bd .nil pass0 (pa_cons (pv 0) (pa_cons (pv 1) (pa_cons pe_bl pa_nil)))))), ?_⟩
    exact ⟨_, rfl, _, rfl, n, r, row, false, rfl, n1, n8, hS, hR, k⟩
theorem sc_by_hand : FnScope ["rooms", "row", "dial", "place", "page"] ["rooms", "row"] (defScope (top 17)) := ⟨rfl, rfl, rfl, by decide +kernel, rfl, by decide +kernel, by decide +kernel⟩
theorem ok_by_hand (T : Prog K mg) : FnOk P w K mg base CX0 4 T.by_hand.f T.by_hand.fd ["rooms", "row"] (spBy K .hand) := by
  have G_Dial := ok_Dial_init (P := P) (w := w) (base := base) T
  have G_ask := ok_Dial_ask (P := P) (w := w) (base := base) T
  refine T.by_hand.fn.ok sc_by_hand (fun vs H Q E h => ?len) (fun cdv A outer s H vs Q E hr h => ?body)
  case len =>
    obtain ⟨n, r, row, rfl, _⟩ := h
    rfl
  case body =>
    have hr_ask : Room 3 _ := hr.mono (by decide)
    have hu := hu_of hr
    obtain ⟨n, r, row, rfl, n1, n8, hS, hR, k⟩ := h
    refine ⟨_, PSs.nox (pss_cons (ps_set (i := 2) sc_by_hand.nd rfl (Or.inr rfl) (pe_make T.Dial.mkr G_Dial (hr.mono (by decide)) (by rfl) T.Dial.g T.Dial.bI .nil pass0 (pa_cons (pv 0) pa_nil)))
        (pss_one (ps_ret (pe_lc (own := [("place", 3), ("page", 4)]) (g := gTup K 2 (gCons (gName 3) (gCons (gName 4) gNil))) (tt := tB (tOp (rIxT K) (tMeth _ _ _ _ _ _ _) (tC (.int 0)))) (te := tVar 3) rfl sc_by_hand.nd ((pi_enum (by rfl) T.enumerate (pa_cons (pv 1) pa_nil))) (blkOk_by (own := [("place", 3), ("page", 4)]) (N := ["rooms", "row", "dial", "place", "page"]) (sc := defScope (top 17)) (by decide +kernel)) (fun _ _ _ _ _ => (by exact (pg_tup rfl (pgs_cons (pg_name (i := 3) sc_by_hand.nd rfl (Or.inl rfl)) (pgs_cons (pg_name (i := 4) sc_by_hand.nd rfl (Or.inl rfl)) pgs_nil))))) (fun _ _ _ _ _ => (by exact (pts_one (pt_val (pe_ix ix_tup (pe_meth (pv 2) T.Dial.cl T.Dial.ask.me G_ask hr_ask T.Dial.ask.bd .nil pass0 (pa_cons (pv 4) pa_nil)) pe_int (fun _ _ => rfl)))))) (fun _ _ _ _ _ => (by exact (pv 3))))))), ?_⟩
    -- dial = Dial(rooms)
    refine ⟨_, rfl, fun p dx np ndx nex => ?_⟩
    refine ⟨p, dx, n, rfl, upd_same, n1, n8, fun a b H2 ha hb D2 k2 => ⟨rfl, ?_⟩⟩
    have s0 : Same H (upd (upd H dx (.own p)) p (.ins T.Dial.C dx [])) := fun c o e => by
      rw [upd_ne (ne_fresh e np), upd_ne (ne_fresh e ndx)]
      exact e
    have s2 : Same H H2 := fun c o e => k2 c o (s0 c o e) (by simpa using ne_fresh e np)
    have aH : H a = none := Same.back s0 ha
    have bH : H b = none := Same.back s0 hb
    have W0 : (DS.new n.toNat).WF n.toNat := DS.new_wf (by omega)
    have hR1 := hR.1
    refine ⟨_, rfl, r, _, rfl, s2.seq hS, fun d hd => ?_⟩
    have dH : H d = none := Same.back s2 hd
    have dp : d ≠ p := by obtain ⟨_, q⟩ := D2.ob; exact Ne.symm (ne_fresh q hd)
    have da : d ≠ a := Ne.symm (ne_fresh D2.he hd)
    have db : d ≠ b := Ne.symm (ne_fresh D2.ma hd)
    have dS : d ∉ [p, a, b] := by simp [dp, da, db]
    refine lc_it (walk_enum (K := K) (a := r) (xs := il row)) (fun i H' => H' d = some (.lst (NL (placesT 0 ((tellsL (DS.new n.toNat) (row.take i)).map (·.1))))) ∧ DialIs T.Dial.C H' p a b (afterL (DS.new n.toNat) (row.take i)) ∧ Same H H') ?_ ?_ ?_ ?_
    · exact ⟨upd_same, D2.same (Same.new hd), s2.trans (Same.new hd)⟩
    · rintro i H' _ ⟨_, _, q⟩
      exact q.seq hS
    · rintro i x H3 H4 hi ⟨hd3, D3, s3⟩ ⟨t, x1, x2, rfl, ht, rfl, hx1, hx2⟩
      have ea : V.int (i : Nat) = x1 := Option.some.inj hx1
      subst ea
      obtain ⟨pg, hpg, rfl⟩ := il_get hx2
      have hpl := hR.2 pg (List.mem_of_getElem? hpg)
      rw [il_len] at hi
      have sT := Same.new (o := .tup [V.int (i : Nat), V.int pg]) ht
      have D4 := D3.same sT
      obtain ⟨dx4, hp4⟩ := D4.ob
      refine ⟨t, _, rfl, SqT.of upd_same, rfl, _, _, rfl, _, _, rfl, rfl, ⟨rfl, ?_⟩⟩
      refine ⟨_, rfl, p, dx4, _, rfl, hp4, rfl, _, rfl, p, a, b, _, n.toNat, pg, rfl, D4, afterL_wf W0 _, by omega, hpl.1, hpl.2, fun t' l' H5 ht' hl' tl' ht5 hl5 D5 k5 => ?_⟩
      refine ⟨_, _, _, _, rfl, rfl, SqT.of ht5, atI_nat (j := 0) rfl, _, rfl, ?_⟩
      have hd5 := k5 _ _ (sT _ _ hd3) dS
      have s5 : Same H H5 := fun c o e => k5 _ _ (sT _ _ (s3 _ _ e)) (by
        have z1 := ne_fresh e np
        have z2 := ne_fresh e aH
        have z3 := ne_fresh e bH
        simp [z1, z2, z3])
      have eP : placesT 0 ((tellsL (DS.new n.toNat) (row.take (i + 1))).map (·.1)) = placesT 0 ((tellsL (DS.new n.toNat) (row.take i)).map (·.1)) ++ (if ((afterL (DS.new n.toNat) (row.take i)).tells pg).1 = true then [i] else []) := by
        rw [take_snoc hpg, tellsL_snoc, List.map_append, List.map_cons, List.map_nil, placesT_snoc, List.length_map, tellsL_len, List.length_take, Nat.min_eq_left (by omega), Nat.zero_add]
      have hle := placesT_le 0 ((tellsL (DS.new n.toNat) (row.take i)).map (·.1))
      rw [List.length_map, tellsL_len, List.length_take] at hle
      have eA : afterL (DS.new n.toNat) (row.take (i + 1)) = (afterL (DS.new n.toNat) (row.take i)).ask pg := by rw [take_snoc hpg, afterL_snoc]
      rw [eP, eA]
      generalize ((afterL (DS.new n.toNat) (row.take i)).tells pg).1 = bq at *
      cases bq with
      | true =>
        refine ⟨_, rfl, _, hd5, szl (by rw [List.length_map]; omega), ?_, D5.but (S := [d]) (But.put (by simp)) (by simp [Ne.symm dp]) (by simp [Ne.symm da]) (by simp [Ne.symm db]), Same.put s5 dH⟩
        rw [upd_same, NL_snoc]
        rfl
      | false =>
        refine ⟨?_, D5, s5⟩
        rw [if_neg (by simp), List.append_nil]
        exact hd5
    · rintro H' ⟨q1, _, q2⟩
      rw [List.take_of_length_le (by simp)] at q1
      exact k d H' dH q2 q1
theorem sc_check_rule : FnScope ["rule"] ["rule"] (defScope (top 22)) := ⟨rfl, rfl, rfl, by decide +kernel, rfl, by decide +kernel, by decide +kernel⟩
theorem ok_check_rule (T : Prog K mg) {es : Array DictEntry} {nd : Nat} (TB_RULES : KDict K w T.a_RULES es nd) : FnOk P w K mg base CX0 1 T.check_rule.f T.check_rule.fd ["rule"] spCheckRule := by
  refine T.check_rule.fn.ok sc_check_rule (fun vs H Q E h => ?len) (fun cdv A outer s H vs Q E hr h => ?body)
  case len =>
    obtain ⟨rule, rfl, _⟩ := h
    rfl
  case body =>
    have hu := hu_of hr
    obtain ⟨rule, rfl, k⟩ := h
    refine ⟨_, PSs.nox (pss_one (ps_if (pt_cmpR (op_notIn_kd TB_RULES) (pv 0) (pe_glob (v := L2.V.ref T.a_RULES) rfl T.g_RULES rfl) (by rfl))
        (pss_one ps_never)
        pss_nil)), ?_⟩
    obtain ⟨u1, h1, _⟩ := T.r_RULES_hand
    obtain ⟨u2, h2, _⟩ := T.r_RULES_unseen
    obtain ⟨u3, h3, _⟩ := T.r_RULES_first
    cases rule with
    | hand => exact ⟨_, rfl, _, _, rfl, rfl, h1, _, rfl, iteF k⟩
    | unseen => exact ⟨_, rfl, _, _, rfl, rfl, h2, _, rfl, iteF k⟩
    | first => exact ⟨_, rfl, _, _, rfl, rfl, h3, _, rfl, iteF k⟩
theorem sc_find_lacks : FnScope ["rooms", "row", "rule", "by_rule"] ["rooms", "row", "rule"] (defScope (top 24)) := ⟨rfl, rfl, rfl, by decide +kernel, rfl, by decide +kernel, by decide +kernel⟩
theorem ok_find_lacks (T : Prog K mg) {es : Array DictEntry} {nd : Nat} (TB_RULES : KDict K w T.a_RULES es nd) : FnOk P w K mg base CX0 5 T.find_lacks.f T.find_lacks.fd ["rooms", "row", "rule"] (spLacking K) := by
  refine T.find_lacks.fn.ok sc_find_lacks (fun vs H Q E h => ?len) (fun cdv A outer s H vs Q E hr h => ?body)
  case len =>
    obtain ⟨n, r, row, rule, rfl, _⟩ := h
    rfl
  case body =>
    have hu := hu_of hr
    obtain ⟨n, r, row, rule, rfl, n1, n8, hS, hR, k⟩ := h

    obtain ⟨u1, h1, w1⟩ := T.r_RULES_hand
    obtain ⟨u2, h2, w2⟩ := T.r_RULES_unseen
    obtain ⟨u3, h3, w3⟩ := T.r_RULES_first
    have G_by_hand := ok_by_hand (P := P) (w := w) (base := base) T
    have G_by_unseen := ok_by_unseen (P := P) (w := w) (base := base) T
    have G_by_first := ok_by_first (P := P) (w := w) (base := base) T
    have hr_h : Room 4 _ := hr.mono (by decide)
    have hr_u : Room 2 _ := hr.mono (by decide)
    have hr_f : Room 2 _ := hr.mono (by decide)
    cases rule with
    | hand =>
      refine ⟨_, PSs.nox (pss_cons (ps_set (i := 3) sc_find_lacks.nd rfl (Or.inl rfl) (pe_ix ix_kdict (pe_glob (v := L2.V.ref T.a_RULES) rfl T.g_RULES rfl) (pv 2) (fun _ _ => rfl)))
        (pss_one (ps_ret (pe_callL (i := 3) G_by_hand hr_h (by rfl) (Or.inl rfl) T.by_hand.fn.kp T.by_hand.bd .nil pass0 (pa_cons (pv 0) (pa_cons (pv 1) pa_nil)))))), ?_⟩
      refine ⟨_, rfl, _, _, V.ref T.by_hand.f, rfl, rfl, ⟨es, nd, u1, TB_RULES.at_, TB_RULES.lit, h1, w1⟩, ?_⟩
      exact ⟨rfl, _, rfl, _, rfl, n, r, row, rfl, n1, n8, hS, hR, k⟩
    | unseen =>
      refine ⟨_, PSs.nox (pss_cons (ps_set (i := 3) sc_find_lacks.nd rfl (Or.inl rfl) (pe_ix ix_kdict (pe_glob (v := L2.V.ref T.a_RULES) rfl T.g_RULES rfl) (pv 2) (fun _ _ => rfl)))
        (pss_one (ps_ret (pe_callL (i := 3) G_by_unseen hr_u (by rfl) (Or.inl rfl) T.by_unseen.fn.kp T.by_unseen.bd .nil pass0 (pa_cons (pv 0) (pa_cons (pv 1) pa_nil)))))), ?_⟩
      refine ⟨_, rfl, _, _, V.ref T.by_unseen.f, rfl, rfl, ⟨es, nd, u2, TB_RULES.at_, TB_RULES.lit, h2, w2⟩, ?_⟩
      exact ⟨rfl, _, rfl, _, rfl, n, r, row, rfl, n1, n8, hS, hR, k⟩
    | first =>
      refine ⟨_, PSs.nox (pss_cons (ps_set (i := 3) sc_find_lacks.nd rfl (Or.inl rfl) (pe_ix ix_kdict (pe_glob (v := L2.V.ref T.a_RULES) rfl T.g_RULES rfl) (pv 2) (fun _ _ => rfl)))
        (pss_one (ps_ret (pe_callL (i := 3) G_by_first hr_f (by rfl) (Or.inl rfl) T.by_first.fn.kp T.by_first.bd .nil pass0 (pa_cons (pv 0) (pa_cons (pv 1) pa_nil)))))), ?_⟩
      refine ⟨_, rfl, _, _, V.ref T.by_first.f, rfl, rfl, ⟨es, nd, u3, TB_RULES.at_, TB_RULES.lit, h3, w3⟩, ?_⟩
      exact ⟨rfl, _, rfl, _, rfl, n, r, row, rfl, n1, n8, hS, hR, k⟩
theorem sc_lacking : FnScope ["rooms", "row", "rule"] ["rooms", "row", "rule"] (defScope (top 23)) := ⟨rfl, rfl, rfl, by decide +kernel, rfl, by decide +kernel, by decide +kernel⟩
theorem ok_lacking (T : Prog K mg) {es : Array DictEntry} {nd : Nat} (TB_RULES : KDict K w T.a_RULES es nd) : FnOk P w K mg base CX0 6 T.lacking.f T.lacking.fd ["rooms", "row", "rule"] (spLacking K) := by
  have G_check_rooms := ok_check_rooms (P := P) (w := w) (base := base) T
  have G_check_row := ok_check_row (P := P) (w := w) (base := base) T
  have G_check_rule := ok_check_rule (P := P) (w := w) (base := base) T TB_RULES
  have G_find_lacks := ok_find_lacks (P := P) (w := w) (base := base) T TB_RULES
  refine T.lacking.fn.ok sc_lacking (fun vs H Q E h => ?len) (fun cdv A outer s H vs Q E hr h => ?body)
  case len =>
    obtain ⟨n, r, row, rule, rfl, _⟩ := h
    rfl
  case body =>
    have hr_check_rooms : Room 1 _ := hr.mono (by decide)
    have hr_check_row : Room 2 _ := hr.mono (by decide)
    have hr_check_rule : Room 1 _ := hr.mono (by decide)
    have hr_find_lacks : Room 5 _ := hr.mono (by decide)
    have hu := hu_of hr
    obtain ⟨n, r, row, rule, rfl, n1, n8, hS, hR, k⟩ := h
    refine ⟨_, PSs.nox (pss_cons (ps_expr (pe_call G_check_rooms hr_check_rooms (by rfl) T.check_rooms.g T.check_rooms.fn.kp T.check_rooms.bd .nil pass0 (pa_cons (pv 0) pa_nil)))
        (pss_cons (ps_expr (pe_call G_check_row hr_check_row (by rfl) T.check_row.g T.check_row.fn.kp T.check_row.bd .nil pass0 (pa_cons (pv 1) pa_nil)))
        (pss_cons (ps_expr (pe_call G_check_rule hr_check_rule (by rfl) T.check_rule.g T.check_rule.fn.kp T.check_rule.bd .nil pass0 (pa_cons (pv 2) pa_nil)))
        (pss_one (ps_ret (pe_call G_find_lacks hr_find_lacks (by rfl) T.find_lacks.g T.find_lacks.fn.kp T.find_lacks.bd .nil pass0 (pa_cons (pv 0) (pa_cons (pv 1) (pa_cons (pv 2) pa_nil))))))))), ?_⟩
    refine ⟨_, rfl, n, rfl, n1, n8, ?_⟩
    refine ⟨_, rfl, r, row, rfl, hS, hR, fun H1 s1 => ?_⟩
    refine ⟨_, rfl, rule, rfl, ?_⟩
    exact ⟨_, rfl, _, rfl, _, rfl, n, r, row, rule, rfl, n1, n8, s1.seq hS, hR, fun d H' hd s2 hd2 => k d H' (Same.back s1 hd) (s1.trans s2) hd2⟩
end
end CK

/-! Spells as plain data. -/
namespace CK
open PySem PySem.Spec PyProof.Rows L2
/-- where p was asked for last, ahead of i -/
def lastB (row : List Int) (p : Int) : Nat → Option Nat
  | 0 => none
  | i + 1 => if row[i]? = some p then some i else lastB row p i
theorem lastB_lt {row : List Int} {p : Int} : ∀ {i b : Nat}, lastB row p i = some b → b < i ∧ row[b]? = some p
  | 0, b, h => by cases h
  | i + 1, b, h => by
    unfold lastB at h
    by_cases q : row[i]? = some p
    · rw [if_pos q] at h
      have e := Option.some.inj h
      subst e
      exact ⟨Nat.lt_succ_self _, q⟩
    · rw [if_neg q] at h
      have ⟨z1, z2⟩ := lastB_lt h
      exact ⟨Nat.lt_succ_of_lt z1, z2⟩
def spOf : Option Nat → Nat → List (Nat × Nat)
  | some b, i => [(b, i)]
  | none, _ => []
/-- the spell that ends at i -/
def spellAt (row : List Int) (i : Nat) : List (Nat × Nat) :=
  match row[i]? with
  | some p => spOf (lastB row p i) i
  | none => []
theorem spellAt_eq {row : List Int} {i : Nat} {p : Int} (hp : row[i]? = some p) : spellAt row i = spOf (lastB row p i) i := by
  unfold spellAt
  rw [hp]
def spellsTo (row : List Int) : Nat → List (Nat × Nat)
  | 0 => []
  | i + 1 => spellsTo row i ++ spellAt row i
def spellsL (row : List Int) : List (Nat × Nat) := spellsTo row row.length
theorem spellAt_one (row : List Int) (i : Nat) : (spellAt row i).length ≤ 1 := by
  cases hp : row[i]? with
  | none => unfold spellAt; rw [hp]; exact Nat.zero_le _
  | some p =>
    rw [spellAt_eq hp]
    cases lastB row p i with
    | none => exact Nat.zero_le _
    | some b => exact Nat.le_refl _
theorem spellsTo_le (row : List Int) : ∀ i, (spellsTo row i).length ≤ i
  | 0 => Nat.le_refl _
  | i + 1 => by
    have h1 := spellsTo_le row i
    have h2 := spellAt_one row i
    show (spellsTo row i ++ spellAt row i).length ≤ i + 1
    rw [List.length_append]
    omega
theorem spellsL_le (row : List Int) : (spellsL row).length ≤ row.length := spellsTo_le row _
theorem spellAt_lt {row : List Int} {i : Nat} {x : Nat × Nat} (h : x ∈ spellAt row i) : x.1 < x.2 ∧ x.2 = i := by
  cases hp : row[i]? with
  | none => unfold spellAt at h; rw [hp] at h; simp at h
  | some p =>
    rw [spellAt_eq hp] at h
    cases hb : lastB row p i with
    | none => rw [hb] at h; simp [spOf] at h
    | some b =>
      rw [hb] at h
      have e : x = (b, i) := by simpa [spOf] using h
      rw [e]
      exact ⟨(lastB_lt hb).1, rfl⟩
/-! ### lists of pairs -/
/-- the tuples at as are the pairs xs -/
structure PairsAt (H : Hp) (as : List Addr) (xs : List (Nat × Nat)) : Prop where
  len : as.length = xs.length
  at_ : ∀ (i : Nat) (a : Addr) (x : Nat × Nat), as[i]? = some a → xs[i]? = some x → H a = some (.tup [.int (x.1 : Nat), .int (x.2 : Nat)])
theorem PairsAt.nil {H : Hp} : PairsAt H [] [] := ⟨rfl, fun i a x h => by simp at h⟩
theorem PairsAt.mem {H : Hp} {as : List Addr} {xs : List (Nat × Nat)} (h : PairsAt H as xs) {a : Addr} (ha : a ∈ as) : ∃ u, H a = some (.tup u) := by
  obtain ⟨i, hi, e⟩ := List.mem_iff_getElem.mp ha
  have hx : i < xs.length := by rw [← h.len]; exact hi
  exact ⟨_, h.at_ i a _ (by rw [List.getElem?_eq_getElem hi, e]) (List.getElem?_eq_getElem hx)⟩
theorem PairsAt.same {H H' : Hp} {as : List Addr} {xs : List (Nat × Nat)} (h : PairsAt H as xs) (k : Same H H') : PairsAt H' as xs :=
  ⟨h.len, fun i a x ha hx => k _ _ (h.at_ i a x ha hx)⟩
/-- a list that is written is none of the tuples -/
theorem PairsAt.put {H : Hp} {as : List Addr} {xs : List (Nat × Nat)} (h : PairsAt H as xs) {d : Addr} {o o' : HO} (e : H d = some o) (ne : ∀ u, o ≠ .tup u) : PairsAt (upd H d o') as xs :=
  ⟨h.len, fun i a x ha hx => by
    have q := h.at_ i a x ha hx
    rw [upd_ne (ne_of q e fun z => ne _ z.symm)]
    exact q⟩
theorem PairsAt.but {S : List Addr} {H H' : Hp} {as : List Addr} {xs : List (Nat × Nat)} (h : PairsAt H as xs) (k : But S H H') (n : ∀ d ∈ S, ∀ u, H d ≠ some (.tup u)) : PairsAt H' as xs :=
  ⟨h.len, fun i a x ha hx => by
    have q := h.at_ i a x ha hx
    exact k _ _ q fun z => n _ z _ q⟩
theorem PairsAt.snoc {H : Hp} {as : List Addr} {xs : List (Nat × Nat)} (h : PairsAt H as xs) {t : Addr} {x : Nat × Nat} (e : H t = some (.tup [.int (x.1 : Nat), .int (x.2 : Nat)])) : PairsAt H (as ++ [t]) (xs ++ [x]) := by
  refine ⟨by simp [h.len], fun j c y hc hy => ?_⟩
  by_cases hj : j < as.length
  · rw [List.getElem?_append_left hj] at hc
    rw [List.getElem?_append_left (by rw [← h.len]; exact hj)] at hy
    exact h.at_ j c y hc hy
  · have ej : j = as.length := by
      have := (List.getElem?_eq_some_iff.mp hc).1
      simp at this
      omega
    subst ej
    rw [List.getElem?_append_right (Nat.le_refl _), Nat.sub_self] at hc
    rw [List.getElem?_append_right (by rw [h.len]; exact Nat.le_refl _), h.len, Nat.sub_self] at hy
    have ec : t = c := Option.some.inj hc
    have ex : x = y := Option.some.inj hy
    rw [← ec, ← ex]
    exact e
theorem PairsAt.tail {H : Hp} {a : Addr} {x : Nat × Nat} {as : List Addr} {xs : List (Nat × Nat)} (h : PairsAt H (a :: as) (x :: xs)) : H a = some (.tup [.int (x.1 : Nat), .int (x.2 : Nat)]) ∧ PairsAt H as xs :=
  ⟨h.at_ 0 a x rfl rfl, Nat.succ.inj h.len, fun i c y hc hy => h.at_ (i + 1) c y hc hy⟩
theorem PairsAt.app {H : Hp} : ∀ {as bs : List Addr} {xs ys : List (Nat × Nat)}, PairsAt H as xs → PairsAt H bs ys → PairsAt H (as ++ bs) (xs ++ ys) := by
  intro as bs
  induction bs generalizing as with
  | nil =>
    intro xs ys h1 h2
    cases ys with
    | nil => rw [List.append_nil, List.append_nil]; exact h1
    | cons y ys => exact absurd h2.len (by simp)
  | cons b bs ih =>
    intro xs ys h1 h2
    cases ys with
    | nil => exact absurd h2.len (by simp)
    | cons y ys =>
      have q := ih (h1.snoc h2.tail.1) h2.tail.2
      rw [List.append_assoc, List.append_assoc] at q
      exact q
/-! ### pairs as data -/
def pdp (x : Nat × Nat) : PyData := .tuple [.int (x.1 : Nat), .int (x.2 : Nat)]
def pds (xs : List (Nat × Nat)) : PyData := .list (xs.map pdp)
theorem dp_pairsAll {K : PySem.W.Frag} {H : Hp} : ∀ {as : List Addr} {xs : List (Nat × Nat)}, PairsAt H as xs → DpAll K H (as.map V.ref) (xs.map pdp)
  | [], [], _ => .nil
  | [], _ :: _, h => absurd h.len (by simp)
  | _ :: _, [], h => absurd h.len (by simp)
  | a :: as, x :: xs, h => .cons (.tup (SqT.of h.tail.1) (.cons (.int _) (.cons (.int _) .nil))) (dp_pairsAll h.tail.2)
theorem dp_pairs {K : PySem.W.Frag} {H : Hp} {d : Addr} {as : List Addr} {xs : List (Nat × Nat)} (e : SqL K H d (as.map V.ref)) (h : PairsAt H as xs) : Dp K H (.ref d) (pds xs) := .lst e (dp_pairsAll h)
theorem depAll_pairs : ∀ xs : List (Nat × Nat), PyData.depthAll (xs.map pdp) ≤ 1
  | [] => Nat.zero_le _
  | x :: xs => Nat.max_le.mpr ⟨Nat.le_refl _, depAll_pairs xs⟩
theorem depth_pds (xs : List (Nat × Nat)) : (pds xs).depth ≤ 2 := Nat.succ_le_succ (depAll_pairs xs)
theorem small_pairsAll : ∀ xs : List (Nat × Nat), smallAll (xs.map pdp)
  | [] => trivial
  | _ :: xs => ⟨⟨by show 2 ≤ 1000; decide, trivial, trivial, trivial⟩, small_pairsAll xs⟩
theorem small_pds {xs : List (Nat × Nat)} (h : xs.length ≤ 1000) : smallD (pds xs) := ⟨by rw [List.length_map]; exact h, small_pairsAll xs⟩
end CK

/-! list(zip(a, b)), a and b lists of one length. -/
namespace CKZ
open PySem PySem.Spec PyProof.Rows L2
open PySem.Sem (wp)
/-- the zip's own tuple is free (no turn yet), or out, and stands apart -/
def Out (h : Heap) (z TI TO i1 i2 S : Addr) (k : Nat) : Prop :=
  (k = 0 ∧ IsZip h z TI TO .none ∧ ∃ a b, IsPair h TO a b) ∨ ∃ T f oT, IsZipHeld h z TI TO T f ∧ h.get? T = some oT ∧ T ≠ S ∧ T ≠ z ∧ T ≠ i1 ∧ T ≠ i2
/-- a zip of two lists, k turns behind it -/
structure Zs (h : Heap) (z TI TO i1 i2 l1 l2 S : Addr) (xs ys : Array Value) (k : Nat) : Prop where
  out : Out h z TI TO i1 i2 S k
  ti : IsPair h TI (.ref i1) (.ref i2)
  a1 : h.IsListIter i1 l1 k
  a2 : h.IsListIter i2 l2 k
  e1 : h.IsList l1 xs
  e2 : h.IsList l2 ys
/-- the list that is made lies apart from all of it -/
structure SApart (S z TI TO i1 i2 l1 l2 : Addr) : Prop where
  sz : z ≠ S
  st : TI ≠ S
  so : TO ≠ S
  s1 : i1 ≠ S
  s2 : i2 ≠ S
  m1 : l1 ≠ S
  m2 : l2 ≠ S
variable {prog : Program} {w : World} {A : Around} {z TI TO i1 i2 l1 l2 S : Addr} {xs ys : Array Value}
theorem Zs.stay {h h' : Heap} {k : Nat} (x : Zs h z TI TO i1 i2 l1 l2 S xs ys k) (D : SApart S z TI TO i1 i2 l1 l2) (hk : ∀ b o, b ≠ S → h.get? b = some o → h'.get? b = some o) : Zs h' z TI TO i1 i2 l1 l2 S xs ys k := by
  refine ⟨?_, hk _ _ D.st x.ti, x.a1.at fun o e => hk _ o D.s1 e, x.a2.at fun o e => hk _ o D.s2 e, x.e1.at fun o e => hk _ o D.m1 e, x.e2.at fun o e => hk _ o D.m2 e⟩
  rcases x.out with ⟨e0, hz, a, b, hp⟩ | ⟨T, f, oT, hz, hT, n1, n2⟩
  · exact .inl ⟨e0, hk _ _ D.sz hz, a, b, hk _ _ D.so hp⟩
  · exact .inr ⟨T, f, oT, hk _ _ D.sz hz, hk _ _ n1 hT, n1, n2⟩
/-- a turn -/
theorem zs_item {s : Shared} {k : Nat} {x y : Value} {Q : Option Value → Shared → Prop} {E : Value → Shared → Prop} (Z : ZipApart z TI TO i1 i2 l1 l2) (D : SApart S z TI TO i1 i2 l1 l2) (hs : Zs s.heap z TI TO i1 i2 l1 l2 S xs ys k) (hS : S < s.heap.objs.size) (hx : xs[k]? = some x) (hy : ys[k]? = some y)
    (hQ : ∀ h', Zs h' z TI TO i1 i2 l1 l2 S xs ys (k + 1) → IsPair h' s.heap.objs.size x y → h'.objs.size = s.heap.objs.size + 1 → (∀ b o, b ≠ z → b ≠ TO → b ≠ i1 → b ≠ i2 → s.heap.get? b = some o → h'.get? b = some o) → Q (some (.ref s.heap.objs.size)) { s with heap := h' }) :
    wpAny (model prog w) A (pyNext (.ref z)) Q E s := by
  have g1 : i1 < s.heap.objs.size := by obtain ⟨_, e, _⟩ := hs.a1; exact Heap.lt_size e
  have g2 : i2 < s.heap.objs.size := by obtain ⟨_, e, _⟩ := hs.a2; exact Heap.lt_size e
  have up : ∀ h' : Heap, (∀ b o, b ≠ z → b ≠ TO → b ≠ i1 → b ≠ i2 → s.heap.get? b = some o → h'.get? b = some o) → h'.IsListIter i1 l1 (k + 1) → h'.IsListIter i2 l2 (k + 1) → Out h' z TI TO i1 i2 S (k + 1) → Zs h' z TI TO i1 i2 l1 l2 S xs ys (k + 1) := fun h' hk q1 q2 q3 =>
    ⟨q3, hk _ _ Z.TIz Z.TITO Z.TIi1 Z.TIi2 hs.ti, q1, q2, hs.e1.at fun o e => hk _ o Z.l1z Z.l1TO Z.l1i1 Z.l1i2 e, hs.e2.at fun o e => hk _ o Z.l2z Z.l2TO Z.l2i1 Z.l2i2 e⟩
  rcases hs.out with ⟨e0, hz, a, b, hp⟩ | ⟨T, f, oT, hz, hT, n1, n2, n3, n4⟩
  · refine wpAny_pyNext_zip_item Z hz hs.ti hp hs.a1 hs.a2 hs.e1 hs.e2 hx hy fun h' b1 b2 b3 b4 b5 b6 b7 => ?_
    have hzl := Heap.lt_size hz
    exact hQ h' (up h' b7 b3 b4 (.inr ⟨_, false, _, b1, b5, Nat.ne_of_gt hS, Nat.ne_of_gt hzl, Nat.ne_of_gt g1, Nat.ne_of_gt g2⟩)) b5 b6 b7
  · refine wpAny_pyNext_zip_item_held Z hz hT hs.ti hs.a1 hs.a2 hs.e1 hs.e2 hx hy fun h' b1 b3 b4 b5 b6 b7 => ?_
    have b8 : ∀ b o, b ≠ z → b ≠ TO → b ≠ i1 → b ≠ i2 → s.heap.get? b = some o → h'.get? b = some o := fun b o c1 _ c3 c4 e => b7 b o c1 c3 c4 e
    exact hQ h' (up h' b8 b3 b4 (.inr ⟨T, true, oT, b1, b7 _ _ n2 n3 n4 hT, n1, n2, n3, n4⟩)) b5 b6 b8
theorem zs_end {s : Shared} {k : Nat} {Q : Option Value → Shared → Prop} {E : Value → Shared → Prop} (hh : A.handled = none) (Z : ZipApart z TI TO i1 i2 l1 l2) (hs : Zs s.heap z TI TO i1 i2 l1 l2 S xs ys k) (hx : xs[k]? = none)
    (hQ : ∀ h', (∀ b o, b ≠ z → b ≠ TO → b ≠ i1 → b ≠ i2 → s.heap.get? b = some o → h'.get? b = some o) → Q none { s with heap := h' }) : wpAny (model prog w) A (pyNext (.ref z)) Q E s := by
  rcases hs.out with ⟨e0, hz, a, b, hp⟩ | ⟨T, f, oT, hz, hT, n1, n2, n3, n4⟩
  · exact wpAny_pyNext_zip_end hh Z hz hs.ti hp hs.a1 hs.a2 hs.e1 hs.e2 (.inl hx) fun h' hk => hQ h' hk
  · exact wpAny_pyNext_zip_end_held hh Z hz hT hs.ti hs.a1 hs.a2 hs.e1 hs.e2 (.inl hx) fun h' hk => hQ h' fun b o c1 _ c3 c4 e => hk b o c1 c3 c4 e
/-- the pairs that were made, at as -/
structure Made (h : Heap) (lo : Addr) (xs ys : Array Value) (as : List Addr) : Prop where
  rise : as.Pairwise (· < ·)
  above : ∀ a ∈ as, lo < a
  pair : ∀ (j : Nat) (a : Addr), as[j]? = some a → ∃ x y, xs[j]? = some x ∧ ys[j]? = some y ∧ IsPair h a x y
theorem Made.there {h : Heap} {lo : Addr} {as : List Addr} (g : Made h lo xs ys as) {a : Addr} (ha : a ∈ as) : a < h.objs.size := by
  obtain ⟨j, hj⟩ := List.mem_iff_getElem?.mp ha
  obtain ⟨_, _, _, _, e⟩ := g.pair j a hj
  exact Heap.lt_size e
/-- all turns: the list at S takes a pair each -/
theorem zs_loop {s : Shared} {R : Result → Shared → Prop} (hh : A.handled = none) (Z : ZipApart z TI TO i1 i2 l1 l2) (D : SApart S z TI TO i1 i2 l1 l2) (lo : Addr) (hlo : S ≤ lo ∧ z ≤ lo ∧ TO ≤ lo ∧ i1 ≤ lo ∧ i2 ≤ lo) (hxy : xs.size ≤ ys.size) (hn : xs.size ≤ sizeLine) (res : Value) {h₁ : Heap}
    (hR : ∀ h' tk acc c as, (∀ b o, b ≠ S → b ≠ z → b ≠ TO → b ≠ i1 → b ≠ i2 → h₁.get? b = some o → h'.get? b = some o) → h'.get? S = some { cls := .type "list", dict := none, data := .seq acc c, slots := #[] } → as.length = xs.size → Made h' lo xs ys as → acc.toList = as.map Value.ref → R (.ok (.ret res)) { s with heap := h', toks := tk }) :
    ∀ (m k : Nat) (h : Heap) (tk c : Nat) (acc : Array Value) (as : List Addr), xs.size - k = m → k ≤ xs.size → Zs h z TI TO i1 i2 l1 l2 S xs ys k → (∀ b o, b ≠ S → b ≠ z → b ≠ TO → b ≠ i1 → b ≠ i2 → h₁.get? b = some o → h.get? b = some o) →
      h.get? S = some { cls := .type "list", dict := none, data := .seq acc c, slots := #[] } → acc.toList = as.map Value.ref → as.length = k → Made h lo xs ys as → lo < h.objs.size →
      codeAny (model prog w) A (.builtin "list.extend.loop" ⟨[.ref S, .ref z, res], []⟩) R { s with heap := h, toks := tk } := by
  intro m
  induction m with
  | zero =>
    intro k h tk c acc as hm hk st keep hS hacc hal hG hlt
    have ek : k = xs.size := by omega
    refine codeAny_builtin PySem.F.entry_extend_loop ?_; rw [Around.under_plainId PySem.F.plain_extend_loop _]
    refine wpAny_bind (zs_end (s := { s with heap := h, toks := tk }) (A := A.in1) (S := S) hh Z st (by rw [ek]; simp) fun h' he => ?_)
    refine wpAny_pure (hR h' tk acc c as (fun b o c0 c1 c2 c3 c4 e => he b o c1 c2 c3 c4 (keep b o c0 c1 c2 c3 c4 e)) (he S _ D.sz.symm D.so.symm D.s1.symm D.s2.symm hS) (by omega) ⟨hG.rise, hG.above, fun j a hj => ?_⟩ hacc)
    obtain ⟨x, y, f1, f2, f3⟩ := hG.pair j a hj
    have ga := hG.above a (List.mem_of_getElem? hj)
    exact ⟨x, y, f1, f2, he a _ (Nat.ne_of_gt (Nat.lt_of_le_of_lt hlo.2.1 ga)) (Nat.ne_of_gt (Nat.lt_of_le_of_lt hlo.2.2.1 ga)) (Nat.ne_of_gt (Nat.lt_of_le_of_lt hlo.2.2.2.1 ga)) (Nat.ne_of_gt (Nat.lt_of_le_of_lt hlo.2.2.2.2 ga)) f3⟩
  | succ m ih =>
    intro k h tk c acc as hm hk st keep hS hacc hal hG hlt
    have kl : k < xs.size := by omega
    have ex : xs[k]? = some (xs[k]'kl) := Array.getElem?_eq_getElem kl
    have ey : ys[k]? = some (ys[k]'(by omega)) := Array.getElem?_eq_getElem _
    have esz : acc.size = k := by rw [← Array.length_toList, hacc, List.length_map, hal]
    refine codeAny_builtin PySem.F.entry_extend_loop ?_; rw [Around.under_plainId PySem.F.plain_extend_loop _]
    refine wpAny_bind (zs_item (s := { s with heap := h, toks := tk }) (A := A.in1) Z D st (Heap.lt_size hS) ex ey fun h' st' ht hz hkp => ?_)
    dsimp only at ht hz hkp ⊢
    have hS' := hkp S _ D.sz.symm D.so.symm D.s1.symm D.s2.symm hS
    have up : ∀ b o, b ≠ S → h'.get? b = some o → (h'.update S (Obj.mapSeq (·.push (Value.ref h.objs.size)))).get? b = some o := fun b o hb e => (Heap.get?_update_other _ _ (Ne.symm hb)).trans e
    have hSl : S < h.objs.size := Heap.lt_size hS
    show wpAny _ A.in1 (updateSeq S (·.push (Value.ref h.objs.size)) >>= _) _ _ _; refine wpAny_bind ?_
    refine wpAny_updateSeq hS' rfl (wpAny_pure ⟨plainId_quiet PySem.F.plain_extend_loop _, ih (k + 1) _ tk _ (acc.push (Value.ref h.objs.size)) (as ++ [h.objs.size]) (by omega) kl (st'.stay D up)
      (fun b o c0 c1 c2 c3 c4 e => up b o c0 (hkp b o c1 c2 c3 c4 (keep b o c0 c1 c2 c3 c4 e))) (Heap.get?_update_self _ hS' rfl) (by rw [Array.toList_push, hacc, List.map_append]; rfl) (by rw [List.length_append, hal]; rfl) ⟨?_, ?_, ?_⟩ ?_⟩) (by rw [esz]; omega) (by show (acc.push (Value.ref h.objs.size)).size ≤ sizeLine + 1; rw [Array.size_push, esz]; omega)
    · refine List.pairwise_append.mpr ⟨hG.rise, List.pairwise_singleton _ _, fun a ha b hb => ?_⟩
      rw [List.mem_singleton.mp hb]; exact hG.there ha
    · intro a ha
      rcases List.mem_append.mp ha with ha | ha
      · exact hG.above a ha
      · rw [List.mem_singleton.mp ha]; exact hlt
    · intro j b hj
      by_cases q1 : j < as.length
      · rw [List.getElem?_append_left q1] at hj
        obtain ⟨x', y', f1, f2, f3⟩ := hG.pair j b hj
        have ga := hG.above b (List.mem_of_getElem? hj)
        exact ⟨x', y', f1, f2, up b _ (Nat.ne_of_gt (Nat.lt_of_le_of_lt hlo.1 ga)) (hkp b _ (Nat.ne_of_gt (Nat.lt_of_le_of_lt hlo.2.1 ga)) (Nat.ne_of_gt (Nat.lt_of_le_of_lt hlo.2.2.1 ga)) (Nat.ne_of_gt (Nat.lt_of_le_of_lt hlo.2.2.2.1 ga)) (Nat.ne_of_gt (Nat.lt_of_le_of_lt hlo.2.2.2.2 ga)) f3)⟩
      · have q2 : j = as.length := by
          have := (List.getElem?_eq_some_iff.mp hj).1
          rw [List.length_append] at this
          simp at this
          omega
        subst q2
        have hb : h.objs.size = b := by simpa using hj
        subst hb
        exact ⟨_, _, by rw [hal]; exact ex, by rw [hal]; exact ey, up _ _ (Nat.ne_of_gt hSl) ht⟩
    · have e : (h'.update S (Obj.mapSeq (·.push (Value.ref h.objs.size)))).get? h.objs.size = _ := up _ _ (Nat.ne_of_gt hSl) ht
      exact Nat.lt_trans hlt (Heap.lt_size e)
theorem zip_len : typeLookup (.type "zip") "__len__" = pure none := by rw [typeLookup_type, builtinLookup_eq_fast]; kernel_rfl
theorem zip_hint : typeLookup (.type "zip") "__length_hint__" = pure none := by rw [typeLookup_type, builtinLookup_eq_fast]; kernel_rfl
end CKZ

/-! list(zip(a, b)): the call, and its reading. -/
namespace CKZ
open PySem PySem.Spec PyProof.Rows L2
open PySem.Sem (wp)
section
variable {prog : Program} {w : World} {A : Around} {z TI TO i1 i2 l1 l2 S : Addr} {xs ys : Array Value}
theorem zs_hint {s : Shared} {f0 : Value} {E : Value → Shared → Prop} {Q : Bool → Shared → Prop} (hz : IsZip s.heap z TI TO f0) (h : Q true s) : wpAny (model prog w) A (Builtin.List.listLengthHint (.ref z)) Q E s := by
  have hT : s.TypeIs (.ref z) "zip" := ⟨_, hz, rfl⟩
  unfold Builtin.List.listLengthHint
  refine wpAny_bind (wpAny_specialOf hT zip_len ?_)
  show wpAny _ A (specialOf (Value.ref z) (Str.ofString "__length_hint__") >>= _) _ _ s
  refine wpAny_bind (wpAny_specialOf hT zip_hint ?_)
  exact wpAny_pure h
theorem zs_extend {s : Shared} {R : Result → Shared → Prop} (hh : A.handled = none) (Z : ZipApart z TI TO i1 i2 l1 l2) (D : SApart S z TI TO i1 i2 l1 l2) (hxy : xs.size ≤ ys.size) (hn : xs.size ≤ sizeLine) (hz : IsZip s.heap z TI TO .none) (st : Zs s.heap z TI TO i1 i2 l1 l2 S xs ys 0) (res : Value) (c₀ : Nat)
    (hS : s.heap.get? S = some { cls := .type "list", data := .seq #[] c₀ }) (lo : Addr) (hlo : S ≤ lo ∧ z ≤ lo ∧ TO ≤ lo ∧ i1 ≤ lo ∧ i2 ≤ lo) (hlt : lo < s.heap.objs.size)
    (hR : ∀ h' tk acc c as, (∀ b o, b ≠ S → b ≠ z → b ≠ TO → b ≠ i1 → b ≠ i2 → s.heap.get? b = some o → h'.get? b = some o) → h'.get? S = some { cls := .type "list", dict := none, data := .seq acc c, slots := #[] } → as.length = xs.size → Made h' lo xs ys as → acc.toList = as.map Value.ref → R (.ok (.ret res)) { s with heap := h', toks := tk }) :
    wpAny (model prog w) A.in1 (Builtin.List.listExtendWith (.ref S) (.ref z) res)
      (fun fin s' => match fin with | .done f => R (.ok f) s' | .again c' => c'.quiet = true ∧ codeAny (model prog w) A c' R s') (fun e s' => R (.error e) s') s := by
  have hT : s.TypeIs (.ref z) "zip" := ⟨_, hz, rfl⟩
  unfold Builtin.List.listExtendWith
  refine wpAny_bind (wpAny_typeOf hT ?_)
  have h1 : Builtin.List.listSameRef (.ref S) (.ref z) = false := by simp [Builtin.List.listSameRef, D.sz.symm]
  have h2 : (Value.type "zip" == Value.type "list") = false := by decide
  have h3 : (Value.type "zip" == Value.type "tuple") = false := by decide
  simp only [h1, h2, h3, Bool.or_false, Bool.false_eq_true, if_false]
  refine wpAny_bind (wpAny_pyIter_zip hz ?_)
  refine wpAny_bind (wpAny_holding (zs_hint hz ?_))
  have go : ∀ (h : Heap) (c₁ : Nat), (∀ b o, b ≠ S → s.heap.get? b = some o → h.get? b = some o) → h.get? S = some { cls := .type "list", data := .seq #[] c₁ } → lo < h.objs.size → codeAny (model prog w) A (.builtin "list.extend.loop" ⟨[.ref S, .ref z, res], []⟩) R { s with heap := h } := fun h c₁ hk hS₁ hl =>
    zs_loop (s := s) (h₁ := s.heap) hh Z D lo hlo hxy hn res (fun h' tk acc c as k1 k2 k3 k4 k5 => hR h' tk acc c as k1 k2 k3 k4 k5) xs.size 0 h s.toks c₁ #[] [] (Nat.sub_zero _) (Nat.zero_le _) (st.stay D hk) (fun b o c0 _ _ _ _ e => hk b o c0 e) hS₁ rfl rfl ⟨List.Pairwise.nil, (fun _ ha => nomatch ha), (fun j a hj => by simp at hj)⟩ hl
  refine wpAny_ite_split (fun _ => ?_) (fun q => absurd rfl q)
  refine wpAny_bind (wpAny_rule (wpAny_bind ?_))
  show wpAny _ _ (updateSeq S (·.push .none) >>= fun _ => updateSeq S (·.pop)) _ _ s
  refine wpAny_bind (wpAny_updateSeq hS rfl ?_)
  have hS₂ := Heap.get?_update_self (Obj.mapSeq (·.push Value.none)) hS rfl
  refine wpAny_updateSeq (hz := by seq_fits) hS₂ rfl ?_
  have hS₃ := Heap.get?_update_self (Obj.mapSeq (·.pop)) hS₂ rfl
  refine wpAny_pure ⟨plainId_quiet PySem.F.plain_extend_loop _, go _ _ (fun b o hb e => (Heap.get?_update_other _ _ (Ne.symm hb)).trans ((Heap.get?_update_other _ _ (Ne.symm hb)).trans e)) hS₃ ?_⟩
  show lo < ((s.heap.update S _).update S _).objs.size
  rw [Heap.size_update, Heap.size_update]
  exact hlt
theorem call_listZip {s : Shared} {E : Value → Shared → Prop} {Q : Value → Shared → Prop} (hh : A.handled = none) (Z : ZipApart z TI TO i1 i2 l1 l2) (hz : IsZip s.heap z TI TO .none) (hTI : IsPair s.heap TI (.ref i1) (.ref i2)) (hTO : IsPair s.heap TO .none .none) (h1 : s.heap.IsListIter i1 l1 0) (h2 : s.heap.IsListIter i2 l2 0)
    (hl1 : s.heap.IsList l1 xs) (hl2 : s.heap.IsList l2 ys) (hxy : xs.size ≤ ys.size) (hn : xs.size ≤ sizeLine)
    (hQ : ∀ h' tk acc c as, (∀ b o, b ≠ z → b ≠ TO → b ≠ i1 → b ≠ i2 → s.heap.get? b = some o → h'.get? b = some o) → h'.get? s.heap.objs.size = some { cls := .type "list", dict := none, data := .seq acc c, slots := #[] } → as.length = xs.size → Made h' s.heap.objs.size xs ys as → acc.toList = as.map Value.ref → Q (.ref s.heap.objs.size) { s with heap := h', toks := tk }) :
    wpAny (model prog w) A (call (.type "list") [.ref z]) Q E s := by
  have p1 := Heap.lt_size hz
  have p2 := Heap.lt_size hTI
  have p3 := Heap.lt_size hTO
  have p4 : i1 < s.heap.objs.size := by obtain ⟨_, e, _⟩ := h1; exact Heap.lt_size e
  have p5 : i2 < s.heap.objs.size := by obtain ⟨_, e, _⟩ := h2; exact Heap.lt_size e
  have p6 : l1 < s.heap.objs.size := by obtain ⟨_, e, _⟩ := hl1; exact Heap.lt_size e
  have p7 : l2 < s.heap.objs.size := by obtain ⟨_, e, _⟩ := hl2; exact Heap.lt_size e
  have D : SApart s.heap.objs.size z TI TO i1 i2 l1 l2 := ⟨Nat.ne_of_lt p1, Nat.ne_of_lt p2, Nat.ne_of_lt p3, Nat.ne_of_lt p4, Nat.ne_of_lt p5, Nat.ne_of_lt p6, Nat.ne_of_lt p7⟩
  refine callType_codes (Q₁ := fun obj s₁ => obj = .ref s.heap.objs.size ∧ s₁ = { s with heap := s.heap.push { cls := .type "list", data := .seq #[] } }) PySem.F.called_list (PySem.F.typeCall_list_1 _) PySem.F.entry_list_init (code_list_new _ ⟨rfl, rfl⟩) fun obj s₁ q₁ => ?_
  obtain ⟨rfl, rfl⟩ := q₁
  have hS : (s.heap.push { cls := .type "list", data := .seq #[] }).get? s.heap.objs.size = some { cls := .type "list", data := .seq #[] } := Heap.get?_push_size _ rfl
  have up : ∀ b o, s.heap.get? b = some o → (s.heap.push { cls := .type "list", data := .seq #[] }).get? b = some o := fun b o e => Heap.get?_push_of_some _ e
  refine ⟨⟨_, hS, rfl⟩, PySem.F.args_list_init_2 _ _, ?_⟩
  show wpAny _ _ (do let old ← Builtin.List.listItems (.ref s.heap.objs.size); Builtin.List.listUpdate (.ref s.heap.objs.size) (fun _ => #[]); letGo old.toList.reverse; Builtin.List.listExtendWith (.ref s.heap.objs.size) (.ref z) .none) _ _ _
  refine wpAny_bind ?_
  unfold Builtin.List.listItems; refine wpAny_bind (wpAny_seqItems hS rfl (wpAny_pure ?_))
  show wpAny _ _ (updateSeq s.heap.objs.size (fun _ => #[]) >>= fun _ => letGo (#[] : Array Value).toList.reverse >>= fun _ => Builtin.List.listExtendWith (.ref s.heap.objs.size) (.ref z) .none) _ _ _
  refine wpAny_bind (wpAny_updateSeq hS rfl ?_)
  have hS₂ := Heap.get?_update_self (Obj.mapSeq (fun _ => (#[] : Array Value))) hS rfl
  have up2 : ∀ b o, b ≠ s.heap.objs.size → s.heap.get? b = some o → ((s.heap.push { cls := .type "list", data := .seq #[] }).update s.heap.objs.size (Obj.mapSeq (fun _ => (#[] : Array Value)))).get? b = some o := fun b o hb e => (Heap.get?_update_other _ _ (Ne.symm hb)).trans (up b o e)
  refine wpAny_bind (wpAny_letGo ?_)
  have hz2 := up2 _ _ D.sz hz
  have st : Zs ((s.heap.push { cls := .type "list", data := .seq #[] }).update s.heap.objs.size (Obj.mapSeq (fun _ => (#[] : Array Value)))) z TI TO i1 i2 l1 l2 s.heap.objs.size xs ys 0 :=
    ⟨.inl ⟨rfl, hz2, _, _, up2 _ _ D.so hTO⟩, up2 _ _ D.st hTI, h1.at fun o e => up2 _ o D.s1 e, h2.at fun o e => up2 _ o D.s2 e, hl1.at fun o e => up2 _ o D.m1 e, hl2.at fun o e => up2 _ o D.m2 e⟩
  refine zs_extend (A := A.in1) hh Z D hxy hn hz2 st .none _ hS₂ s.heap.objs.size ⟨Nat.le_refl _, Nat.le_of_lt p1, Nat.le_of_lt p3, Nat.le_of_lt p4, Nat.le_of_lt p5⟩ ?_ fun h' tk acc c as k1 k2 k3 k4 k5 => ?_
  · show s.heap.objs.size < ((s.heap.push _).update _ _).objs.size
    rw [Heap.size_update, Heap.size_push]
    exact Nat.lt_succ_self _
  · exact ⟨rfl, hQ h' tk acc c as (fun b o c1 c2 c3 c4 e => k1 b o (Nat.ne_of_lt (Heap.lt_size e)) c1 c2 c3 c4 (up2 b o (Nat.ne_of_lt (Heap.lt_size e)) e)) k2 k3 k4 k5⟩
end
/-- pairs laid at their places -/
def lay2 : Hp → List Addr → List (V × V) → Hp
  | H, a :: as, p :: ps => lay2 (upd H a (.tup [p.1, p.2])) as ps
  | H, _, _ => H
theorem lay2_off {b : Addr} : ∀ (as : List Addr) (ps : List (V × V)) (H : Hp), b ∉ as → lay2 H as ps b = H b
  | [], _, _, _ => rfl
  | _ :: _, [], _, _ => rfl
  | a :: as, p :: ps, H, h => by
    show lay2 (upd H a (.tup [p.1, p.2])) as ps b = H b
    rw [lay2_off as ps _ (fun q => h (List.mem_cons_of_mem _ q)), upd_ne (fun q => h (by rw [q]; exact List.mem_cons_self))]
theorem lay2_at : ∀ (as : List Addr) (ps : List (V × V)) (H : Hp), as.length = ps.length → as.Nodup → ∀ (j : Nat) (a : Addr) (p : V × V), as[j]? = some a → ps[j]? = some p → lay2 H as ps a = some (.tup [p.1, p.2])
  | [], _, _, _, _, _, _, _, h, _ => by cases h
  | a :: as, [], _, h, _, _, _, _, _, _ => by cases h
  | a :: as, p :: ps, H, hl, nd, 0, b, q, h1, h2 => by
    have e1 : a = b := Option.some.inj h1
    have e2 : p = q := Option.some.inj h2
    rw [← e1, ← e2]
    show lay2 (upd H a (.tup [p.1, p.2])) as ps a = _
    rw [lay2_off as ps _ (List.nodup_cons.mp nd).1, upd_same]
  | a :: as, p :: ps, H, hl, nd, j + 1, b, q, h1, h2 => lay2_at as ps _ (Nat.succ.inj hl) (List.nodup_cons.mp nd).2 j b q h1 h2
def tListZip (K : PySem.W.Frag) (ta : TA) : TE := fun σ H Q => ta σ H fun vs H1 => ∃ (a b : Addr) (xs ys : List V), vs = [.ref a, .ref b] ∧ SqL K H1 a xs ∧ SqL K H1 b ys ∧ xs.length ≤ ys.length ∧
  ∀ (H' : Hp) (p : Addr) (ts : List Addr), (∀ c o, H1 c = some o → H' c = some o) → H1 p = none → H' p = some (.lst (ts.map V.ref)) → ts.length = xs.length → (∀ (j : Nat) (t : Addr) (x y : V), ts[j]? = some t → xs[j]? = some x → ys[j]? = some y → H' t = some (.tup [x, y])) → Q (.ref p) H'
section
variable {X : Cx} {e e2 : Expr} {ta : TA} {p p2 pos pos2 : Pos}
theorem vals_refs : ∀ as : List Addr, Vals (as.map V.ref) (as.map Value.ref)
  | [] => .nil
  | _ :: as => .cons rfl (vals_refs as)
theorem pe_listZip (hc : X.calm = true) (hg : Gl X "list") (hm : X.mg "list" = none) (hg2 : Gl X "zip") (hm2 : X.mg "zip" = none) (ha : PA X [e, e2] ta)
    (hs : starEach [e, e2] X.env = (false, eval e X.env) :: starEach [e2] X.env := by rfl) (hpl : (backTo pos2 (starEach [e2] X.env)).any (·.1) = false := by rfl)
    (hs2 : starEach [.Call (.Name "zip" p2) [e, e2] [] pos2] X.env = (false, eval (.Call (.Name "zip" p2) [e, e2] [] pos2) X.env) :: starEach [] X.env := by rfl) :
    PE X (.Call (.Name "list" p) [.Call (.Name "zip" p2) [e, e2] [] pos2] [] pos) (tListZip X.K ta) := by
  refine ⟨fun pins s σ H Q I h => ?_⟩
  refine Call_ (ld_blt I hg hm boot_list (PyProof.Rows.callWith_type1 (args_cons (Call_ (ld_blt I hg2 hm2 PyProof.Rows.boot_zip (PyProof.Rows.callWith_type1 (thn (ha.run pos2 pins s σ H _ I h) fun us s1 ⟨vs, H1, I1, r1, q1⟩ => ?_) hs hpl))) hs2) hs2 rfl))
  obtain ⟨a, b, xs, ys, ev, hqx, hqy, hxy, q⟩ := q1
  subst ev
  cases r1 with
  | cons r rr =>
    cases rr with
    | cons r' rr =>
      cases rr
      cases r
      cases r'
      obtain ⟨its, rv, p1, hz1⟩ := I1.list hqx
      obtain ⟨its2, rv2, p2', hz2⟩ := I1.list hqy
      have ln1 := rv.length
      have ln2 := rv2.length
      refine call_zip_2 p1.isList p2'.isList fun h' hz hTI hTO h1 h2 hsz hk => args_nil ?_
      have I2 : Inv X pins σ H1 { s1 with heap := h' } := I1.kept (t' := s1.toks) hk
      refine call_listZip (s := { s1 with heap := h' }) (I2.ok.hd hc) (PySem.W.ktu_apart s1.heap.objs.size a b p1.lt p2'.lt) hz hTI hTO h1 h2 (p1.isList.at fun o q => hk a o q) (p2'.isList.at fun o q => hk b o q) (by simp only [List.size_toArray]; omega) (by rw [List.size_toArray, ← ln1]; exact hz1) fun h'' tk acc c as k1 k2 k3 k4 k5 => ?_
      have nd : as.Nodup := List.Pairwise.imp (fun {a b} (h : a < b) => Nat.ne_of_lt h) k4.rise
      have big : s1.heap.objs.size ≤ h'.objs.size := by rw [hsz]; exact Nat.le_add_right _ _
      have new : ∀ t ∈ as, H1 t = none := fun t ht => I1.hok.fresh (Nat.le_trans big (Nat.le_of_lt (k4.above t ht)))
      have newS : H1 h'.objs.size = none := I1.hok.fresh big
      have hSn : h'.objs.size ∉ as := fun z => Nat.lt_irrefl _ (k4.above _ z)
      have old : ∀ b o, s1.heap.get? b = some o → h''.get? b = some o := fun c o e => by
        have hl := Heap.lt_size e
        exact k1 c o (Nat.ne_of_lt (Nat.lt_of_lt_of_le hl (Nat.le_add_right _ _))) (Nat.ne_of_lt (Nat.lt_of_lt_of_le hl (Nat.le_add_right _ _))) (Nat.ne_of_lt hl) (Nat.ne_of_lt (Nat.lt_of_lt_of_le hl (Nat.le_add_right _ _))) (hk c o e)
      have las : as.length = (xs.zip ys).length := by rw [k3, List.size_toArray, List.length_zip]; omega
      have ats := lay2_at as (xs.zip ys) (upd H1 h'.objs.size (.lst (as.map V.ref))) las nd
      have off : ∀ b, b ∉ as → b ≠ h'.objs.size → lay2 (upd H1 h'.objs.size (.lst (as.map V.ref))) as (xs.zip ys) b = H1 b := fun b n1 n2 => by rw [lay2_off as _ _ n1, upd_ne n2]
      have kp : ∀ b u, H1 b = some u → lay2 (upd H1 h'.objs.size (.lst (as.map V.ref))) as (xs.zip ys) b = some u := fun b u e => by
        rw [off b (fun z => by rw [new b z] at e; cases e) (fun z => by rw [z, newS] at e; cases e)]
        exact e
      have eS : lay2 (upd H1 h'.objs.size (.lst (as.map V.ref))) as (xs.zip ys) h'.objs.size = some (.lst (as.map V.ref)) := by rw [lay2_off as _ _ hSn, upd_same]
      have low : ∀ b o, s1.heap.get? b = some o → b ∉ as ∧ b ≠ h'.objs.size := fun b o e => ⟨fun z => absurd (Heap.lt_size e) (Nat.not_lt.mpr (Nat.le_trans big (Nat.le_of_lt (k4.above b z)))), Nat.ne_of_lt (Nat.lt_of_lt_of_le (Heap.lt_size e) big)⟩
      refine ⟨.ref h'.objs.size, lay2 (upd H1 h'.objs.size (.lst (as.map V.ref))) as (xs.zip ys), ?_, rfl, q _ _ as kp newS eS (by rw [k3, List.size_toArray, ← ln1]) fun j t x y f1 f2 f3 => ats j t (x, y) f1 (List.getElem?_zip_eq_some.mpr ⟨f2, f3⟩)⟩
      refine I1.call' (ch := []) rfl ⟨fun b o q _ _ _ => old b o q, fun b o q _ _ _ => ⟨o.slots, old b o q⟩, fun b o q n _ => ?_, fun b o q _ => ⟨o, old b o q⟩, fun b xs q => kp b _ q, fun b o u q => kp b _ q, fun b ps q => ⟨#[], by rw [kp b _ q]; simp⟩⟩ (fun b u q => ?_) I1.bare fun b z => by simp at z
      · obtain ⟨z1, z2⟩ := low b o q
        rw [off b z1 z2]
        exact n
      · by_cases hb : b ∈ as
        · obtain ⟨j, hj⟩ := List.mem_iff_getElem?.mp hb
          obtain ⟨x, y, f1, f2, f3⟩ := k4.pair j b hj
          have jl : j < as.length := (List.getElem?_eq_some_iff.mp hj).1
          have jx : j < xs.length := by rw [k3, List.size_toArray] at jl; omega
          have jy : j < ys.length := by omega
          have ex : xs[j]? = some (xs[j]'jx) := List.getElem?_eq_getElem jx
          have ey : ys[j]? = some (ys[j]'jy) := List.getElem?_eq_getElem jy
          have g := ats j b (xs[j]'jx, ys[j]'jy) hj (List.getElem?_zip_eq_some.mpr ⟨ex, ey⟩)
          rw [g] at q
          cases q
          obtain ⟨u, hu, ru⟩ := rv.get ex
          obtain ⟨u2, hu2, ru2⟩ := rv2.get ey
          have e1 : u = x := Option.some.inj ((by simpa using hu.symm : some u = its.toArray[j]?).trans f1)
          have e2 : u2 = y := Option.some.inj ((by simpa using hu2.symm : some u2 = its2.toArray[j]?).trans f2)
          rw [e1] at ru
          rw [e2] at ru2
          exact ⟨by show 2 ≤ sizeLine; decide, [x, y], .cons ru (.cons ru2 .nil), ⟨_, f3, rfl, _, rfl⟩⟩
        · by_cases hb2 : b = h'.objs.size
          · rw [hb2] at q ⊢
            rw [eS] at q
            cases q
            refine ⟨by rw [List.length_map, las, List.length_zip]; have := hz1; omega, acc.toList, c, by rw [k5]; exact vals_refs as, ?_⟩
            rw [Array.toArray_toList]
            exact k2
          · rw [off b hb hb2] at q
            exact (I1.hok b u q).stay (fun d v _ y => old d v y) (fun d y => kp d _ y) fun d xs y => kp d _ y
end
end CKZ

/-! Stretches. -/
namespace CK
open PySem PySem.Spec PyProof.Rows L2
/-- the begins of the stretches, and the pages of the last one, the first i asks gone through -/
structure Bg where
  bs : List Nat
  ps : List Int
def Bg.step (n : Nat) (s : Bg) (i : Nat) (p : Int) : Bg :=
  if p ∈ s.ps then s else if i = 0 ∨ s.ps.length = n then ⟨s.bs ++ [i], [p]⟩ else ⟨s.bs, s.ps ++ [p]⟩
def bgTo (n : Nat) (row : List Int) : Nat → Bg
  | 0 => ⟨[], []⟩
  | i + 1 => match row[i]? with
    | some p => (bgTo n row i).step n i p
    | none => bgTo n row i
theorem bgTo_succ {n : Nat} {row : List Int} {i : Nat} {p : Int} (h : row[i]? = some p) : bgTo n row (i + 1) = (bgTo n row i).step n i p := by
  show (match row[i]? with | some p => (bgTo n row i).step n i p | none => bgTo n row i) = _
  rw [h]
theorem bgTo_le (n : Nat) (row : List Int) : ∀ i, (bgTo n row i).bs.length ≤ i ∧ (bgTo n row i).ps.length ≤ i
  | 0 => ⟨Nat.le_refl _, Nat.le_refl _⟩
  | i + 1 => by
    have ⟨h1, h2⟩ := bgTo_le n row i
    cases hp : row[i]? with
    | none =>
      have e : bgTo n row (i + 1) = bgTo n row i := by
        show (match row[i]? with | some p => (bgTo n row i).step n i p | none => bgTo n row i) = _
        rw [hp]
      rw [e]
      exact ⟨by omega, by omega⟩
    | some p =>
      rw [bgTo_succ hp]
      unfold Bg.step
      split
      · exact ⟨by omega, by omega⟩
      · split
        · exact ⟨by rw [List.length_append]; simp; omega, by simp⟩
        · exact ⟨Nat.le_succ_of_le h1, by rw [List.length_append]; simp; omega⟩
def begins (n : Nat) (row : List Int) : List Nat := (bgTo n row row.length).bs
/-- the stretches -/
def parts (n : Nat) (row : List Int) : List (Nat × Nat) := (begins n row).zip ((begins n row).drop 1 ++ [row.length])
theorem parts_len (n : Nat) (row : List Int) : (parts n row).length = (begins n row).length := by
  unfold parts
  rw [List.length_zip, List.length_append, List.length_drop]
  simp
  omega
theorem begins_le (n : Nat) (row : List Int) : (begins n row).length ≤ row.length := (bgTo_le n row _).1
theorem parts_le (n : Nat) (row : List Int) : (parts n row).length ≤ row.length := by rw [parts_len]; exact begins_le n row
/-- how many of the places lie in each part -/
def countIn (ls : List Nat) (xs : List (Nat × Nat)) : List Nat := xs.map fun x => (ls.filter fun q => decide (x.1 ≤ q) && decide (q < x.2)).length
def spBegins (K : PySem.W.Frag) : Sp := fun vs H Q _ => ∃ (n : Int) (r : Addr) (row : List Int), vs = [.int n, .ref r] ∧ 1 ≤ n ∧ n ≤ 8 ∧ SqL K H r (il row) ∧ RowOk row ∧
  ∀ (d : Addr) (H' : Hp), H d = none → Same H H' → H' d = some (.lst (NL (begins n.toNat row))) → Q (.ref d) H'
def spStretches (K : PySem.W.Frag) : Sp := fun vs H Q _ => ∃ (n : Int) (r : Addr) (row : List Int), vs = [.int n, .ref r] ∧ 1 ≤ n ∧ n ≤ 8 ∧ SqL K H r (il row) ∧ RowOk row ∧
  ∀ (d : Addr) (as : List Addr) (H' : Hp), H d = none → Same H H' → H' d = some (.lst (as.map V.ref)) → PairsAt H' as (parts n.toNat row) → Q (.ref d) H'
def spLackingIn (K : PySem.W.Frag) : Sp := fun vs H Q _ => ∃ (n : Int) (r : Addr) (row : List Int) (rule : Rl), vs = [.int n, .ref r, .str rule.s] ∧ 1 ≤ n ∧ n ≤ 8 ∧ SqL K H r (il row) ∧ RowOk row ∧
  ∀ (d : Addr) (H' : Hp), H d = none → Same H H' → H' d = some (.lst (NL (countIn (lacksR n.toNat rule row) (parts n.toNat row)))) → Q (.ref d) H'
theorem cut_from1 (ns : List Nat) : cutV (NL ns) (some 1) none = NL (ns.drop 1) := by
  unfold cutV
  rw [HT.sIx_none]
  have e : HT.sIx (NL ns).length 0 (some (1 : Int)) = min 1 (NL ns).length   := HT.sIx_nat _ _ 1
  rw [e]
  cases ns with
  | nil => rfl
  | cons a r =>
    have e2 : min 1 (NL (a :: r)).length = 1 := by simp
    rw [e2]
    show (NL r).take _ = NL r
    exact List.take_of_length_le (by simp)
section
variable {P : Program} {w : World} {K : PySem.W.Frag} {mg : Str → Option Value} {base : Heap}
theorem sc_begins : FnScope ["rooms", "row", "begins", "pages", "place", "page"] ["rooms", "row"] (defScope (top 28)) := ⟨rfl, rfl, rfl, by decide +kernel, rfl, by decide +kernel, by decide +kernel⟩
theorem ok_begins (T : Prog K mg) : FnOk P w K mg base CX0 1 T.begins.f T.begins.fd ["rooms", "row"] (spBegins K) := by
  refine T.begins.fn.ok sc_begins (fun vs H Q E h => ?len) (fun cdv A outer s H vs Q E hr h => ?body)
  case len =>
    obtain ⟨n, r, row, rfl, _⟩ := h
    rfl
  case body =>
    have hu := hu_of hr
    obtain ⟨n, r, row, rfl, n1, n8, hS, hR, k⟩ := h
    refine ⟨_, PSs.nox (pss_cons (ps_set (i := 2) sc_begins.nd rfl (Or.inl rfl) (pe_lst pa_nil))
        (pss_cons (ps_set (i := 3) sc_begins.nd rfl (Or.inl rfl) (pe_lst pa_nil))
        (pss_cons (ps_for PassesOwn.never rfl (pi_enum (by rfl) T.enumerate (pa_cons (pv 1) pa_nil)) (pg_tup rfl (pgs_cons (pg_name (i := 4) sc_begins.nd rfl (Or.inl rfl)) (pgs_cons (pg_name (i := 5) sc_begins.nd rfl (Or.inl rfl)) pgs_nil)))
        (pss_cons (ps_if (pt_cmpR op_in_seq (pv 5) (pv 3) (by rfl))
        (pss_one ps_continue)
        pss_nil)
        (pss_cons (ps_if (PW.pt (pw_or (pt_cmpR op_eq (pv 4) pe_int (nomark _)) (pw_or1 (pt_cmpR op_eq (pe_callB call_len_seq (by rfl) T.len PySem.boot_len (pa_cons (pv 3) pa_nil)) (pv 0) (nomark _)))))
        (pss_cons (ps_expr (pe_bm PySem.F.plainAttrs_list PySem.F.slot_list_append PySem.F.type_list_append mt_append (pv 2) (pa_cons (pv 4) pa_nil)))
        (pss_one (ps_set (i := 3) sc_begins.nd rfl (Or.inl rfl) (pe_lst pa_nil))))
        pss_nil)
        (pss_one (ps_expr (pe_bm PySem.F.plainAttrs_list PySem.F.slot_list_append PySem.F.type_list_append mt_append (pv 3) (pa_cons (pv 5) pa_nil)))))))
        (pss_one (ps_ret (pv 2)))))), ?_⟩
    have hR1 := hR.1
    refine ⟨szd rfl, fun d hd => ⟨szd rfl, fun q0 hq0 => ?_⟩⟩
    have s1 := Same.new (o := .lst []) hd
    have s2 := Same.new (o := .lst []) hq0
    refine ⟨_, rfl, r, _, rfl, (s1.trans s2).seq hS, for_it (walk_enum (K := K) (a := r) (xs := il row)) (fun i σ H' => ∃ q, (∃ v4 v5, σ = [some (.int n), some (.ref r), some (.ref d), some (.ref q), v4, v5]) ∧ Same H H' ∧ H' d = some (.lst (NL (bgTo n.toNat row i).bs)) ∧ q ≠ d ∧ H q = none ∧ H' q = some (.lst (il (bgTo n.toNat row i).ps))) ?_ (fun i σ H' _ h => by obtain ⟨_, _, q, _⟩ := h; exact q.seq hS) ?_ ?_⟩
    · exact ⟨q0, ⟨_, _, rfl⟩, s1.trans s2, s2 _ _ upd_same, Ne.symm (ne_fresh (H := upd H d (.lst [])) upd_same hq0), Same.back s1 hq0, upd_same⟩
    · rintro i x σ H1 H2 hi ⟨q, ⟨v4, v5, rfl⟩, s3, hd1, qd, hq, hq1⟩ ⟨t, x1, x2, rfl, ht, rfl, ha, hb⟩
      have ea : V.int (i : Nat) = x1 := Option.some.inj ha
      subst ea
      obtain ⟨p, hp, rfl⟩ := il_get hb
      rw [il_len] at hi
      have sT := Same.new (o := .tup [V.int (i : Nat), V.int p]) ht
      have hd2 := sT _ _ hd1
      have hq2 := sT _ _ hq1
      have s4 := s3.trans sT
      have ⟨l1, l2⟩ := bgTo_le n.toNat row i
      rw [bgTo_succ hp]
      unfold Bg.step
      generalize hB : bgTo n.toNat row i = B at *
      refine ⟨t, _, rfl, SqT.of upd_same, rfl, _, _, rfl, _, _, rfl, rfl, ?_⟩
      refine ⟨_, rfl, _, rfl, q, _, rfl, .inl (SqL.of hq2), rfl, flat_il _, _, rfl, ?_⟩
      have e0 : (if false = true then !inV (V.int p) (il B.ps) else inV (V.int p) (il B.ps)) = decide (p ∈ B.ps) := by rw [if_neg (by simp), inV_il]
      by_cases hin : p ∈ B.ps
      · refine ifT (by rw [e0]; exact decide_eq_true hin) ?_
        rw [if_pos hin]
        exact ⟨q, ⟨_, _, rfl⟩, s4, hd2, qd, hq, hq2⟩
      refine ifF (by rw [e0]; exact decide_eq_false hin) ?_
      rw [if_neg hin]
      by_cases h0 : i = 0 ∨ B.ps.length = n.toNat
      · rw [if_pos h0]
        refine ⟨_, rfl, rfl, _, rfl, ?_⟩
        by_cases hi0 : i = 0
        · refine ifT (decide_eq_true (by rw [hi0]; rfl)) ?_
          refine ⟨_, rfl, .inl ⟨rfl, _, SqL.of hd2⟩, _, rfl, d, _, _, rfl, rfl, hd2, szl (by rw [List.length_map]; omega), ?_⟩
          rw [NL_snoc]
          refine ⟨szd rfl, fun z hz => ?_⟩
          have hz1 : upd H1 t (.tup [V.int (i : Nat), V.int p]) z = none := by
            have zd : z ≠ d := by intro e; rw [e, upd_same] at hz; cases hz
            rw [upd_ne zd] at hz
            exact hz
          have zd : z ≠ d := Ne.symm (ne_fresh hd2 hz1)
          refine ⟨_, rfl, .inl ⟨rfl, _, SqL.of upd_same⟩, _, rfl, z, _, _, rfl, rfl, upd_same, szl (by simp), ?_⟩
          rw [upd_upd]
          exact ⟨z, ⟨_, _, rfl⟩, (Same.put s4 hd).trans (Same.new hz), by rw [upd_ne (Ne.symm zd), upd_same], zd, Same.back s4 hz1, upd_same⟩
        · have hn : B.ps.length = n.toNat := h0.resolve_left hi0
          refine ifF (decide_eq_false (by intro z; injection z with z; omega)) ?_
          refine ⟨_, rfl, q, _, rfl, .inl (SqL.of hq2), _, rfl, rfl, _, rfl, ?_⟩
          refine ifT (decide_eq_true (by rw [il_len]; exact congrArg V.int (by omega))) ?_
          refine ⟨_, rfl, .inl ⟨rfl, _, SqL.of hd2⟩, _, rfl, d, _, _, rfl, rfl, hd2, szl (by rw [List.length_map]; omega), ?_⟩
          rw [NL_snoc]
          refine ⟨szd rfl, fun z hz => ?_⟩
          have hz1 : upd H1 t (.tup [V.int (i : Nat), V.int p]) z = none := by
            have zd : z ≠ d := by intro e; rw [e, upd_same] at hz; cases hz
            rw [upd_ne zd] at hz
            exact hz
          have zd : z ≠ d := Ne.symm (ne_fresh hd2 hz1)
          refine ⟨_, rfl, .inl ⟨rfl, _, SqL.of upd_same⟩, _, rfl, z, _, _, rfl, rfl, upd_same, szl (by simp), ?_⟩
          rw [upd_upd]
          exact ⟨z, ⟨_, _, rfl⟩, (Same.put s4 hd).trans (Same.new hz), by rw [upd_ne (Ne.symm zd), upd_same], zd, Same.back s4 hz1, upd_same⟩
      · rw [if_neg h0]
        have hi0 : ¬ i = 0 := fun e => h0 (.inl e)
        have hn : ¬ B.ps.length = n.toNat := fun e => h0 (.inr e)
        refine ⟨_, rfl, rfl, _, rfl, ?_⟩
        refine ifF (decide_eq_false (by intro z; injection z with z; omega)) ?_
        refine ⟨_, rfl, q, _, rfl, .inl (SqL.of hq2), _, rfl, rfl, _, rfl, ?_⟩
        refine ifF (decide_eq_false (by intro z; injection z with z; rw [il_len] at z; omega)) ?_
        refine ⟨_, rfl, .inl ⟨rfl, _, SqL.of hq2⟩, _, rfl, q, _, _, rfl, rfl, hq2, szl (by rw [il_len]; omega), ?_⟩
        rw [il_snoc]
        exact ⟨q, ⟨_, _, rfl⟩, Same.put s4 hq, by rw [upd_ne (Ne.symm qd)]; exact hd2, qd, hq, upd_same⟩
    · rintro σ H' ⟨q, ⟨v4, v5, rfl⟩, s3, hd1, _⟩
      rw [il_len] at hd1
      exact ⟨_, rfl, k d H' hd s3 hd1⟩
theorem sc_stretches : FnScope ["rooms", "row", "begins", "ends"] ["rooms", "row"] (defScope (top 26)) := ⟨rfl, rfl, rfl, by decide +kernel, rfl, by decide +kernel, by decide +kernel⟩
theorem ok_stretches (T : Prog K mg) : FnOk P w K mg base CX0 3 T.stretches.f T.stretches.fd ["rooms", "row"] (spStretches K) := by
  have G_check_rooms := ok_check_rooms (P := P) (w := w) (base := base) T
  have G_check_row := ok_check_row (P := P) (w := w) (base := base) T
  have G_begins := ok_begins (P := P) (w := w) (base := base) T
  refine T.stretches.fn.ok sc_stretches (fun vs H Q E h => ?len) (fun cdv A outer s H vs Q E hr h => ?body)
  case len =>
    obtain ⟨n, r, row, rfl, _⟩ := h
    rfl
  case body =>
    have hr_check_rooms : Room 1 _ := hr.mono (by decide)
    have hr_check_row : Room 2 _ := hr.mono (by decide)
    have hr_begins : Room 1 _ := hr.mono (by decide)
    have hu := hu_of hr
    obtain ⟨n, r, row, rfl, n1, n8, hS, hR, k⟩ := h
    refine ⟨_, PSs.nox (pss_cons (ps_expr (pe_call G_check_rooms hr_check_rooms (by rfl) T.check_rooms.g T.check_rooms.fn.kp T.check_rooms.bd .nil pass0 (pa_cons (pv 0) pa_nil)))
        (pss_cons (ps_expr (pe_call G_check_row hr_check_row (by rfl) T.check_row.g T.check_row.fn.kp T.check_row.bd .nil pass0 (pa_cons (pv 1) pa_nil)))
        (pss_cons (ps_set (i := 2) sc_stretches.nd rfl (Or.inl rfl) (pe_call G_begins hr_begins (by rfl) T.begins.g T.begins.fn.kp T.begins.bd .nil pass0 (pa_cons (pv 0) (pa_cons (pv 1) pa_nil))))
        (pss_cons (ps_set (i := 3) sc_stretches.nd rfl (Or.inl rfl) (pe_op op_cat (pe_slice sl_list (pv 2) (po_some pe_int) po_none) (pe_lst (pa_cons (pe_callB call_len_seq (by rfl) T.len PySem.boot_len (pa_cons (pv 1) pa_nil)) pa_nil))))
        (pss_one (ps_ret (CKZ.pe_listZip rfl (by rfl) T.list_ (by rfl) T.zip (pa_cons (pv 2) (pa_cons (pv 3) pa_nil))))))))), ?_⟩
    have hR1 := hR.1
    have hbl := begins_le n.toNat row
    refine ⟨_, rfl, n, rfl, n1, n8, ?_⟩
    refine ⟨_, rfl, r, row, rfl, hS, hR, fun H1 s1 => ?_⟩
    refine ⟨_, rfl, _, rfl, n, r, row, rfl, n1, n8, s1.seq hS, hR, fun b H2 hb s2 hb2 => ?_⟩
    -- ends = begins[1:] + [len(row)]
    refine ⟨_, rfl, _, rfl, b, _, rfl, SqL.of hb2, fun c hc => ?_⟩
    rw [cut_from1]
    have s3 := Same.new (o := .lst (NL ((begins n.toNat row).drop 1))) hc
    have s13 := (s1.trans s2).trans s3
    refine ⟨_, rfl, r, _, rfl, .inl (s13.seq hS), szd rfl, fun e he => ?_⟩
    have s4 := Same.new (o := .lst [V.int ((il row).length : Int)]) he
    refine ⟨c, e, _, _, rfl, rfl, s4 _ _ upd_same, upd_same, sz (by rw [List.length_map, List.length_drop]; simp; omega), fun q hq => ?_⟩
    have s5 := Same.new (o := .lst (NL ((begins n.toNat row).drop 1) ++ [V.int ((il row).length : Int)])) hq
    have s15 := (s13.trans s4).trans s5
    have eq : NL ((begins n.toNat row).drop 1) ++ [V.int ((il row).length : Int)] = NL ((begins n.toNat row).drop 1 ++ [row.length]) := by rw [il_len, NL_snoc]
    -- list(zip(begins, ends))
    refine ⟨_, rfl, _, rfl, b, q, NL (begins n.toNat row), NL ((begins n.toNat row).drop 1 ++ [row.length]), rfl, SqL.of (((s3.trans s4).trans s5) _ _ hb2), SqL.of (by rw [upd_same, eq]), ?_, fun H' p ts k1 k2 k3 k4 k5 => ?_⟩
    · rw [List.length_map, List.length_map, List.length_append, List.length_drop]
      simp
      omega
    · refine k p ts H' (Same.back s15 k2) (s15.trans k1) k3 ⟨by rw [k4, parts_len, List.length_map], fun i a x ha hx => ?_⟩
      have hz := List.getElem?_zip_eq_some.mp hx
      exact k5 i a (V.int (x.1 : Nat)) (V.int (x.2 : Nat)) ha (by rw [List.getElem?_map, hz.1]; rfl) (by rw [List.getElem?_map, hz.2]; rfl)
theorem countIn_snoc {ls : List Nat} {xs : List (Nat × Nat)} {i : Nat} {x : Nat × Nat} (h : xs[i]? = some x) : countIn ls (xs.take (i + 1)) = countIn ls (xs.take i) ++ [(ls.filter fun q => decide (x.1 ≤ q) && decide (q < x.2)).length] := by
  unfold countIn
  rw [take_snoc h, List.map_append]
  rfl
theorem sc_lacking_in : FnScope ["rooms", "row", "rule", "lacks", "begin", "end", "place"] ["rooms", "row", "rule"] (defScope (top 27)) := ⟨rfl, rfl, rfl, by decide +kernel, rfl, by decide +kernel, by decide +kernel⟩
theorem ok_lacking_in (T : Prog K mg) {es : Array DictEntry} {nd : Nat} (TB_RULES : KDict K w T.a_RULES es nd) : FnOk P w K mg base CX0 7 T.lacking_in.f T.lacking_in.fd ["rooms", "row", "rule"] (spLackingIn K) := by
  have G_lacking := ok_lacking (P := P) (w := w) (base := base) T TB_RULES
  have G_stretches := ok_stretches (P := P) (w := w) (base := base) T
  refine T.lacking_in.fn.ok sc_lacking_in (fun vs H Q E h => ?len) (fun cdv A outer s H vs Q E hr h => ?body)
  case len =>
    obtain ⟨n, r, row, rule, rfl, _⟩ := h
    rfl
  case body =>
    have hr_lacking : Room 6 _ := hr.mono (by decide)
    have hr_stretches : Room 3 _ := hr.mono (by decide)
    have hu := hu_of hr
    obtain ⟨n, r, row, rule, rfl, n1, n8, hS, hR, k⟩ := h
    refine ⟨_, PSs.nox (pss_cons (ps_set (i := 3) sc_lacking_in.nd rfl (Or.inr rfl) (pe_call G_lacking hr_lacking (by rfl) T.lacking.g T.lacking.fn.kp T.lacking.bd .nil pass0 (pa_cons (pv 0) (pa_cons (pv 1) (pa_cons (pv 2) pa_nil)))))
        (pss_one (ps_ret (pe_lc (own := [("begin", 4), ("end", 5)]) (g := gTup K 2 (gCons (gName 4) (gCons (gName 5) gNil))) (tt := tYes) (te := (tCB (rLenQ K) (tCons (tLc (iList K (tVar 3)) (gName 6) _ (tVar 6) [6]) tNil))) rfl sc_lacking_in.nd ((pi_list (pe_call G_stretches hr_stretches (by rfl) T.stretches.g T.stretches.fn.kp T.stretches.bd .nil pass0 (pa_cons (pv 0) (pa_cons (pv 1) pa_nil))))) (blkOk_by (own := [("begin", 4), ("end", 5)]) (N := ["rooms", "row", "rule", "lacks", "begin", "end", "place"]) (sc := defScope (top 27)) (by decide +kernel)) (fun _ _ _ _ _ => (by exact (pg_tup rfl (pgs_cons (pg_name (i := 4) sc_lacking_in.nd rfl (Or.inr rfl)) (pgs_cons (pg_name (i := 5) sc_lacking_in.nd rfl (Or.inr rfl)) pgs_nil))))) (fun _ _ _ _ _ => (by exact pts_nil)) (fun _ _ _ _ _ => (by exact (pe_callB call_len_seq (by rfl) T.len PySem.boot_len (pa_cons (pe_lc (own := [("place", 6)]) (g := gName 6) rfl sc_lacking_in.nd ((pi_list (pv 3))) (blkOk_by (own := [("place", 6)]) (by kernel_rfl)) (fun _ _ _ _ _ => (by exact (pg_name (i := 6) sc_lacking_in.nd rfl (Or.inl rfl)))) (fun _ _ _ _ _ => (by exact (pts_one (pt_chain op_le op_lt (pv 4) (pv 6) (pv 5))))) (fun _ _ _ _ _ => (by exact (pv 6)))) pa_nil)))))))), ?_⟩
    have hR1 := hR.1
    have hll := lacksR_le n.toNat rule row
    have hpl := parts_le n.toNat row
    refine ⟨_, rfl, _, rfl, _, rfl, n, r, row, rule, rfl, n1, n8, hS, hR, fun l H1 hl s1 hl1 => ?_⟩
    generalize hL : lacksR n.toNat rule row = ls at *
    refine ⟨_, rfl, _, rfl, n, r, row, rfl, n1, n8, s1.seq hS, hR, fun d as H2 hd s2 hd2 hp2 => ?_⟩
    generalize hX : parts n.toNat row = xs at *
    refine ⟨d, rfl, ⟨_, SqL.of hd2⟩, fun D hD => ?_⟩
    refine lc_list (K := K) (a := d) (xs := as.map V.ref) (fun i H' => H' D = some (.lst (NL (countIn ls (xs.take i)))) ∧ Same H2 H') ⟨upd_same, Same.new hD⟩ (fun i H' _ h => SqL.of (h.2 _ _ hd2)) ?_ ?_
    · rintro i y H3 hy ⟨hD3, s3⟩
      rw [List.getElem?_map] at hy
      cases ea : as[i]? with
      | none => rw [ea] at hy; cases hy
      | some a =>
        rw [ea] at hy
        have ey := Option.some.inj hy
        subst ey
        have hi : i < xs.length := by rw [← hp2.len]; exact (List.getElem?_eq_some_iff.mp ea).1
        have ex : xs[i]? = some (xs[i]'hi) := List.getElem?_eq_getElem hi
        have ha := s3 _ _ (hp2.at_ i a _ ea ex)
        rw [countIn_snoc ex]
        generalize xs[i]'hi = x at *
        refine ⟨a, _, rfl, SqT.of ha, rfl, _, _, rfl, _, _, rfl, rfl, ⟨rfl, ?_⟩⟩
        have hl3 := (s2.trans s3) _ _ hl1
        refine ⟨_, rfl, l, rfl, ⟨_, SqL.of hl3⟩, fun E hE => ?_⟩
        refine lc_list (K := K) (a := l) (xs := NL ls) (fun t H' => H' E = some (.lst (NL ((ls.take t).filter fun z => decide (x.1 ≤ z) && decide (z < x.2)))) ∧ Same H3 H') ⟨upd_same, Same.new hE⟩ (fun t H' _ h => SqL.of (h.2 _ _ hl3)) ?_ ?_
        · rintro t y H4 hy ⟨hE4, s4⟩
          obtain ⟨z, hz, rfl⟩ := NL_at hy
          have hle := List.length_filter_le (fun z => decide (x.1 ≤ z) && decide (z < x.2)) (ls.take t)
          rw [List.length_take] at hle
          rw [take_snoc hz, List.filter_append]
          refine ⟨rfl, _, rfl, _, rfl, _, _, rfl, rfl, _, rfl, ?_⟩
          by_cases c1 : x.1 ≤ z
          · refine ifT (decide_eq_true (by omega)) ⟨_, rfl, _, _, rfl, rfl, _, rfl, ?_⟩
            by_cases c2 : z < x.2
            · refine ifT (decide_eq_true (by omega)) ⟨_, rfl, _, hE4, szl (by rw [List.length_map]; omega), ?_, Same.put s4 hE⟩
              rw [upd_same, NL_snoc]
              simp [c1, c2]
            · refine ifF (decide_eq_false (by omega)) ⟨?_, s4⟩
              simpa [c1, c2] using hE4
          · refine ifF (decide_eq_false (by omega)) ⟨_, rfl, iteF ⟨?_, s4⟩⟩
            simpa [c1] using hE4
        · rintro H4 ⟨hE4, s4⟩
          rw [List.take_of_length_le (by simp)] at hE4
          have hcl : (countIn ls (xs.take i)).length ≤ i := by
            unfold countIn
            rw [List.length_map, List.length_take]
            omega
          refine ⟨E, _, rfl, .inl (SqL.of hE4), _, s4 _ _ hD3, szl (by rw [List.length_map]; omega), ?_, Same.put (s3.trans s4) hD⟩
          rw [upd_same, List.length_map, NL_snoc]
    · rintro H3 ⟨hD3, s3⟩
      rw [List.take_of_length_le (by rw [List.length_map, hp2.len]; exact Nat.le_refl _)] at hD3
      exact k D H3 (Same.back (s1.trans s2) hD) ((s1.trans s2).trans s3) hD3
end
end CK

/-! The law's own dial: a dict. -/
namespace CK
open PySem PySem.Spec PyProof.Rows L2
abbrev dkv (a b : Addr) (h k : Int) : List (Key × V) := [(Sum.inr "pages", .ref a), (Sum.inr "marks", .ref b), (Sum.inr "hand", .int h), (Sum.inr "lacks", .int k)]
section
variable {H : Hp} {d a b : Addr} {h k : Int}
theorem dg_pages (e : H d = some (.dK (dkv a b h k))) : DGet H d (.str "pages") (some (.ref a)) := DGet.k (k := Sum.inr "pages") e
theorem dg_marks (e : H d = some (.dK (dkv a b h k))) : DGet H d (.str "marks") (some (.ref b)) := DGet.k (k := Sum.inr "marks") e
theorem dg_hand (e : H d = some (.dK (dkv a b h k))) : DGet H d (.str "hand") (some (.int h)) := DGet.k (k := Sum.inr "hand") e
theorem dg_lacks (e : H d = some (.dK (dkv a b h k))) : DGet H d (.str "lacks") (some (.int k)) := DGet.k (k := Sum.inr "lacks") e
theorem dp_hand {j : Int} (e : H d = some (.dK (dkv a b h k))) : DPut H d (.str "hand") (.int j) (upd H d (.dK (dkv a b j k))) := DPut.k (k := Sum.inr "hand") e (by show 4 < sizeLine; decide)
theorem dp_lacks {j : Int} (e : H d = some (.dK (dkv a b h k))) : DPut H d (.str "lacks") (.int j) (upd H d (.dK (dkv a b h j))) := DPut.k (k := Sum.inr "lacks") e (by show 4 < sizeLine; decide)
end
theorem mk_dkv (a b : Addr) (h k : Int) : mergeK [] (dkv a b h k) = dkv a b h k := rfl
structure LDial (H : Hp) (d a b : Addr) (s : DS) : Prop where
  ne : a ≠ b
  ob : H d = some (.dK (dkv a b s.hand s.lacks))
  he : H a = some (.lst (HL s.held))
  ma : H b = some (.lst (BL s.marks))
theorem LDial.pa {H : Hp} {p a b : Addr} {s : DS} (D : LDial H p a b s) : p ≠ a := ne_of D.ob D.he (by intro z; cases z)
theorem LDial.pb {H : Hp} {p a b : Addr} {s : DS} (D : LDial H p a b s) : p ≠ b := ne_of D.ob D.ma (by intro z; cases z)
theorem LDial.but {S : List Addr} {H H' : Hp} {p a b : Addr} {s : DS} (D : LDial H p a b s) (k : But S H H') (h1 : p ∉ S) (h2 : a ∉ S) (h3 : b ∉ S) : LDial H' p a b s :=
  ⟨D.ne, k _ _ D.ob h1, k _ _ D.he h2, k _ _ D.ma h3⟩
theorem LDial.same {H H' : Hp} {p a b : Addr} {s : DS} (D : LDial H p a b s) (k : Same H H') : LDial H' p a b s := D.but (S := []) (But.of k) (by simp) (by simp) (by simp)
theorem LDial.off {H : Hp} {p a b t : Addr} {s : DS} (D : LDial H p a b s) (h : H t = none) : t ∉ [p, a, b] := by
  have z1 := ne_fresh D.ob h
  have z2 := ne_fresh D.he h
  have z3 := ne_fresh D.ma h
  simp [Ne.symm z1, Ne.symm z2, Ne.symm z3]
def spLDial : Sp := fun vs H Q _ => ∃ n : Int, vs = [.int n] ∧ 1 ≤ n ∧ n ≤ 8 ∧
  ∀ (d a b : Addr) (H' : Hp), H d = none → H a = none → H b = none → LDial H' d a b (DS.new n.toNat) → Same H H' → Q (.ref d) H'
def spLAsk : Sp := fun vs H Q _ => ∃ (p a b : Addr) (s : DS) (n : Nat) (pg : Int), vs = [.ref p, .int pg] ∧ LDial H p a b s ∧ s.WF n ∧ n ≤ 8 ∧
  ∀ (t l : Addr) (H' : Hp), H t = none → H l = none → t ≠ l → H' t = some (.tup [.bl (s.tells pg).1, pgV (s.tells pg).2.1, .ref l]) → H' l = some (.lst (NL (s.tells pg).2.2)) → LDial H' p a b (s.ask pg) → But [p, a, b] H H' → Q (.ref t) H'
section
variable {P : Program} {w : World} {K : PySem.W.Frag} {mg : Str → Option Value} {base : Heap}
theorem sc_law_dial : FnScope ["_law_rooms"] ["_law_rooms"] (defScope (top 34)) := ⟨rfl, rfl, rfl, by decide +kernel, rfl, by decide +kernel, by decide +kernel⟩
theorem ok_law_dial (T : Prog K mg) : FnOk P w K mg base CX0 1 T.law_dial.f T.law_dial.fd ["_law_rooms"] spLDial := by
  refine T.law_dial.fn.ok sc_law_dial (fun vs H Q E h => ?len) (fun cdv A outer s H vs Q E hr h => ?body)
  case len =>
    obtain ⟨n, rfl, _⟩ := h
    rfl
  case body =>
    have hu := hu_of hr
    obtain ⟨n, rfl, n1, n8, k⟩ := h
    refine ⟨_, PSs.nox (pss_one (ps_ret (pe_disp (pps_cons pe_str (pe_op op_rep (pe_lst (pa_cons pe_non pa_nil)) (pv 0)) (pps_cons pe_str (pe_op op_rep (pe_lst (pa_cons pe_bl pa_nil)) (pv 0)) (pps_cons pe_str pe_int (pps_cons pe_str pe_int pps_nil)))) (by rfl) (by rfl) (fun z => by cases z) (by decide)))), ?_⟩
    intro d hd
    refine ⟨szd rfl, fun e he => ?_⟩
    refine ⟨_, rfl, e, n, _, rfl, rfl, upd_same, by omega, by omega, sz (by show 1 * n.toNat ≤ 100000; omega), fun a ha => ?_⟩
    refine ⟨szd rfl, fun e2 he2 => ?_⟩
    refine ⟨_, rfl, e2, n, _, rfl, rfl, upd_same, by omega, by omega, sz (by show 1 * n.toNat ≤ 100000; omega), fun b hb => ?_⟩
    have s1 : Same H (upd H d (.dK [])) := Same.new hd
    have s2 := Same.new (o := .lst [.non]) he
    have s3 := Same.new (o := .lst (List.replicate n.toNat [V.non]).flatten) ha
    have s4 := Same.new (o := .lst [.bl false]) he2
    have s5 := Same.new (o := .lst (List.replicate n.toNat [V.bl false]).flatten) hb
    have d1 : upd H d (.dK []) d = some (.dK []) := upd_same
    have da : d ≠ a := ne_fresh (s2 _ _ d1) ha
    have db : d ≠ b := ne_fresh (s4 _ _ (s3 _ _ (s2 _ _ d1))) hb
    have ab : a ≠ b := ne_fresh (s4 _ _ upd_same) hb
    refine ⟨s5 _ _ (s4 _ _ (s3 _ _ (s2 _ _ d1))), dkv a b 0 0, rfl, by show 4 ≤ 15; decide, ?_⟩
    rw [mk_dkv]
    have sA := ((s2.trans s3).trans s4).trans s5
    refine k d a b _ hd (Same.back (s1.trans s2) ha) (Same.back (((s1.trans s2).trans s3).trans s4) hb) ⟨ab, upd_same, ?_, ?_⟩ ?_
    · rw [upd_ne (Ne.symm da)]
      refine (s5 _ _ (s4 _ _ upd_same)).trans ?_
      rw [rep_one, hl_new]
    · rw [upd_ne (Ne.symm db), upd_same, rep_one, bl_new]
    · exact Same.put (s1.trans sA) hd
theorem sc_law_ask : FnScope ["_law_dial_here", "_law_page", "_law_rooms", "_law_passed", "_law_at", "_law_gone"] ["_law_dial_here", "_law_page"] (defScope (top 35)) := ⟨rfl, rfl, rfl, by decide +kernel, rfl, by decide +kernel, by decide +kernel⟩
theorem ok_law_ask (T : Prog K mg) : FnOk P w K mg base CX0 1 T.law_ask.f T.law_ask.fd ["_law_dial_here", "_law_page"] spLAsk := by
  refine T.law_ask.fn.ok sc_law_ask (fun vs H Q E h => ?len) (fun cdv A outer s H vs Q E hr h => ?body)
  case len =>
    obtain ⟨p, a, b, s, n, pg, rfl, _⟩ := h
    rfl
  case body =>
    have hu := hu_of hr
    obtain ⟨p, a, b, s, n, pg, rfl, D, W, n8, k⟩ := h
    refine ⟨_, PSs.nox (pss_cons (ps_set (i := 2) sc_law_ask.nd rfl (Or.inl rfl) (pe_callB call_len_seq (by rfl) T.len PySem.boot_len (pa_cons (pe_dget hu (pv 0) pe_str (fun _ _ => rfl)) pa_nil)))
        (pss_cons (ps_if (pt_cmpR op_in_seq (pv 1) (pe_dget hu (pv 0) pe_str (fun _ _ => rfl)) (by rfl))
        (pss_cons (ps_asg pe_bl (pg_sub (pe_dget hu (pv 0) pe_str (fun _ _ => rfl)) (pe_bm PySem.F.plainAttrs_list PySem.F.slot_list_index PySem.F.type_list_index mt_index (pe_dget hu (pv 0) pe_str (fun _ _ => rfl)) (pa_cons (pv 1) pa_nil)) set_list))
        (pss_one (ps_ret (pe_tup (pa_cons pe_bl (pa_cons pe_non (pa_cons (pe_lst pa_nil) pa_nil)))))))
        pss_nil)
        (pss_cons (ps_set (i := 3) sc_law_ask.nd rfl (Or.inl rfl) (pe_lst pa_nil))
        (pss_cons (ps_set (i := 4) sc_law_ask.nd rfl (Or.inl rfl) (pe_dget hu (pv 0) pe_str (fun _ _ => rfl)))
        (pss_cons (ps_while PassesOwn.never (pt_val (pe_ix ix_list (pe_dget hu (pv 0) pe_str (fun _ _ => rfl)) (pv 4) (fun _ _ => rfl)))
        (pss_cons (ps_asg pe_bl (pg_sub (pe_dget hu (pv 0) pe_str (fun _ _ => rfl)) (pv 4) set_list))
        (pss_cons (ps_expr (pe_bm PySem.F.plainAttrs_list PySem.F.slot_list_append PySem.F.type_list_append mt_append (pv 3) (pa_cons (pv 4) pa_nil)))
        (pss_one (ps_set (i := 4) sc_law_ask.nd rfl (Or.inl rfl) (pe_op op_mod (pe_op op_add (pv 4) pe_int) (pv 2)))))))
        (pss_cons (ps_set (i := 5) sc_law_ask.nd rfl (Or.inl rfl) (pe_ix ix_list (pe_dget hu (pv 0) pe_str (fun _ _ => rfl)) (pv 4) (fun _ _ => rfl)))
        (pss_cons (ps_asg (pv 1) (pg_sub (pe_dget hu (pv 0) pe_str (fun _ _ => rfl)) (pv 4) set_list))
        (pss_cons (ps_asg pe_bl (pg_sub (pe_dget hu (pv 0) pe_str (fun _ _ => rfl)) (pv 4) set_list))
        (pss_cons (ps_dput hu (pv 0) pe_str (pe_op op_mod (pe_op op_add (pv 4) pe_int) (pv 2)) rfl)
        (pss_cons (ps_dput hu (pv 0) pe_str (pe_op op_add (pe_dget hu (pv 0) pe_str (fun _ _ => rfl)) pe_int) rfl)
        (pss_one (ps_ret (pe_tup (pa_cons pe_bl (pa_cons (pv 5) (pa_cons (pv 3) pa_nil)))))))))))))))), ?_⟩
    have hp := D.ob
    have pb := D.pb
    have pa := D.pa
    -- rooms = len(d['pages'])
    refine ⟨_, rfl, p, _, rfl, dg_pages hp, a, _, rfl, .inl (SqL.of D.he), ?_⟩
    -- if page in d['pages']
    refine ⟨_, rfl, _, rfl, p, _, rfl, dg_pages hp, a, _, rfl, .inl (SqL.of D.he), rfl, flat_hl _, _, rfl, ?_⟩
    have e0 : (if false = true then !inV (V.int pg) (HL s.held) else inV (V.int pg) (HL s.held)) = decide (some pg ∈ s.held) := by
      rw [if_neg (by simp), inV_hl]
    by_cases hin : some pg ∈ s.held
    · refine ifT (by rw [e0]; exact decide_eq_true hin) ?_
      have eT : s.tells pg = (false, none, []) := by unfold DS.tells; rw [if_pos hin]
      have eA : s.ask pg = s.hit pg := by unfold DS.ask; rw [if_pos hin]
      rw [eT, eA] at k
      have hj : s.held.idxOf (some pg) < n := by rw [← W.h]; exact List.idxOf_lt_length_of_mem hin
      refine ⟨_, rfl, p, _, rfl, dg_marks hp, _, rfl, p, _, rfl, dg_pages hp, .inl ⟨rfl, _, SqL.of D.he⟩, _, rfl, a, _, _, s.held.idxOf (some pg), _, rfl, rfl, SqL.of D.he, rfl, flat_hl _, hl_at (idx_at hin), ?_, ?_, ?_⟩
      · rw [eqV_pg]; exact decide_eq_true rfl
      · intro m z' hm hz
        rw [List.getElem?_map] at hz
        cases q : s.held[m]? with
        | none => rw [q] at hz; cases hz
        | some y =>
          rw [q] at hz
          have ez : pgV y = z' := Option.some.inj hz
          rw [← ez, eqV_pg]
          exact decide_eq_false (idx_no hm q)
      refine ⟨b, _, _, _, rfl, rfl, D.ma, ixn rfl (by simp [W.m]; exact hj), ?_⟩
      rw [bl_set]
      refine ⟨szd rfl, fun l hl => ⟨szd rfl, fun t ht => ?_⟩⟩
      have s1 : But [p, a, b] H (upd H b (.lst (BL (s.marks.set (s.held.idxOf (some pg)) true)))) := But.put (by simp)
      have lb : l ≠ b := by intro z; rw [z, upd_same] at hl; cases hl
      have tb : t ≠ b := by intro z; rw [z, upd_ne (Ne.symm lb), upd_same] at ht; cases ht
      have tl : t ≠ l := by intro z; rw [z, upd_same] at ht; cases ht
      have hl' : H l = none := by rw [upd_ne lb] at hl; exact hl
      have ht' : H t = none := by rw [upd_ne tl, upd_ne tb] at ht; exact ht
      have hit : LDial (upd H b (.lst (BL (s.marks.set (s.held.idxOf (some pg)) true)))) p a b (s.hit pg) :=
        ⟨D.ne, by rw [upd_ne pb]; exact hp, by rw [upd_ne D.ne]; exact D.he, upd_same⟩
      exact k t l _ ht' hl' tl upd_same (by rw [upd_ne (Ne.symm tl)]; exact upd_same) ((hit.same (Same.new hl)).same (Same.new ht)) ((s1.trans (But.new hl)).trans (But.new ht))
    refine ifF (by rw [e0]; exact decide_eq_false hin) ?_
    have eT : s.tells pg = (true, (s.held[s.pass.2.1]?).getD none, s.pass.2.2) := by unfold DS.tells; rw [if_neg hin]
    have eA : s.ask pg = s.lack pg := by unfold DS.ask; rw [if_neg hin]
    rw [eT, eA] at k
    -- passed = []; at = d['hand']
    refine ⟨szd rfl, fun l hl => ?_⟩
    have s0 : Same H (upd H l (.lst [])) := Same.new hl
    have lS := D.off hl
    have lp : l ≠ p := by intro z; rw [z] at lS; simp at lS
    have la : l ≠ a := by intro z; rw [z] at lS; simp at lS
    have lb : l ≠ b := by intro z; rw [z] at lS; simp at lS
    refine ⟨_, rfl, p, _, rfl, dg_hand (s0 _ _ hp), ?_⟩
    have hcm : s.marks.count true ≤ 8 := Nat.le_trans List.count_le_length (by rw [W.m]; exact n8)
    let St : Nat → L2.St → Hp → Prop := fun c σ H' => ∃ (m : List Bool) (h : Nat) (acc : List Nat), σ = [some (.ref p), some (.int pg), some (.int ((HL s.held).length : Int)), some (.ref l), some (.int (h : Int)), none] ∧ PassInv s.pass m h acc ∧ m.length = n ∧ h < n ∧ c = m.count true ∧ acc.length + c = s.marks.count true ∧
      LDial H' p a b { s with marks := m } ∧ H' l = some (.lst (NL acc)) ∧ But [p, a, b] H H'
    refine ⟨St, ⟨_, s.marks, s.hand, [], rfl, PassInv.start _ _, W.m, W.n, rfl, by simp, D.same s0, upd_same, But.of s0⟩, ?_⟩
    rintro c σ H1 ⟨m, h, acc, rfl, I, hm, hh, rfl, hc, D1, hl1, k1⟩
    have hat : m[h]? = some (m[h]'(by omega)) := List.getElem?_eq_getElem _
    refine ⟨_, rfl, p, _, rfl, dg_marks D1.ob, _, rfl, b, _, _, _, rfl, rfl, SqL.of D1.ma, atI_nat (bl_at hat), _, rfl, ?_⟩
    by_cases ht : m[h]'(by omega) = true
    · rw [ht] at hat ⊢
      refine iteT ⟨fun σ' H' => ∃ c', c' < m.count true ∧ St c' σ' H', fun σ' H' q => q, ?_⟩
      -- d['marks'][at] = False
      refine ⟨_, rfl, p, _, rfl, dg_marks D1.ob, _, rfl, b, _, _, _, rfl, rfl, D1.ma, ixn rfl (by simp; omega), ?_⟩
      rw [bl_set]
      have hl2 : upd H1 b (.lst (BL (m.set h false))) l = some (.lst (NL acc)) := by rw [upd_ne lb]; exact hl1
      -- passed.append(at)
      refine ⟨_, rfl, .inl ⟨rfl, _, SqL.of hl2⟩, _, rfl, l, _, _, rfl, rfl, hl2, szl (by simp; omega), ?_⟩
      -- at = (at + 1) % rooms
      have hn0 : 0 < n := by omega
      refine ⟨_, rfl, _, _, rfl, rfl, _, rfl, _, _, rfl, rfl, int0 (by simp [W.h]; omega), ?_⟩
      have cs := count_set hat
      have e1 : (((h : Nat) : Int) + 1) % (((HL s.held).length : Nat) : Int) = (((h + 1) % m.length : Nat) : Int) := by
        rw [Int.natCast_emod]
        simp [W.h, hm]
      refine ⟨_, by omega, m.set h false, (h + 1) % m.length, acc ++ [h], ?_, I.go hat, by rw [List.length_set]; exact hm, by rw [hm]; exact Nat.mod_lt _ hn0, rfl, by rw [List.length_append]; simp; omega, ⟨D1.ne, ?_, ?_, ?_⟩, ?_, ?_⟩
      · rw [← e1]; rfl
      · rw [upd_ne (Ne.symm lp), upd_ne pb]; exact D1.ob
      · rw [upd_ne (Ne.symm la), upd_ne D1.ne]; exact D1.he
      · rw [upd_ne (Ne.symm lb), upd_same]
      · rw [upd_same]
        show _ = some (HO.lst ((acc ++ [h]).map fun n : Nat => V.int (n : Int)))
        rw [List.map_append]
        rfl
      · intro c o hc hn
        have hn' : c ≠ p ∧ c ≠ a ∧ c ≠ b := by simpa using hn
        rw [upd_ne (ne_fresh hc hl), upd_ne hn'.2.2]
        exact k1 c o hc hn
    · have hf : m[h]'(by omega) = false := by simpa using ht
      rw [hf] at hat ⊢
      have e := I.end hat
      refine iteF ?_
      -- gone = d['pages'][at]
      have hlt : h < s.held.length := by rw [W.h]; exact hh
      have hga : s.held[h]? = some (s.held[h]'hlt) := List.getElem?_eq_getElem _
      rw [e] at k
      rw [hga] at k
      refine ⟨_, rfl, p, _, rfl, dg_pages D1.ob, _, rfl, a, _, _, _, rfl, rfl, SqL.of D1.he, atI_nat (hl_at hga), ?_⟩
      -- d['pages'][at] = page
      refine ⟨_, rfl, _, rfl, p, _, rfl, dg_pages D1.ob, _, rfl, a, _, _, _, rfl, rfl, D1.he, ixn rfl (by simp; exact hlt), ?_⟩
      rw [hl_set]
      have hp2 : upd H1 a (.lst (HL (s.held.set h (some pg)))) p = some (.dK (dkv a b s.hand s.lacks)) := by rw [upd_ne pa]; exact D1.ob
      have hb2 : upd H1 a (.lst (HL (s.held.set h (some pg)))) b = some (.lst (BL m)) := by rw [upd_ne (Ne.symm D.ne)]; exact D1.ma
      -- d['marks'][at] = True
      refine ⟨_, rfl, p, _, rfl, dg_marks hp2, _, rfl, b, _, _, _, rfl, rfl, hb2, ixn rfl (by simp; omega), ?_⟩
      rw [bl_set]
      have hp3 : upd (upd H1 a (.lst (HL (s.held.set h (some pg))))) b (.lst (BL (m.set h true))) p = some (.dK (dkv a b s.hand s.lacks)) := by rw [upd_ne pb]; exact hp2
      -- d['hand'] = (at + 1) % rooms
      refine ⟨_, rfl, _, _, rfl, rfl, _, rfl, _, _, rfl, rfl, int0 (by simp [W.h]; omega), _, rfl, p, _, rfl, dp_hand hp3, ?_⟩
      -- d['lacks'] = d['lacks'] + 1
      refine ⟨_, rfl, p, _, rfl, dg_lacks upd_same, _, _, rfl, rfl, _, rfl, p, _, rfl, dp_lacks upd_same, ?_⟩
      rw [upd_upd]
      -- return (True, gone, passed)
      refine ⟨_, rfl, _, rfl, szd rfl, fun t ht => ?_⟩
      have e1 : (((h : Nat) : Int) + 1) % (((HL s.held).length : Nat) : Int) = (((h + 1) % s.held.length : Nat) : Int) := by
        rw [Int.natCast_emod]
        simp
      have hl3 : upd (upd (upd H1 a (.lst (HL (s.held.set h (some pg))))) b (.lst (BL (m.set h true)))) p (.dK (dkv a b ((((h : Nat) : Int) + 1) % (((HL s.held).length : Nat) : Int)) ((s.lacks : Int) + 1))) l = some (.lst (NL acc)) := by
        rw [upd_ne lp, upd_ne lb, upd_ne la]; exact hl1
      have tl : t ≠ l := Ne.symm (ne_fresh hl3 ht)
      have kk : But [p, a, b] H (upd (upd (upd H1 a (.lst (HL (s.held.set h (some pg))))) b (.lst (BL (m.set h true)))) p (.dK (dkv a b ((((h : Nat) : Int) + 1) % (((HL s.held).length : Nat) : Int)) ((s.lacks : Int) + 1)))) :=
        ((k1.trans (But.put (by simp))).trans (But.put (by simp))).trans (But.put (by simp))
      have D4 : LDial (upd (upd (upd H1 a (.lst (HL (s.held.set h (some pg))))) b (.lst (BL (m.set h true)))) p (.dK (dkv a b ((((h : Nat) : Int) + 1) % (((HL s.held).length : Nat) : Int)) ((s.lacks : Int) + 1)))) p a b (s.lack pg) := by
        refine ⟨D.ne, ?_, ?_, ?_⟩
        · rw [upd_same, e1]
          unfold DS.lack
          rw [e]
          rfl
        · rw [upd_ne (Ne.symm pa), upd_ne D.ne, upd_same]
          unfold DS.lack
          rw [e]
        · rw [upd_ne (Ne.symm pb), upd_same]
          unfold DS.lack
          rw [e]
      exact k t l _ (kk.back ht (D4.off ht)) hl tl upd_same (by rw [upd_ne (Ne.symm tl)]; exact hl3) (D4.same (Same.new ht)) (kk.trans (But.new ht))
end
end CK

/-! The law's own lacks. -/
namespace CK
open PySem PySem.Spec PyProof.Rows L2
theorem cut_kept (L : List Int) (n : Nat) : cutV (il L) (some (if decide (L.length = n) = true then 1 else 0)) none = il (if L.length = n then L.eraseIdx 0 else L) := by
  unfold cutV
  rw [HT.sIx_none]
  by_cases h : L.length = n
  · rw [if_pos (decide_eq_true h), if_pos h]
    have e : HT.sIx (il L).length 0 (some (1 : Int)) = min 1 (il L).length   := HT.sIx_nat _ _ 1
    rw [e]
    cases L with
    | nil => rfl
    | cons a r =>
      have e2 : min 1 (il (a :: r)).length = 1 := by simp
      rw [e2]
      show (il r).take _ = il r
      exact List.take_of_length_le (by simp)
  · rw [if_neg (by simp [h]), if_neg h]
    have e : HT.sIx (il L).length 0 (some (0 : Int)) = min 0 (il L).length   := HT.sIx_nat _ _ 0
    rw [e, Nat.zero_min]
    show (il L).take _ = il L
    exact List.take_of_length_le (by simp)
theorem rl_ne {a b : Rl} (h : a ≠ b) : decide (V.str a.s = V.str b.s) = false := by
  cases a <;> cases b <;> first | exact absurd rfl h | decide +kernel
section
variable {P : Program} {w : World} {K : PySem.W.Frag} {mg : Str → Option Value} {base : Heap}
theorem sc_law_lacks : FnScope ["_law_rooms", "_law_row_here", "_law_rule", "_law_dial_here", "_law_kept", "_law_found", "_law_place", "_law_page", "_law_lacks_here", "_law_one"] ["_law_rooms", "_law_row_here", "_law_rule"] (defScope (top 36)) := ⟨rfl, rfl, rfl, by decide +kernel, rfl, by decide +kernel, by decide +kernel⟩
theorem ok_law_lacks (T : Prog K mg) : FnOk P w K mg base CX0 2 T.law_lacks.f T.law_lacks.fd ["_law_rooms", "_law_row_here", "_law_rule"] (spLacking K) := by
  have G_law_dial := ok_law_dial (P := P) (w := w) (base := base) T
  have G_law_ask := ok_law_ask (P := P) (w := w) (base := base) T
  refine T.law_lacks.fn.ok sc_law_lacks (fun vs H Q E h => ?len) (fun cdv A outer s H vs Q E hr h => ?body)
  case len =>
    obtain ⟨n, r, row, rule, rfl, _⟩ := h
    rfl
  case body =>
    have hr_law_dial : Room 1 _ := hr.mono (by decide)
    have hr_law_ask : Room 1 _ := hr.mono (by decide)
    have hu := hu_of hr
    obtain ⟨n, r, row, rule, rfl, n1, n8, hS, hR, k⟩ := h
    refine ⟨_, PSs.nox (pss_cons (ps_set (i := 3) sc_law_lacks.nd rfl (Or.inl rfl) (pe_call G_law_dial hr_law_dial (by rfl) T.law_dial.g T.law_dial.fn.kp T.law_dial.bd .nil pass0 (pa_cons (pv 0) pa_nil)))
        (pss_cons (ps_set (i := 4) sc_law_lacks.nd rfl (Or.inl rfl) (pe_lst pa_nil))
        (pss_cons (ps_set (i := 5) sc_law_lacks.nd rfl (Or.inl rfl) (pe_lst pa_nil))
        (pss_cons (ps_for PassesOwn.never rfl (pi_range1 (by rfl) T.range (pa_cons (pe_callB call_len_seq (by rfl) T.len PySem.boot_len (pa_cons (pv 1) pa_nil)) pa_nil)) (pg_name (i := 6) sc_law_lacks.nd rfl (Or.inl rfl))
        (pss_cons (ps_set (i := 7) sc_law_lacks.nd rfl (Or.inr rfl) (pe_ix ix_list (pv 1) (pv 6) (fun _ _ => rfl)))
        (pss_cons (ps_set (i := 8) sc_law_lacks.nd rfl (Or.inl rfl) (pe_cmpR op_notIn_seq (pv 7) (pv 4) (by rfl)))
        (C8.pss_cut (ps_if (pt_cmpR op_eq (pv 2) pe_str (nomark _))
        (pss_one (ps_set (i := 8) sc_law_lacks.nd rfl (Or.inl rfl) (pe_ix ix_tup (pe_call G_law_ask hr_law_ask (by rfl) T.law_ask.g T.law_ask.fn.kp T.law_ask.bd .nil pass0 (pa_cons (pv 3) (pa_cons (pv 7) pa_nil))) pe_int (fun _ _ => rfl))))
        (pss_one (ps_if (pt_val (pv 8))
        (pss_one (ps_set (i := 4) sc_law_lacks.nd rfl (Or.inl rfl) (pe_op op_cat (pe_slice sl_list (pv 4) (po_some (pe_callTy call_int1 (by rfl) T.int_ (by decide +kernel) (pa_cons (pe_cmpR op_eq (pe_callB call_len_seq (by rfl) T.len PySem.boot_len (pa_cons (pv 4) pa_nil)) (pv 0) (nomark _)) pa_nil))) po_none) (pe_lst (pa_cons (pv 7) pa_nil)))))
        (pss_one (ps_if (pt_cmpR op_eq (pv 2) pe_str (nomark _))
        (pss_one (ps_set (i := 4) sc_law_lacks.nd rfl (Or.inl rfl) (pe_op op_cat (pe_lc (own := [("_law_one", 9)]) (g := gName 9) rfl sc_law_lacks.nd ((pi_list (pv 4))) (blkOk_by (own := [("_law_one", 9)]) (N := ["_law_rooms", "_law_row_here", "_law_rule", "_law_dial_here", "_law_kept", "_law_found", "_law_place", "_law_page", "_law_lacks_here", "_law_one"]) (sc := defScope (top 36)) (by decide +kernel)) (fun _ _ _ _ _ => (by exact (pg_name (i := 9) sc_law_lacks.nd rfl (Or.inl rfl)))) (fun _ _ _ _ _ => (by exact (pts_one (pt_cmpR op_ne (pv 9) (pv 7) (nomark _))))) (fun _ _ _ _ _ => (by exact (pv 9)))) (pe_lst (pa_cons (pv 7) pa_nil)))))
        pss_nil)))))
        (pss_one (ps_set (i := 5) sc_law_lacks.nd rfl (Or.inl rfl) (pe_op op_cat (pv 5) (pe_op op_rep (pe_lst (pa_cons (pv 6) pa_nil)) (pe_callTy call_int1 (by rfl) T.int_ (by decide +kernel) (pa_cons (pv 8) pa_nil))))))))))
        (pss_one (ps_ret (pv 5))))))), ?_⟩
    refine ⟨_, rfl, n, rfl, n1, n8, fun d a b H1 dH aH bH D1 s1 => ?_⟩
    refine ⟨szd rfl, fun kp hkp => ⟨szd rfl, fun fo hfo => ?_⟩⟩
    have hn0 : 0 < n.toNat := by omega
    have hR1 := hR.1
    have W0 : (DS.new n.toNat).WF n.toNat := DS.new_wf hn0
    have s2 := Same.new (o := .lst []) hkp
    have s3 := Same.new (o := .lst []) hfo
    -- what holds ahead of a turn: the kept pages, the found places
    let Inv : Nat → Nat → Addr → Addr → Hp → Prop := fun i j kp fo H' => LDial H' d a b (dialR n.toNat rule (row.take i)) ∧ H' kp = some (.lst (il (keptR n.toNat rule (row.take i)))) ∧ H' fo = some (.lst (NL (placesT 0 (lackB n.toNat rule (row.take j))))) ∧
      kp ∉ [d, a, b] ∧ fo ∉ [d, a, b] ∧ H fo = none ∧ Same H H'
    refine ⟨_, rfl, r, _, rfl, .inl (((s1.trans s2).trans s3).seq hS), _, rfl, by omega, by rw [il_len]; omega, for_range (lo := 0) (n := (((il row).length : Nat) : Int).toNat) (fun i σ H' => ∃ (kp fo : Addr) (v6 v7 v8 : Option V), σ = [some (.int n), some (.ref r), some (.str rule.s), some (.ref d), some (.ref kp), some (.ref fo), v6, v7, v8, none] ∧ Inv i i kp fo H') ?_ ?_ ?_⟩
    · refine ⟨kp, fo, none, none, none, rfl, ?_, ?_, ?_, D1.off hkp, (D1.same s2).off hfo, Same.back (s1.trans s2) hfo, (s1.trans s2).trans s3⟩
      · have e : dialR n.toNat rule (row.take 0) = DS.new n.toNat := by cases rule <;> rfl
        rw [e]
        exact (D1.same s2).same s3
      · have e : keptR n.toNat rule (row.take 0) = [] := by cases rule <;> rfl
        rw [e]
        exact s3 _ _ upd_same
      · have e : lackB n.toNat rule (row.take 0) = [] := by cases rule <;> rfl
        rw [e]
        exact upd_same
    · rintro i σ H2 hi ⟨kp, fo, v6, v7, v8, rfl, D2, hk2, hf2, kS, fS, foH, sH⟩
      have hi' : i < row.length := by rw [il_len] at hi; omega
      have hpi : row[i]? = some (row[i]'hi') := List.getElem?_eq_getElem _
      have hpg := hR.2 _ (List.mem_of_getElem? hpi)
      generalize row[i]'hi' = pg at *
      -- page = row[place]; lacks_here = page not in kept
      refine ⟨_, rfl, _, rfl, r, _, _, _, rfl, rfl, sH.seq hS, (by rw [Int.zero_add]; exact atI_nat (il_at hpi)), ?_⟩
      refine ⟨_, rfl, _, rfl, kp, _, rfl, .inl (SqL.of hk2), rfl, flat_il _, ?_⟩
      have e0 : (if true = true then !inV (V.int pg) (il (keptR n.toNat rule (row.take i))) else inV (V.int pg) (il (keptR n.toNat rule (row.take i)))) = !decide (pg ∈ keptR n.toNat rule (row.take i)) := by rw [if_pos rfl, inV_il]
      rw [e0]
      refine ⟨fun σ' H' => ∃ (kp' : Addr), σ' = [some (.int n), some (.ref r), some (.str rule.s), some (.ref d), some (.ref kp'), some (.ref fo), some (.int (0 + (i : Int))), some (.int pg), some (.bl (lackR n.toNat rule (row.take i) pg)), none] ∧ Inv (i + 1) i kp' fo H', ?_, ?_⟩
      · -- the way of the rule
        refine ⟨_, rfl, rfl, _, rfl, ?_⟩
        -- the two other rules' way: what is kept behind it
        cases rule with
        | hand =>
          refine ifT (decide_eq_true rfl) ?_
          refine ⟨_, rfl, _, rfl, d, a, b, _, n.toNat, pg, rfl, D2, afterL_wf W0 _, by omega, fun t l H3 ht hl tl ht3 hl3 D3 k3 => ⟨t, _, _, _, rfl, rfl, SqT.of ht3, atI_nat (j := 0) rfl, ?_⟩⟩
          refine ⟨kp, rfl, ?_, k3 _ _ hk2 kS, k3 _ _ hf2 fS, kS, fS, foH, fun c o e => k3 _ _ (sH _ _ e) ?_⟩
          · show LDial H3 d a b (afterL (DS.new n.toNat) (row.take (i + 1)))
            rw [take_snoc hpi, afterL_snoc]
            exact D3
          · have z1 := ne_fresh e dH
            have z2 := ne_fresh e aH
            have z3 := ne_fresh e bH
            simp [z1, z2, z3]
        | unseen =>
          refine ifF (by decide +kernel) ?_
          refine ⟨_, rfl, _, rfl, ?_⟩
          have hO := lineAt_ok (re := true) hn0 (row.take i)
          have eN : keptR n.toNat .unseen (row.take (i + 1)) = lineStep n.toNat true (lineAt n.toNat true (row.take i)) pg := by
            show lineAt n.toNat true (row.take (i + 1)) = _
            rw [take_snoc hpi, lineAt_snoc]
          have eK : keptR n.toNat .unseen (row.take i) = lineAt n.toNat true (row.take i) := rfl
          rw [eK] at hk2 ⊢
          have eM : ∀ (kp' : Addr) (H' : Hp), H' kp' = some (.lst (il (lineStep n.toNat true (lineAt n.toNat true (row.take i)) pg))) → kp' ∉ [d, a, b] → Same H2 H' → Inv (i + 1) i kp' fo H' := fun kp' H' q1 q2 q3 =>
            ⟨D2.same q3, by rw [eN]; exact q1, q3 _ _ hf2, q2, fS, foH, sH.trans q3⟩
          have eR : lackR n.toNat .unseen (row.take i) pg = !decide (pg ∈ lineAt n.toNat true (row.take i)) := rfl
          rw [eR]
          generalize hLL : lineAt n.toNat true (row.take i) = L at *
          have hL8 := hO.le
          by_cases hin : pg ∈ L
          · refine ifF (by simp [hin]) ?_
            refine ⟨_, rfl, rfl, _, rfl, ?_⟩
            refine ifT (decide_eq_true rfl) ?_
            have eS : lineStep n.toNat true L pg = L.filter (· != pg) ++ [pg] := by
              unfold lineStep
              rw [if_pos hin, if_pos rfl, erase_line hO.nd]
            rw [eS] at eM
            -- kept = [one for one in kept if one != page] + [page]
            refine ⟨_, rfl, kp, rfl, ⟨_, SqL.of hk2⟩, fun D hD => ?_⟩
            refine lc_list (K := K) (a := kp) (xs := il L) (fun m H' => H' D = some (.lst (il ((L.take m).filter (· != pg)))) ∧ Same H2 H') ⟨upd_same, Same.new hD⟩ (fun m H' _ q => SqL.of (q.2 _ _ hk2)) ?_ ?_
            · rintro m x H' hx ⟨q1, q2⟩
              obtain ⟨y, hy, rfl⟩ := il_get hx
              have hfl := List.length_filter_le (· != pg) (L.take m)
              rw [List.length_take] at hfl
              refine ⟨rfl, _, rfl, _, rfl, rfl, _, rfl, ?_⟩
              rw [take_snoc hy, List.filter_append]
              by_cases hyp : y = pg
              · refine ifF (by simp [hyp]) ?_
                have e : [y].filter (· != pg) = [] := by simp [hyp]
                rw [e, List.append_nil]
                exact ⟨q1, q2⟩
              · refine ifT (by simp [hyp]) ?_
                have e : [y].filter (· != pg) = [y] := by simp [hyp]
                rw [e]
                refine ⟨_, rfl, _, q1, szl (by rw [il_len]; omega), ?_, Same.put q2 hD⟩
                rw [upd_same, il_snoc]
            · rintro H' ⟨q1, q2⟩
              rw [List.take_of_length_le (by simp)] at q1
              have hfl := List.length_filter_le (· != pg) L
              refine ⟨_, rfl, szd rfl, fun e he => ?_⟩
              have se := Same.new (o := .lst [V.int pg]) he
              refine ⟨D, e, _, _, rfl, rfl, se _ _ q1, upd_same, sz (by rw [il_len]; simp; omega), fun z hz => ?_⟩
              refine ⟨z, rfl, eM z _ ?_ ((D2.same (q2.trans se)).off hz) ((q2.trans se).trans (Same.new hz))⟩
              rw [upd_same, il_snoc]
          · refine ifT (by simp [hin]) ?_
            have eS : lineStep n.toNat true L pg = (if L.length = n.toNat then L.eraseIdx 0 else L) ++ [pg] := by
              unfold lineStep
              rw [if_neg hin]
            rw [eS] at eM
            have e1 : decide (V.int ((il L).length : Int) = V.int n) = decide (L.length = n.toNat) := by
              rw [il_len]
              by_cases q : L.length = n.toNat
              · rw [decide_eq_true q]
                exact decide_eq_true (congrArg V.int (by omega))
              · rw [decide_eq_false q]
                exact decide_eq_false (fun z => q (by injection z with z; omega))
            have hcut : (if L.length = n.toNat then L.eraseIdx 0 else L).length ≤ 8 := by
              have := List.length_eraseIdx_le L 0
              split <;> omega
            -- kept = kept[int(len(kept) == rooms):] + [page]
            refine ⟨_, rfl, _, rfl, kp, _, rfl, .inl (SqL.of hk2), _, rfl, rfl, .inr ⟨_, rfl, _, rfl, kp, _, rfl, SqL.of hk2, fun p hp => ?_⟩⟩
            rw [e1, cut_kept]
            refine ⟨_, rfl, szd rfl, fun e he => ?_⟩
            have sp := Same.new (o := .lst (il (if L.length = n.toNat then L.eraseIdx 0 else L))) hp
            have se := Same.new (o := .lst [V.int pg]) he
            refine ⟨p, e, _, _, rfl, rfl, se _ _ upd_same, upd_same, sz (by rw [il_len]; show _ + 1 ≤ 100000; omega), fun z hz => ?_⟩
            refine ⟨z, rfl, eM z _ ?_ ((D2.same (sp.trans se)).off hz) ((sp.trans se).trans (Same.new hz))⟩
            rw [upd_same, il_snoc]
        | first =>
          refine ifF (by decide +kernel) ?_
          refine ⟨_, rfl, _, rfl, ?_⟩
          have hO := lineAt_ok (re := false) hn0 (row.take i)
          have eN : keptR n.toNat .first (row.take (i + 1)) = lineStep n.toNat false (lineAt n.toNat false (row.take i)) pg := by
            show lineAt n.toNat false (row.take (i + 1)) = _
            rw [take_snoc hpi, lineAt_snoc]
          have eK : keptR n.toNat .first (row.take i) = lineAt n.toNat false (row.take i) := rfl
          rw [eK] at hk2 ⊢
          have eM : ∀ (kp' : Addr) (H' : Hp), H' kp' = some (.lst (il (lineStep n.toNat false (lineAt n.toNat false (row.take i)) pg))) → kp' ∉ [d, a, b] → Same H2 H' → Inv (i + 1) i kp' fo H' := fun kp' H' q1 q2 q3 =>
            ⟨D2.same q3, by rw [eN]; exact q1, q3 _ _ hf2, q2, fS, foH, sH.trans q3⟩
          have eR : lackR n.toNat .first (row.take i) pg = !decide (pg ∈ lineAt n.toNat false (row.take i)) := rfl
          rw [eR]
          generalize hLL : lineAt n.toNat false (row.take i) = L at *
          have hL8 := hO.le
          by_cases hin : pg ∈ L
          · refine ifF (by simp [hin]) ?_
            refine ⟨_, rfl, rfl, _, rfl, ?_⟩
            refine ifF (by decide +kernel) ?_
            have eS : lineStep n.toNat false L pg = L := by
              unfold lineStep
              rw [if_pos hin]
              rfl
            rw [eS] at eM
            exact ⟨kp, rfl, eM kp H2 hk2 kS (Same.refl H2)⟩
          · refine ifT (by simp [hin]) ?_
            have eS : lineStep n.toNat false L pg = (if L.length = n.toNat then L.eraseIdx 0 else L) ++ [pg] := by
              unfold lineStep
              rw [if_neg hin]
            rw [eS] at eM
            have e1 : decide (V.int ((il L).length : Int) = V.int n) = decide (L.length = n.toNat) := by
              rw [il_len]
              by_cases q : L.length = n.toNat
              · rw [decide_eq_true q]
                exact decide_eq_true (congrArg V.int (by omega))
              · rw [decide_eq_false q]
                exact decide_eq_false (fun z => q (by injection z with z; omega))
            have hcut : (if L.length = n.toNat then L.eraseIdx 0 else L).length ≤ 8 := by
              have := List.length_eraseIdx_le L 0
              split <;> omega
            -- kept = kept[int(len(kept) == rooms):] + [page]
            refine ⟨_, rfl, _, rfl, kp, _, rfl, .inl (SqL.of hk2), _, rfl, rfl, .inr ⟨_, rfl, _, rfl, kp, _, rfl, SqL.of hk2, fun p hp => ?_⟩⟩
            rw [e1, cut_kept]
            refine ⟨_, rfl, szd rfl, fun e he => ?_⟩
            have sp := Same.new (o := .lst (il (if L.length = n.toNat then L.eraseIdx 0 else L))) hp
            have se := Same.new (o := .lst [V.int pg]) he
            refine ⟨p, e, _, _, rfl, rfl, se _ _ upd_same, upd_same, sz (by rw [il_len]; show _ + 1 ≤ 100000; omega), fun z hz => ?_⟩
            refine ⟨z, rfl, eM z _ ?_ ((D2.same (sp.trans se)).off hz) ((sp.trans se).trans (Same.new hz))⟩
            rw [upd_same, il_snoc]
      · rintro σ' H3 ⟨kp', rfl, D3, hk3, hf3, kS3, fS3, _, sH3⟩
        -- found = found + [place] * int(lacks_here)
        have hpl := placesT_le 0 (lackB n.toNat rule (row.take i))
        rw [lackB_len, List.length_take] at hpl
        generalize hb : lackR n.toNat rule (row.take i) pg = lk at *
        refine ⟨_, rfl, _, rfl, szd rfl, fun e he => ?_⟩
        refine ⟨_, rfl, .inr ⟨_, rfl, e, _, _, rfl, rfl, upd_same, ?_, ?_, ?_, fun q hq => ?_⟩⟩
        · cases lk <;> decide
        · cases lk <;> decide
        · cases lk <;> exact szd rfl
        have sN := (Same.new (o := .lst [V.int (0 + (i : Int))]) he)
        have sQ := sN.trans (Same.new (o := .lst (List.replicate (Int.toNat (if lk = true then 1 else 0)) [V.int (0 + (i : Int))]).flatten) hq)
        refine ⟨fo, q, _, _, rfl, rfl, sQ _ _ hf3, upd_same, ?_, fun z hz => ?_⟩
        · have : (List.replicate (Int.toNat (if lk = true then 1 else 0)) [V.int (0 + (i : Int))]).flatten.length ≤ 1 := by cases lk <;> exact Nat.le_of_ble_eq_true rfl
          refine sz ?_
          rw [List.length_map]
          omega
        have sZ := sQ.trans (Same.new (o := .lst (NL (placesT 0 (lackB n.toNat rule (row.take i))) ++ (List.replicate (Int.toNat (if lk = true then 1 else 0)) [V.int (0 + (i : Int))]).flatten)) hz)
        refine ⟨kp', z, _, _, _, rfl, D3.same sZ, sZ _ _ hk3, ?_, kS3, (D3.same sQ).off hz, Same.back (sH3.trans sQ) hz, sH3.trans sZ⟩
        rw [upd_same, take_snoc hpi, lackB_snoc, placesT_snoc, lackB_len, List.length_take, Nat.min_eq_left (by omega), Nat.zero_add, hb]
        cases lk with
        | true =>
          show some (HO.lst (NL _ ++ [V.int (0 + (i : Int))])) = _
          rw [Int.zero_add, NL_snoc]
          rfl
        | false =>
          show some (HO.lst (NL _ ++ [])) = _
          rw [List.append_nil]
          show _ = some (HO.lst (NL (_ ++ [])))
          rw [List.append_nil]
    · rintro σ H' ⟨kp, fo, v6, v7, v8, rfl, _, _, q1, _, _, q2, q3⟩
      rw [List.take_of_length_le (by simp)] at q1
      exact ⟨_, rfl, k fo H' q2 q3 q1⟩
end
end CK

/-! The law's own stretches. -/
namespace CK
open PySem PySem.Spec PyProof.Rows L2
theorem zip_next (i : List Nat) (b c : Nat) : (i ++ [b]).zip ((i ++ [b]).drop 1 ++ [c]) = (i ++ [b]).zip ((i ++ [b]).drop 1) ++ [(b, c)] := by
  induction i with
  | nil => rfl
  | cons a i ih =>
    cases i with
    | nil => rfl
    | cons d i =>
      show (a, d) :: (d :: i ++ [b]).zip ((d :: i ++ [b]).drop 1 ++ [c]) = (a, d) :: ((d :: i ++ [b]).zip ((d :: i ++ [b]).drop 1) ++ [(b, c)])
      rw [ih]
/-- each begin with the next one -/
def consec (bs : List Nat) : List (Nat × Nat) := bs.zip (bs.drop 1)
theorem consec_snoc (i : List Nat) (b c : Nat) : consec (i ++ [b] ++ [c]) = consec (i ++ [b]) ++ [(b, c)] := by
  unfold consec
  have e : (i ++ [b] ++ [c]).drop 1 = (i ++ [b]).drop 1 ++ [c] := by
    cases i <;> rfl
  rw [e]
  have e2 : (i ++ [b] ++ [c]).zip ((i ++ [b]).drop 1 ++ [c]) = (i ++ [b] ++ [c]).zip ((i ++ [b]).drop 1 ++ [c] ++ []) := by rw [List.append_nil]
  rw [e2, List.zip_append (by simp)]
  rw [zip_next]
  simp
theorem consec_le (bs : List Nat) : (consec bs).length ≤ bs.length := by
  unfold consec
  rw [List.length_zip]
  exact Nat.min_le_left _ _
theorem parts_consec {n : Nat} {row : List Int} {i : List Nat} {b : Nat} (h : begins n row = i ++ [b]) : parts n row = consec (begins n row) ++ [(b, row.length)] := by
  unfold parts consec
  rw [h, zip_next]
section
variable {P : Program} {w : World} {K : PySem.W.Frag} {mg : Str → Option Value} {base : Heap}
def spLParts (K : PySem.W.Frag) : Sp := fun vs H Q _ => ∃ (n : Int) (r : Addr) (row : List Int), vs = [.int n, .ref r] ∧ 1 ≤ n ∧ n ≤ 8 ∧ SqL K H r (il row) ∧ RowOk row ∧
  ∀ (d : Addr) (as : List Addr) (H' : Hp), H d = none → Same H H' → H' d = some (.lst (as.map V.ref)) → PairsAt H' as (parts n.toNat row) → Q (.ref d) H'
theorem sc_law_parts : FnScope ["_law_rooms", "_law_row_here", "_law_found", "_law_pages", "_law_begin", "_law_place"] ["_law_rooms", "_law_row_here"] (defScope (top 37)) := ⟨rfl, rfl, rfl, by decide +kernel, rfl, by decide +kernel, by decide +kernel⟩
theorem ok_law_parts (T : Prog K mg) : FnOk P w K mg base CX0 1 T.law_parts.f T.law_parts.fd ["_law_rooms", "_law_row_here"] (spLParts K) := by
  refine T.law_parts.fn.ok sc_law_parts (fun vs H Q E h => ?len) (fun cdv A outer s H vs Q E hr h => ?body)
  case len =>
    obtain ⟨n, r, row, rfl, _⟩ := h
    rfl
  case body =>
    have hu := hu_of hr
    obtain ⟨n, r, row, rfl, n1, n8, hS, hR, k⟩ := h
    refine ⟨_, PSs.nox (pss_cons (ps_set (i := 2) sc_law_parts.nd rfl (Or.inl rfl) (pe_lst pa_nil))
        (pss_cons (ps_set (i := 3) sc_law_parts.nd rfl (Or.inl rfl) (pe_lst pa_nil))
        (pss_cons (ps_set (i := 4) sc_law_parts.nd rfl (Or.inl rfl) pe_int)
        (pss_cons (ps_for PassesOwn.never rfl (pi_range1 (by rfl) T.range (pa_cons (pe_callB call_len_seq (by rfl) T.len PySem.boot_len (pa_cons (pv 1) pa_nil)) pa_nil)) (pg_name (i := 5) sc_law_parts.nd rfl (Or.inl rfl))
        (pss_cons (ps_if (PW.pt (pw_and (pt_cmpR op_notIn_seq (pe_ix ix_list (pv 1) (pv 5) (fun _ _ => rfl)) (pv 3) (by rfl)) (pw_and1 (pt_cmpR op_eq (pe_callB call_len_seq (by rfl) T.len PySem.boot_len (pa_cons (pv 3) pa_nil)) (pv 0) (nomark _)))))
        (pss_cons (ps_expr (pe_bm PySem.F.plainAttrs_list PySem.F.slot_list_append PySem.F.type_list_append mt_append (pv 2) (pa_cons (pe_tup (pa_cons (pv 4) (pa_cons (pv 5) pa_nil))) pa_nil)))
        (pss_cons (ps_set (i := 4) sc_law_parts.nd rfl (Or.inl rfl) (pv 5))
        (pss_one (ps_set (i := 3) sc_law_parts.nd rfl (Or.inl rfl) (pe_lst pa_nil)))))
        pss_nil)
        (pss_one (ps_if (pt_cmpR op_notIn_seq (pe_ix ix_list (pv 1) (pv 5) (fun _ _ => rfl)) (pv 3) (by rfl))
        (pss_one (ps_expr (pe_bm PySem.F.plainAttrs_list PySem.F.slot_list_append PySem.F.type_list_append mt_append (pv 3) (pa_cons (pe_ix ix_list (pv 1) (pv 5) (fun _ _ => rfl)) pa_nil))))
        pss_nil))))
        (pss_one (ps_ret (pe_op op_cat (pv 2) (pe_op op_rep (pe_lst (pa_cons (pe_tup (pa_cons (pv 4) (pa_cons (pe_callB call_len_seq (by rfl) T.len PySem.boot_len (pa_cons (pv 1) pa_nil)) pa_nil))) pa_nil)) (pe_callTy call_int1 (by rfl) T.int_ (by decide +kernel) (pa_cons (pe_cmpR (op_neD hr.units) (pv 1) (pe_lst pa_nil) (nomark _)) pa_nil)))))))))), ?_⟩
    have hR1 := hR.1
    refine ⟨szd rfl, fun f hf => ⟨szd rfl, fun q0 hq0 => ?_⟩⟩
    have s1 := Same.new (o := .lst []) hf
    have s2 := Same.new (o := .lst []) hq0
    refine ⟨_, rfl, r, _, rfl, .inl ((s1.trans s2).seq hS), _, rfl, by omega, by rw [il_len]; omega, ?_⟩
    refine for_range (lo := 0) (n := ((il row).length : Int).toNat) (fun i σ H' => ∃ (q : Addr) (as : List Addr) (b : Nat), (∃ v5, σ = [some (.int n), some (.ref r), some (.ref f), some (.ref q), some (.int (b : Nat)), v5]) ∧ Same H H' ∧ H' f = some (.lst (as.map V.ref)) ∧ PairsAt H' as (consec (bgTo n.toNat row i).bs) ∧ q ≠ f ∧ H q = none ∧ H' q = some (.lst (il (bgTo n.toNat row i).ps)) ∧
      ((i = 0 ∧ (bgTo n.toNat row i).bs = [] ∧ (bgTo n.toNat row i).ps = [] ∧ b = 0) ∨ (0 < i ∧ ∃ z, (bgTo n.toNat row i).bs = z ++ [b]))) ?_ ?_ ?_
    · exact ⟨q0, [], 0, ⟨_, rfl⟩, s1.trans s2, s2 _ _ upd_same, PairsAt.nil, Ne.symm (ne_fresh (H := upd H f (.lst [])) upd_same hq0), Same.back s1 hq0, upd_same, .inl ⟨rfl, rfl, rfl, rfl⟩⟩
    · rintro i σ H1 hi ⟨q, as, b, ⟨v5, rfl⟩, s3, hf1, hp1, qf, hq, hq1, hb⟩
      have hi' : i < row.length := by rw [il_len] at hi; omega
      have ei : row[i]? = some (row[i]'hi') := List.getElem?_eq_getElem hi'
      have hat : atI (il row) (0 + (i : Int)) = some (V.int (row[i]'hi')) := by rw [Int.zero_add]; exact atI_nat (il_at ei)
      rw [bgTo_succ ei]
      unfold Bg.step
      have ⟨l1, l2⟩ := bgTo_le n.toNat row i
      generalize row[i]'hi' = p at *
      generalize hB : bgTo n.toNat row i = B at *
      have hal : as.length ≤ i := by
        rw [hp1.len]
        exact Nat.le_trans (consec_le _) l1
      have hS1 := s3.seq hS
      have e1 : (if true = true then !inV (V.int p) (il B.ps) else inV (V.int p) (il B.ps)) = !decide (p ∈ B.ps) := by rw [if_pos rfl, inV_il]
      refine ⟨_, rfl, _, rfl, r, _, _, _, rfl, rfl, hS1, hat, _, rfl, q, _, rfl, .inl (SqL.of hq1), rfl, flat_il _, _, rfl, ?_⟩
      by_cases hin : p ∈ B.ps
      · refine ifF (by rw [e1]; simp [hin]) ?_
        refine ⟨_, rfl, _, rfl, r, _, _, _, rfl, rfl, hS1, hat, _, rfl, q, _, rfl, .inl (SqL.of hq1), rfl, flat_il _, _, rfl, ?_⟩
        refine ifF (by rw [e1]; simp [hin]) ?_
        rw [if_pos hin]
        refine ⟨q, as, b, ⟨_, rfl⟩, s3, hf1, hp1, qf, hq, hq1, ?_⟩
        rcases hb with ⟨_, _, z, _⟩ | ⟨_, z⟩
        · rw [z] at hin; simp at hin
        · exact .inr ⟨Nat.succ_pos _, z⟩
      refine ifT (by rw [e1]; simp [hin]) ?_
      rw [if_neg hin]
      refine ⟨_, rfl, q, _, rfl, .inl (SqL.of hq1), _, rfl, rfl, _, rfl, ?_⟩
      by_cases hn : B.ps.length = n.toNat
      · refine ifT (decide_eq_true (by rw [il_len]; exact congrArg V.int (by omega))) ?_
        rw [if_pos (.inr hn)]
        have hz : ∃ z, B.bs = z ++ [b] := by
          rcases hb with ⟨_, _, z, _⟩ | ⟨_, z⟩
          · rw [z] at hn; simp at hn; omega
          · exact z
        obtain ⟨z, hz⟩ := hz
        -- found.append((begin, place))
        refine ⟨_, rfl, .inl ⟨rfl, _, SqL.of hf1⟩, _, rfl, _, rfl, szd rfl, fun t ht => ?_⟩
        have sT := Same.new (o := .tup [V.int (b : Nat), V.int (0 + (i : Int))]) ht
        have hf2 := sT _ _ hf1
        refine ⟨f, _, _, rfl, rfl, hf2, szl (by rw [List.length_map]; omega), ?_⟩
        -- begin = place; pages = []
        refine ⟨_, rfl, szd rfl, fun y hy => ?_⟩
        have yf : y ≠ f := by intro e; rw [e, upd_same] at hy; cases hy
        have hy1 : upd H1 t (.tup [V.int (b : Nat), V.int (0 + (i : Int))]) y = none := by rw [upd_ne yf] at hy; exact hy
        have hyH : H y = none := Same.back (s3.trans sT) hy1
        have s5 : Same H (upd (upd (upd H1 t (.tup [V.int (b : Nat), V.int (0 + (i : Int))])) f (.lst (as.map V.ref ++ [V.ref t]))) y (.lst [])) := Same.put (Same.put (s3.trans sT) hf) hyH
        -- pages.append(row[place])
        refine ⟨_, rfl, _, rfl, r, _, _, _, rfl, rfl, s5.seq hS, hat, _, rfl, y, _, rfl, .inl (SqL.of upd_same), rfl, flat_il [], _, rfl, ?_⟩
        refine ifT (by rw [if_pos rfl]; exact congrArg not (inV_il p [])) ?_
        refine ⟨_, rfl, .inl ⟨rfl, _, SqL.of upd_same⟩, _, rfl, _, rfl, r, _, _, _, rfl, rfl, s5.seq hS, hat, y, _, _, rfl, rfl, upd_same, szl (by simp), ?_⟩
        rw [upd_upd]
        refine ⟨y, as ++ [t], i, ⟨_, by rw [Int.zero_add]; rfl⟩, Same.put (Same.put (s3.trans sT) hf) hyH, ?_, ?_, yf, hyH, upd_same, .inr ⟨Nat.succ_pos _, B.bs, rfl⟩⟩
        · rw [upd_ne (Ne.symm yf), upd_same, List.map_append]; rfl
        · show PairsAt _ _ (consec (B.bs ++ [i]))
          rw [hz, consec_snoc, ← hz]
          have q1 := (hp1.same sT).snoc (t := t) (x := (b, i)) (by rw [upd_same, Int.zero_add])
          have q2 := q1.put (o' := .lst (as.map V.ref ++ [V.ref t])) hf2 (by intro u z; cases z)
          exact q2.but (S := [y]) (But.put (by simp)) (fun c hc u => by rw [List.mem_singleton.mp hc, upd_ne yf, hy1]; intro z; cases z)
      · refine ifF (decide_eq_false (by intro z; injection z with z; rw [il_len] at z; omega)) ?_
        refine ⟨_, rfl, _, rfl, r, _, _, _, rfl, rfl, hS1, hat, _, rfl, q, _, rfl, .inl (SqL.of hq1), rfl, flat_il _, _, rfl, ?_⟩
        refine ifT (by rw [e1]; simp [hin]) ?_
        refine ⟨_, rfl, .inl ⟨rfl, _, SqL.of hq1⟩, _, rfl, _, rfl, r, _, _, _, rfl, rfl, hS1, hat, q, _, _, rfl, rfl, hq1, szl (by rw [il_len]; omega), ?_⟩
        rw [il_snoc]
        have hf2 : upd H1 q (.lst (il (B.ps ++ [p]))) f = some (.lst (as.map V.ref)) := by rw [upd_ne (Ne.symm qf)]; exact hf1
        have hp2 := hp1.put (o' := .lst (il (B.ps ++ [p]))) hq1 (by intro u z; cases z)
        rcases hb with ⟨h0, z1, z2, z3⟩ | ⟨h0, z⟩
        · rw [if_pos (.inl h0)]
          refine ⟨q, as, b, ⟨_, rfl⟩, Same.put s3 hq, hf2, ?_, qf, hq, by rw [upd_same, z2]; rfl, .inr ⟨Nat.succ_pos _, [], by rw [z1, z3, h0]⟩⟩
          rw [z1, h0]
          rw [z1] at hp2
          exact hp2
        · rw [if_neg (by intro z; rcases z with z | z; · omega
                         · exact hn z)]
          exact ⟨q, as, b, ⟨_, rfl⟩, Same.put s3 hq, hf2, hp2, qf, hq, upd_same, .inr ⟨Nat.succ_pos _, z⟩⟩
    · rintro σ H1 ⟨q, as, b, ⟨v5, rfl⟩, s3, hf1, hp1, qf, hq, hq1, hb⟩
      have e0 : ((il row).length : Int).toNat = row.length := by rw [il_len]; omega
      rw [e0] at hp1 hb hq1
      have hbl := begins_le n.toNat row
      have hal : as.length ≤ 100 := by
        rw [hp1.len]
        exact Nat.le_trans (consec_le _) (Nat.le_trans hbl hR1)
      -- found + [(begin, len(row))] * int(row != [])
      refine ⟨_, rfl, _, rfl, _, rfl, r, _, rfl, .inl (s3.seq hS), szd rfl, fun t ht => ⟨szd rfl, fun e he => ?_⟩⟩
      have sT := Same.new (o := .tup [V.int (b : Nat), V.int ((il row).length : Int)]) ht
      have sE := Same.new (o := .lst [V.ref t]) he
      refine ⟨_, rfl, szd rfl, fun y hy => ?_⟩
      have sY := Same.new (o := .lst []) hy
      have s5 := ((s3.trans sT).trans sE).trans sY
      refine ⟨pd row, pd [], dp_il (s5.seq hS), dp_il (ns := []) (SqL.of upd_same), shaped_il _, shaped_il _, .inr ⟨_, rfl, e, _, _, rfl, rfl, sY _ _ upd_same, ?_, ?_, ?_, fun u hu' => ?_⟩⟩
      · rw [eqv_il]; split <;> decide
      · rw [eqv_il]; split <;> decide
      · rw [eqv_il]; split <;> exact szd rfl
      have hf5 : upd (upd (upd H1 t (.tup [V.int (b : Nat), V.int ((il row).length : Int)])) e (.lst [V.ref t])) y (.lst []) f = some (.lst (as.map V.ref)) := (sT.trans (sE.trans sY)) _ _ hf1
      have ht5 : upd (upd (upd H1 t (.tup [V.int (b : Nat), V.int ((il row).length : Int)])) e (.lst [V.ref t])) y (.lst []) t = some (.tup [V.int (b : Nat), V.int ((il row).length : Int)]) := (sE.trans sY) _ _ upd_same
      have hp5 := hp1.same (sT.trans (sE.trans sY))
      generalize hH5 : upd (upd (upd H1 t (.tup [V.int (b : Nat), V.int ((il row).length : Int)])) e (.lst [V.ref t])) y (.lst []) = H5 at *
      rw [eqv_il]
      by_cases hr : row = []
      · -- nothing is asked for
        have eL : (List.replicate (Int.toNat (if (!decide (row = [])) = true then 1 else 0)) [V.ref t]).flatten = [] := by rw [decide_eq_true hr]; rfl
        rw [eL]
        have sU := Same.new (o := .lst []) hu'
        refine ⟨f, u, _, _, rfl, rfl, sU _ _ hf5, upd_same, sz (by rw [List.length_map]; simp; omega), fun o ho => ?_⟩
        have sO := Same.new (o := .lst (as.map V.ref ++ [])) ho
        refine k o as _ (Same.back (s5.trans sU) ho) ((s5.trans sU).trans sO) (by rw [upd_same, List.append_nil]) ?_
        have ep : parts n.toNat row = consec (bgTo n.toNat row row.length).bs := by rw [hr]; rfl
        rw [ep]
        exact hp5.same (sU.trans sO)
      · have eL : (List.replicate (Int.toNat (if (!decide (row = [])) = true then 1 else 0)) [V.ref t]).flatten = [V.ref t] := by rw [decide_eq_false hr]; rfl
        rw [eL]
        have sU := Same.new (o := .lst [V.ref t]) hu'
        refine ⟨f, u, _, _, rfl, rfl, sU _ _ hf5, upd_same, sz (by rw [List.length_map]; simp; omega), fun o ho => ?_⟩
        have sO := Same.new (o := .lst (as.map V.ref ++ [V.ref t])) ho
        have hz : ∃ z, begins n.toNat row = z ++ [b] := by
          rcases hb with ⟨z, _⟩ | ⟨_, z⟩
          · exact absurd (List.length_eq_zero_iff.mp z) hr
          · exact z
        obtain ⟨z, hz⟩ := hz
        refine k o (as ++ [t]) _ (Same.back (s5.trans sU) ho) ((s5.trans sU).trans sO) (by rw [upd_same, List.map_append]; rfl) ?_
        rw [parts_consec hz]
        refine (hp5.same (sU.trans sO)).snoc ?_
        have := (sU.trans sO) _ _ ht5
        rw [il_len] at this
        exact this
end
end CK

/-! The law of the stretches. -/
namespace CK
open PySem PySem.Spec PyProof.Rows L2
theorem rl_menu {r : Int} (h0 : 0 ≤ r) (h1 : r < 3) : ∃ rule : Rl, atI [V.str "hand", V.str "unseen", V.str "first"] r = some (V.str rule.s) := by
  obtain ⟨j, rfl⟩ : ∃ j : Nat, r = (j : Int) := ⟨r.toNat, by omega⟩
  have hj : j < 3 := by omega
  match j, hj with
  | 0, _ => exact ⟨.hand, rfl⟩
  | 1, _ => exact ⟨.unseen, rfl⟩
  | 2, _ => exact ⟨.first, rfl⟩
section
variable {P : Program} {w : World} {K : PySem.W.Frag} {mg : Str → Option Value} {base : Heap}
theorem sc_law : FnScope ["_law_script", "_law_box", "_law_turn", "_law_rooms", "_law_row_here", "_law_due", "_law_rule", "_law_lacks_here", "_law_counts", "_law_handed", "_law_again", "_law_found", "_law_begin", "_law_end", "_law_place"] ["_law_script"] (defScope (top 38)) := ⟨rfl, rfl, rfl, by decide +kernel, rfl, by decide +kernel, by decide +kernel⟩
theorem ok_law (T : Prog K mg) {es : Array DictEntry} {nd : Nat} (TB_RULES : KDict K w T.a_RULES es nd) {f : Addr} {fd : FuncData} (F : FunD K "law" "law" (defArgs (top 38)) (defBody (top 38)) (defScope (top 38)) [] [] f fd) : FnOk P w K mg base CX0 8 f fd ["_law_script"] (spLaw K) := by
  have G_law_begun := ok_law_begun (P := P) (w := w) (base := base) T
  have G_law_row := ok_law_row (P := P) (w := w) (base := base) T
  have G_law_parts := ok_law_parts (P := P) (w := w) (base := base) T
  have G_law_lacks := ok_law_lacks (P := P) (w := w) (base := base) T
  have G_law_take := ok_law_take (P := P) (w := w) (base := base) T
  have G_stretches := ok_stretches (P := P) (w := w) (base := base) T
  have G_lacking_in := ok_lacking_in (P := P) (w := w) (base := base) T TB_RULES
  have G_law_alike := ok_alike (P := P) (w := w) (base := base) T 5
  refine F.ok sc_law (fun vs H Q E h => ?len) (fun cdv A outer s H vs Q E hr h => ?body)
  case len =>
    obtain ⟨a, ns, rfl, _⟩ := h
    rfl
  case body =>
    have hr_law_begun : Room 1 _ := hr.mono (by decide)
    have hr_law_row : Room 2 _ := hr.mono (by decide)
    have hr_law_parts : Room 1 _ := hr.mono (by decide)
    have hr_law_lacks : Room 2 _ := hr.mono (by decide)
    have hr_law_take : Room 1 _ := hr.mono (by decide)
    have hr_stretches : Room 3 _ := hr.mono (by decide)
    have hr_lacking_in : Room 7 _ := hr.mono (by decide)
    have hr_law_alike : Room 5 _ := hr.mono (by decide)
    have hu := hu_of hr
    obtain ⟨a, ns, rfl, hS, hl63, k⟩ := h
    refine ⟨_, PSs.nox (pss_cons (ps_set (i := 1) sc_law.nd rfl (Or.inl rfl) (pe_call G_law_begun hr_law_begun (by rfl) T.law_begun.g T.law_begun.fn.kp T.law_begun.bd .nil pass0 (pa_cons (pv 0) pa_nil)))
        (pss_cons (ps_for PassesOwn.never rfl (pi_range1 (by rfl) T.range (pa_cons pe_int pa_nil)) (pg_name (i := 2) sc_law.nd rfl (Or.inl rfl))
        (pss_cons (ps_set (i := 3) sc_law.nd rfl (Or.inl rfl) (pe_op op_add pe_int (pe_call G_law_take hr_law_take (by rfl) T.law_take.g T.law_take.fn.kp T.law_take.bd .nil pass0 (pa_cons (pv 1) (pa_cons pe_int pa_nil)))))
        (pss_cons (ps_set (i := 4) sc_law.nd rfl (Or.inl rfl) (pe_call G_law_row hr_law_row (by rfl) T.law_row.g T.law_row.fn.kp T.law_row.bd .nil pass0 (pa_cons (pv 1) (pa_cons pe_int pa_nil))))
        (pss_cons (ps_set (i := 5) sc_law.nd rfl (Or.inl rfl) (pe_call G_law_parts hr_law_parts (by rfl) T.law_parts.g T.law_parts.fn.kp T.law_parts.bd .nil pass0 (pa_cons (pv 3) (pa_cons (pv 4) pa_nil))))
        (pss_cons (ps_set (i := 6) sc_law.nd rfl (Or.inl rfl) (pe_ix ix_list (pe_lst (pa_cons pe_str (pa_cons pe_str (pa_cons pe_str pa_nil)))) (pe_call G_law_take hr_law_take (by rfl) T.law_take.g T.law_take.fn.kp T.law_take.bd .nil pass0 (pa_cons (pv 1) (pa_cons pe_int pa_nil))) (fun _ _ => rfl)))
        (pss_cons (ps_set (i := 7) sc_law.nd rfl (Or.inr rfl) (pe_call G_law_lacks hr_law_lacks (by rfl) T.law_lacks.g T.law_lacks.fn.kp T.law_lacks.bd .nil pass0 (pa_cons (pv 3) (pa_cons (pv 4) (pa_cons (pv 6) pa_nil)))))
        (pss_cons (ps_setLc (i := 8) (own := [("_law_begin", 12), ("_law_end", 13)]) (g := gTup K 2 (gCons (gName 12) (gCons (gName 13) gNil))) (tt := tYes) (te := (tCB (rLenQ K) (tCons (tLc (iList K (tVar 7)) (gName 14) _ (tVar 14) [14]) tNil))) rfl sc_law.nd rfl rfl (sw_true rfl rfl rfl (by decide +kernel)) ((pi_list (pv 5))) (blkOk_by (own := [("_law_begin", 12), ("_law_end", 13)]) (N := ["_law_script", "_law_box", "_law_turn", "_law_rooms", "_law_row_here", "_law_due", "_law_rule", "_law_lacks_here", "_law_counts", "_law_handed", "_law_again", "_law_found", "_law_begin", "_law_end", "_law_place"]) (sc := defScope (top 38)) (by decide +kernel)) (fun _ _ _ _ _ => (by exact (pg_tup rfl (pgs_cons (pg_name (i := 12) sc_law.nd rfl (Or.inr rfl)) (pgs_cons (pg_name (i := 13) sc_law.nd rfl (Or.inr rfl)) pgs_nil))))) (fun _ _ _ _ _ => (by exact pts_nil)) (fun _ _ _ _ _ => (by exact (pe_callB call_len_seq (by rfl) T.len PySem.boot_len (pa_cons (pe_lc (own := [("_law_place", 14)]) (g := gName 14) rfl sc_law.nd ((pi_list (pv 7))) (blkOk_by (own := [("_law_place", 14)]) (by kernel_rfl)) (fun _ _ _ _ _ => (by exact (pg_name (i := 14) sc_law.nd rfl (Or.inl rfl)))) (fun _ _ _ _ _ => (by exact (pts_one (pt_chain op_le op_lt (pv 12) (pv 14) (pv 13))))) (fun _ _ _ _ _ => (by exact (pv 14)))) pa_nil)))))
        (pss_cons (ps_set (i := 9) sc_law.nd rfl (Or.inl rfl) (pe_callTy call_list_of (by rfl) T.list_ (by decide +kernel) (pa_cons (pv 4) pa_nil)))
        (pss_one (ps_for PassesOwn.never rfl (pi_range1 (by rfl) T.range (pa_cons pe_int pa_nil)) (pg_name (i := 10) sc_law.nd rfl (Or.inl rfl))
        (pss_cons (ps_set (i := 11) sc_law.nd rfl (Or.inl rfl) (pe_lst (pa_cons (pe_call G_stretches hr_stretches (by rfl) T.stretches.g T.stretches.fn.kp T.stretches.bd .nil pass0 (pa_cons (pv 3) (pa_cons (pv 9) pa_nil))) (pa_cons (pe_call G_lacking_in hr_lacking_in (by rfl) T.lacking_in.g T.lacking_in.fn.kp T.lacking_in.bd .nil pass0 (pa_cons (pv 3) (pa_cons (pv 9) (pa_cons (pv 6) pa_nil)))) pa_nil))))
        (pss_cons (ps_if (PW.pt (pw_or (pt_not (pt_val (pe_call G_law_alike hr_law_alike (by rfl) T.law_alike.g T.law_alike.fn.kp T.law_alike.bd .nil pass0 (pa_cons (pv 11) (pa_cons (pe_lst (pa_cons (pv 5) (pa_cons (pv 8) pa_nil))) pa_nil))))) (pw_or1 (pt_cmpR (op_neD hr.units) (pv 9) (pv 4) (nomark _)))))
        (pss_one (ps_ret pe_bl))
        pss_nil)
        (pss_cons (ps_expr (pe_bm PySem.F.plainAttrs_list PySem.F.slot_list_append PySem.F.type_list_append mt_append (pe_ix ix_list (pv 11) pe_int (fun _ _ => rfl)) (pa_cons (pe_tup pa_nil) pa_nil)))
        (pss_one (ps_expr (pe_bm PySem.F.plainAttrs_list PySem.F.slot_list_append PySem.F.type_list_append mt_append (pe_ix ix_list (pv 11) pe_int (fun _ _ => rfl)) (pa_cons pe_int pa_nil)))))))))))))))))
        (pss_one (ps_ret pe_bl)))), ?_⟩
    refine ⟨_, rfl, a, ns, rfl, hS, hl63, fun b l H1 hb hl s1 B1 => ?_⟩
    refine ⟨3, rfl, by decide, by decide, for_range (lo := 0) (n := 3) (fun i σ H' => (∃ v2 v3 v4 v5 v6 v7 v8 v9 v10 v11 v12 v13 v14 : Option V, σ = [some (.ref a), some (.ref b), v2, v3, v4, v5, v6, v7, v8, v9, v10, v11, v12, v13, v14]) ∧ BoxAt H' b l) ⟨⟨_, _, _, _, _, _, _, _, _, _, _, _, _, rfl⟩, B1⟩ ?_ ?_⟩
    · rintro i σ H2 hi ⟨⟨v2, v3, v4, v5, v6, v7, v8, v9, v10, v11, v12, v13, v14, rfl⟩, B2⟩
      refine ⟨_, rfl, b, l, 8, rfl, B2, by decide, by decide, fun r0 H3 r00 r01 k3 B3 => ⟨_, _, rfl, rfl, ?_⟩⟩
      refine ⟨_, rfl, b, l, 100, rfl, B3, by decide, by decide, fun row r H4 hr4 hrow hlen k4 hrr B4 => ?_⟩
      have hR : RowOk row := ⟨by omega, hrow⟩
      have hR1 := hR.1
      have bl4 : r ∉ [b, l] := B3.off hr4
      -- due
      refine ⟨_, rfl, _, rfl, 1 + r0, r, row, rfl, by omega, by omega, SqL.of hrr, hR, fun d as H5 hd4 s5 hd5 hp5 => ?_⟩
      have B5 := B4.same s5
      have dS : d ∉ [b, l] := B4.off hd4
      -- rule
      refine ⟨szd rfl, fun m hm => ?_⟩
      have sM := Same.new (o := .lst [V.str "hand", V.str "unseen", V.str "first"]) hm
      have mS : m ∉ [b, l] := B5.off hm
      refine ⟨_, rfl, b, l, 3, rfl, B5.same sM, by decide, by decide, fun r1 H6 r10 r11 k6 B6 => ?_⟩
      obtain ⟨rule, hrule⟩ := rl_menu r10 r11
      refine ⟨m, _, _, _, rfl, rfl, SqL.of (k6 _ _ upd_same mS), hrule, ?_⟩
      have hr6 := k6 _ _ (sM _ _ (s5 _ _ hrr)) bl4
      have hd6 := k6 _ _ (sM _ _ hd5) dS
      have hp6 := (hp5.same sM).but k6 (B5.same sM).notup
      -- lacks
      refine ⟨_, rfl, _, rfl, _, rfl, 1 + r0, r, row, rule, rfl, by omega, by omega, SqL.of hr6, hR, fun c H7 hc6 s7 hc7 => ?_⟩
      have hll := lacksR_le (1 + r0).toNat rule row
      have hpl := parts_le (1 + r0).toNat row
      generalize hL : lacksR (1 + r0).toNat rule row = ls at *
      have hd7 := s7 _ _ hd6
      have hp7 := hp6.same s7
      -- counts
      refine ⟨_, rfl, d, rfl, ⟨_, SqL.of hd7⟩, fun D hD => ?_⟩
      have nD : ∀ {c : Addr} {o : HO}, H7 c = some o → c ≠ D := fun q => ne_fresh q hD
      refine lc_list (K := K) (a := d) (xs := as.map V.ref) (fun i H' => H' D = some (.lst (NL (countIn ls ((parts (1 + r0).toNat row).take i)))) ∧ Same H7 H') ⟨upd_same, Same.new hD⟩ (fun i H' _ h => SqL.of (h.2 _ _ hd7)) ?_ ?_
      · rintro j y H8 hy ⟨hD3, s3⟩
        rw [List.getElem?_map] at hy
        cases ea : as[j]? with
        | none => rw [ea] at hy; cases hy
        | some t0 =>
          rw [ea] at hy
          have ey := Option.some.inj hy
          subst ey
          have hj : j < (parts (1 + r0).toNat row).length := by rw [← hp7.len]; exact (List.getElem?_eq_some_iff.mp ea).1
          have ex : (parts (1 + r0).toNat row)[j]? = some ((parts (1 + r0).toNat row)[j]'hj) := List.getElem?_eq_getElem hj
          have ha := s3 _ _ (hp7.at_ j t0 _ ea ex)
          rw [countIn_snoc ex]
          generalize (parts (1 + r0).toNat row)[j]'hj = x at *
          refine ⟨t0, _, rfl, SqT.of ha, rfl, _, _, rfl, _, _, rfl, rfl, ⟨rfl, ?_⟩⟩
          have hl3 := s3 _ _ hc7
          refine ⟨_, rfl, c, rfl, ⟨_, SqL.of hl3⟩, fun E hE => ?_⟩
          refine lc_list (K := K) (a := c) (xs := NL ls) (fun t H' => H' E = some (.lst (NL ((ls.take t).filter fun z => decide (x.1 ≤ z) && decide (z < x.2)))) ∧ Same H8 H') ⟨upd_same, Same.new hE⟩ (fun t H' _ h => SqL.of (h.2 _ _ hl3)) ?_ ?_
          · rintro t y H9 hy ⟨hE4, s4⟩
            obtain ⟨z, hz, rfl⟩ := NL_at hy
            have hle := List.length_filter_le (fun z => decide (x.1 ≤ z) && decide (z < x.2)) (ls.take t)
            rw [List.length_take] at hle
            rw [take_snoc hz, List.filter_append]
            refine ⟨rfl, _, rfl, _, rfl, _, _, rfl, rfl, _, rfl, ?_⟩
            by_cases c1 : x.1 ≤ z
            · refine ifT (decide_eq_true (by omega)) ⟨_, rfl, _, _, rfl, rfl, _, rfl, ?_⟩
              by_cases c2 : z < x.2
              · refine ifT (decide_eq_true (by omega)) ⟨_, rfl, _, hE4, szl (by rw [List.length_map]; omega), ?_, Same.put s4 hE⟩
                rw [upd_same, NL_snoc]
                simp [c1, c2]
              · refine ifF (decide_eq_false (by omega)) ⟨?_, s4⟩
                simpa [c1, c2] using hE4
            · refine ifF (decide_eq_false (by omega)) ⟨_, rfl, iteF ⟨?_, s4⟩⟩
              simpa [c1] using hE4
          · rintro H9 ⟨hE4, s4⟩
            rw [List.take_of_length_le (by simp)] at hE4
            have hcl : (countIn ls ((parts (1 + r0).toNat row).take j)).length ≤ j := by
              unfold countIn
              rw [List.length_map, List.length_take]
              omega
            refine ⟨E, _, rfl, .inl (SqL.of hE4), _, s4 _ _ hD3, szl (by rw [List.length_map]; omega), ?_, Same.put (s3.trans s4) hD⟩
            rw [upd_same, List.length_map, NL_snoc]
      · rintro H8 ⟨hD8, s8⟩
        rw [List.take_of_length_le (by rw [List.length_map, hp7.len]; exact Nat.le_refl _)] at hD8
        have hcl : (countIn ls (parts (1 + r0).toNat row)).length ≤ 100 := by
          unfold countIn
          rw [List.length_map]
          omega
        -- handed
        refine ⟨_, rfl, r, _, rfl, .inl (SqL.of (s8 _ _ (s7 _ _ hr6))), fun hd hhd => ?_⟩
        have sH := Same.new (o := .lst (il row)) hhd
        let St : Hp → Prop := fun H' => BoxAt H' b l ∧ H' r = some (.lst (il row)) ∧ H' hd = some (.lst (il row)) ∧ H' d = some (.lst (as.map V.ref)) ∧ PairsAt H' as (parts (1 + r0).toNat row) ∧ H' D = some (.lst (NL (countIn ls (parts (1 + r0).toNat row))))
        have St0 : St (upd H8 hd (.lst (il row))) := ⟨((B6.same s7).same s8).same sH, sH _ _ (s8 _ _ (s7 _ _ hr6)), upd_same, sH _ _ (s8 _ _ hd7), (hp7.same s8).same sH, sH _ _ hD8⟩
        have StS : ∀ {H' H'' : Hp}, St H' → Same H' H'' → St H'' := fun h s => ⟨h.1.same s, s _ _ h.2.1, s _ _ h.2.2.1, s _ _ h.2.2.2.1, h.2.2.2.2.1.same s, s _ _ h.2.2.2.2.2⟩
        refine ⟨2, rfl, by decide, by decide, for_range (lo := 0) (n := 2) (fun j σ H' => (∃ v10 v11 v12 v13 v14 : Option V, σ = [some (.ref a), some (.ref b), some (.int (0 + (i : Int))), some (.int (1 + r0)), some (.ref r), some (.ref d), some (.str rule.s), some (.ref c), some (.ref D), some (.ref hd), v10, v11, v12, v13, v14]) ∧ St H') ⟨⟨_, _, _, _, _, rfl⟩, St0⟩ ?_ ?_⟩
        · rintro j σ H9 hj ⟨⟨v10, v11, v12, v13, v14, rfl⟩, S9⟩
          -- found = [stretches(..), lacking_in(..)]
          refine ⟨_, rfl, _, rfl, 1 + r0, hd, row, rfl, by omega, by omega, SqL.of S9.2.2.1, hR, fun f1 fs H10 hf1 s10 hf10 hpf10 => ?_⟩
          have S10 := StS S9 s10
          refine ⟨_, rfl, _, rfl, _, rfl, 1 + r0, hd, row, rule, rfl, by omega, by omega, SqL.of S10.2.2.1, hR, fun f2 H11 hf2 s11 hf11 => ?_⟩
          rw [hL] at hf11
          have S11 := StS S10 s11
          refine ⟨szd rfl, fun fo hfo => ?_⟩
          have sF := Same.new (o := .lst [V.ref f1, V.ref f2]) hfo
          have S12 := StS S11 sF
          -- [due, counts]
          refine ⟨_, rfl, _, rfl, _, rfl, szd rfl, fun du hdu => ?_⟩
          have sD := Same.new (o := .lst [V.ref d, V.ref D]) hdu
          have S13 := StS S12 sD
          have g1 := sD _ _ (sF _ _ (s11 _ _ hf10))
          have gp := ((hpf10.same s11).same sF).same sD
          have g2 := sD _ _ (sF _ _ hf11)
          have gD := S13.2.2.2.2.2
          have go := sD _ _ (upd_same (H := H11) (a := fo) (o := .lst [V.ref f1, V.ref f2]))
          have hfl : fs.length ≤ 100 := by rw [hpf10.len]; omega
          have n12 : f1 ≠ f2 := ne_fresh (hf10) hf2
          have nfo : ∀ {c : Addr} {o : HO}, H9 c = some o → c ≠ f1 ∧ c ≠ f2 := fun q => ⟨ne_fresh q hf1, ne_fresh (s10 _ _ q) hf2⟩
          have go1 : fo ≠ f1 := Ne.symm (ne_fresh (s11 _ _ hf10) hfo)
          have go2 : fo ≠ f2 := Ne.symm (ne_fresh hf11 hfo)
          rw [NL_il] at gD
          have g2' := g2
          rw [NL_il] at g2'
          refine ⟨_, _, .list [pds (parts (1 + r0).toNat row), pd ((countIn ls (parts (1 + r0).toNat row)).map fun n : Nat => (n : Int))], rfl, .lst (SqL.of go) (.cons (dp_pairs (SqL.of g1) gp) (.cons (dp_il (SqL.of g2')) .nil)), .lst (SqL.of upd_same) (.cons (dp_pairs (SqL.of S13.2.2.2.1) S13.2.2.2.2.1) (.cons (dp_il (SqL.of gD)) .nil)), ?_, ⟨by show 2 ≤ 1000; decide, small_pds (by omega), small_pd (by rw [List.length_map]; omega), trivial⟩, _, rfl, ?_⟩
          · show PyData.depthAll [_, _] + 1 < 5
            have q1 := depth_pds (parts (1 + r0).toNat row)
            have q2 := depth_pd ((countIn ls (parts (1 + r0).toNat row)).map fun n : Nat => (n : Int))
            show max (PyData.depth _) (max (PyData.depth _) 0) + 1 < 5
            omega
          refine iteF ⟨_, rfl, _, rfl, pd row, pd row, dp_il (SqL.of S13.2.2.1), dp_il (SqL.of S13.2.1), shaped_il _, shaped_il _, _, rfl, ?_⟩
          rw [eqv_il]
          refine ifF (by simp) ?_
          -- found[0].append(())
          refine ⟨_, rfl, fo, _, _, V.ref f1, rfl, rfl, SqL.of go, atI_nat (j := 0) rfl, .inl ⟨rfl, _, SqL.of g1⟩, szd rfl, fun t ht => ?_⟩
          have sT := Same.new (o := .tup []) ht
          have S14 := StS S13 sT
          refine ⟨f1, _, _, rfl, rfl, sT _ _ g1, szl (by rw [List.length_map]; omega), ?_⟩
          -- found[1].append(0)
          refine ⟨_, rfl, fo, _, _, V.ref f2, rfl, rfl, SqL.of (by rw [upd_ne go1]; exact sT _ _ go), atI_nat (j := 1) rfl, .inl ⟨rfl, _, SqL.of (by rw [upd_ne (Ne.symm n12)]; exact sT _ _ g2)⟩, f2, _, _, rfl, rfl, by rw [upd_ne (Ne.symm n12)]; exact sT _ _ g2, szl (by rw [List.length_map]; omega), ?_⟩
          refine ⟨⟨_, _, _, _, _, rfl⟩, ?_, ?_, ?_, ?_, ?_, ?_⟩
          · obtain ⟨_, _, q1, q2, _⟩ := S9.1.ex
            exact (S14.1.but (S := [f1]) (But.put (by simp)) (by simp [(nfo q1).1]) (by simp [(nfo q2).1])).but (S := [f2]) (But.put (by simp)) (by simp [(nfo q1).2]) (by simp [(nfo q2).2])
          · rw [upd_ne (nfo S9.2.1).2, upd_ne (nfo S9.2.1).1]; exact S14.2.1
          · rw [upd_ne (nfo S9.2.2.1).2, upd_ne (nfo S9.2.2.1).1]; exact S14.2.2.1
          · rw [upd_ne (nfo S9.2.2.2.1).2, upd_ne (nfo S9.2.2.2.1).1]; exact S14.2.2.2.1
          · exact (S14.2.2.2.2.1.put (sT _ _ g1) (by intro u z; cases z)).put (o := .lst (NL (countIn ls (parts (1 + r0).toNat row)))) (by rw [upd_ne (Ne.symm n12)]; exact sT _ _ g2) (by intro u z; cases z)
          · rw [upd_ne (nfo S9.2.2.2.2.2).2, upd_ne (nfo S9.2.2.2.2.2).1]; exact S14.2.2.2.2.2
        · rintro σ H9 ⟨⟨v10, v11, v12, v13, v14, rfl⟩, S9⟩
          exact ⟨⟨_, _, _, _, _, _, _, _, _, _, _, _, _, rfl⟩, S9.1⟩
    · rintro σ H' ⟨_, _⟩
      exact k H'
end
end CK

namespace CK
open PySem PySem.Spec PyProof.Rows L2
/-! ### the head: facts by names, one run of the top -/
def fn : List He.DefD := [
  ⟨("check_rooms", none), "check_rooms", "check_rooms", defArgs (top 10), defBody (top 10), defScope (top 10), [], []⟩,
  ⟨("is_page", none), "is_page", "is_page", defArgs (top 11), defBody (top 11), defScope (top 11), [], []⟩,
  ⟨("check_page", none), "check_page", "check_page", defArgs (top 12), defBody (top 12), defScope (top 12), [], []⟩,
  ⟨("check_row", none), "check_row", "check_row", defArgs (top 13), defBody (top 13), defScope (top 13), [], []⟩,
  ⟨("_by_hand", none), "_by_hand", "_by_hand", defArgs (top 17), defBody (top 17), defScope (top 17), [], []⟩,
  ⟨("_by_unseen", none), "_by_unseen", "_by_unseen", defArgs (top 18), defBody (top 18), defScope (top 18), [], []⟩,
  ⟨("_by_first", none), "_by_first", "_by_first", defArgs (top 19), defBody (top 19), defScope (top 19), [], []⟩,
  ⟨("_by_line", none), "_by_line", "_by_line", defArgs (top 20), defBody (top 20), defScope (top 20), [], []⟩,
  ⟨("check_rule", none), "check_rule", "check_rule", defArgs (top 22), defBody (top 22), defScope (top 22), [], []⟩,
  ⟨("lacking", none), "lacking", "lacking", defArgs (top 23), defBody (top 23), defScope (top 23), [], []⟩,
  ⟨("find_lacks", none), "find_lacks", "find_lacks", defArgs (top 24), defBody (top 24), defScope (top 24), [], []⟩,
  ⟨("stretches", none), "stretches", "stretches", defArgs (top 26), defBody (top 26), defScope (top 26), [], []⟩,
  ⟨("lacking_in", none), "lacking_in", "lacking_in", defArgs (top 27), defBody (top 27), defScope (top 27), [], []⟩,
  ⟨("_begins", none), "_begins", "_begins", defArgs (top 28), defBody (top 28), defScope (top 28), [], []⟩,
  ⟨("_law_begun", none), "_law_begun", "_law_begun", defArgs (top 30), defBody (top 30), defScope (top 30), [], []⟩,
  ⟨("_law_take", none), "_law_take", "_law_take", defArgs (top 31), defBody (top 31), defScope (top 31), [], []⟩,
  ⟨("_law_alike", none), "_law_alike", "_law_alike", defArgs (top 32), defBody (top 32), defScope (top 32), [], []⟩,
  ⟨("_law_row", none), "_law_row", "_law_row", defArgs (top 33), defBody (top 33), defScope (top 33), [], []⟩,
  ⟨("_law_dial", none), "_law_dial", "_law_dial", defArgs (top 34), defBody (top 34), defScope (top 34), [], []⟩,
  ⟨("_law_ask", none), "_law_ask", "_law_ask", defArgs (top 35), defBody (top 35), defScope (top 35), [], []⟩,
  ⟨("_law_lacks", none), "_law_lacks", "_law_lacks", defArgs (top 36), defBody (top 36), defScope (top 36), [], []⟩,
  ⟨("_law_parts", none), "_law_parts", "_law_parts", defArgs (top 37), defBody (top 37), defScope (top 37), [], []⟩,
  ⟨("law", none), "law", "law", defArgs (top 38), defBody (top 38), defScope (top 38), [], []⟩,
  ⟨("Dial", some "__init__"), "__init__", "Dial.__init__", defArgs (inClass (top 15) 0), defBody (inClass (top 15) 0), defScope (inClass (top 15) 0), [], []⟩,
  ⟨("Dial", some "ask"), "ask", "Dial.ask", defArgs (inClass (top 15) 1), defBody (inClass (top 15) 1), defScope (inClass (top 15) 1), [], []⟩,
  ⟨("Dial", some "pages"), "pages", "Dial.pages", defArgs (inClass (top 15) 2), defBody (inClass (top 15) 2), defScope (inClass (top 15) 2), [], []⟩,
  ⟨("Dial", some "points"), "points", "Dial.points", defArgs (inClass (top 15) 4), defBody (inClass (top 15) 4), defScope (inClass (top 15) 4), [], []⟩,
  ⟨("Dial", some "_pass_marked"), "_pass_marked", "Dial._pass_marked", defArgs (inClass (top 15) 6), defBody (inClass (top 15) 6), defScope (inClass (top 15) 6), [], []⟩,
  ⟨("Dial", some "_exchange"), "_exchange", "Dial._exchange", defArgs (inClass (top 15) 7), defBody (inClass (top 15) 7), defScope (inClass (top 15) 7), [], []⟩,
  ⟨("Dial", some "_go_on"), "_go_on", "Dial._go_on", defArgs (inClass (top 15) 8), defBody (inClass (top 15) 8), defScope (inClass (top 15) 8), [], []⟩]
def fa : List He.Fa := [
  .glo "check_rooms", .glo "is_page", .glo "check_page", .glo "check_row", .glo "_by_hand", .glo "_by_unseen", .glo "_by_first", .glo "_by_line", .glo "check_rule", .glo "lacking", .glo "find_lacks", .glo "stretches", .glo "lacking_in", .glo "_begins", .glo "_law_begun", .glo "_law_take", .glo "_law_alike", .glo "_law_row", .glo "_law_dial", .glo "_law_ask", .glo "_law_lacks", .glo "_law_parts", .glo "law", .cls "Dial", .glo "Dial", .noat "Dial" "_hand", .noat "Dial" "_held", .noat "Dial" "_lacks", .noat "Dial" "_marks", .meth "Dial" "__init__", .meth "Dial" "ask", .meth "Dial" "pages", .meth "Dial" "points", .meth "Dial" "_pass_marked", .meth "Dial" "_exchange", .meth "Dial" "_go_on", .mkr "Dial", .int "MOST_ROOMS" 8, .int "PAGES" 12, .int "MOST_ASKS" 100, .free "bool", .free "enumerate", .free "int", .free "isinstance", .free "len", .free "list", .free "min", .free "range", .free "str", .free "tuple", .free "zip", .glo "RULES"]
def tb_RULES : List (Str × He.Dv) := [("hand", .glo "_by_hand"), ("unseen", .glo "_by_unseen"), ("first", .glo "_by_first")]
def xt (K : PySem.W.Frag) : Bool := true && He.valsB K (He.ga K "RULES") tb_RULES
theorem mkProg {K : PySem.W.Frag} {h : Heap} {mg : Str → Option Value} (X : K.In h) (G : h.Ns mainGlobals mg) (c : He.SaysD fa fn K) (cx : xt K = true) : Nonempty (Prog K mg) := by
  have x_RULES : He.valsB K (He.ga K "RULES") tb_RULES = true := (He.ba cx).2
  obtain ⟨_, F0⟩ := c.def_ 0 rfl
  obtain ⟨_, F1⟩ := c.def_ 1 rfl
  obtain ⟨_, F2⟩ := c.def_ 2 rfl
  obtain ⟨_, F3⟩ := c.def_ 3 rfl
  obtain ⟨_, F4⟩ := c.def_ 4 rfl
  obtain ⟨_, F5⟩ := c.def_ 5 rfl
  obtain ⟨_, F6⟩ := c.def_ 6 rfl
  obtain ⟨_, F7⟩ := c.def_ 7 rfl
  obtain ⟨_, F8⟩ := c.def_ 8 rfl
  obtain ⟨_, F9⟩ := c.def_ 9 rfl
  obtain ⟨_, F10⟩ := c.def_ 10 rfl
  obtain ⟨_, F11⟩ := c.def_ 11 rfl
  obtain ⟨_, F12⟩ := c.def_ 12 rfl
  obtain ⟨_, F13⟩ := c.def_ 13 rfl
  obtain ⟨_, F14⟩ := c.def_ 14 rfl
  obtain ⟨_, F15⟩ := c.def_ 15 rfl
  obtain ⟨_, F16⟩ := c.def_ 16 rfl
  obtain ⟨_, F17⟩ := c.def_ 17 rfl
  obtain ⟨_, F18⟩ := c.def_ 18 rfl
  obtain ⟨_, F19⟩ := c.def_ 19 rfl
  obtain ⟨_, F20⟩ := c.def_ 20 rfl
  obtain ⟨_, F21⟩ := c.def_ 21 rfl
  obtain ⟨_, F23⟩ := c.def_ 23 rfl
  obtain ⟨_, F24⟩ := c.def_ 24 rfl
  obtain ⟨_, F25⟩ := c.def_ 25 rfl
  obtain ⟨_, F26⟩ := c.def_ 26 rfl
  obtain ⟨_, F27⟩ := c.def_ 27 rfl
  obtain ⟨_, F28⟩ := c.def_ 28 rfl
  obtain ⟨_, F29⟩ := c.def_ 29 rfl
  obtain ⟨t_MOST_ROOMS, i_MOST_ROOMS⟩ := He.int_ok X G (c.fact 37 rfl)
  obtain ⟨t_PAGES, i_PAGES⟩ := He.int_ok X G (c.fact 38 rfl)
  obtain ⟨t_MOST_ASKS, i_MOST_ASKS⟩ := He.int_ok X G (c.fact 39 rfl)
  exact ⟨{
    check_rooms := ⟨_, _, F0, (FunD.bindsN F0 fun _ _ _ _ _ _ us hl => match us, hl with | [_], _ => rfl), He.glo_ok X G (c.fact 0 rfl)⟩,
    is_page := ⟨_, _, F1, (FunD.bindsN F1 fun _ _ _ _ _ _ us hl => match us, hl with | [_], _ => rfl), He.glo_ok X G (c.fact 1 rfl)⟩,
    check_page := ⟨_, _, F2, (FunD.bindsN F2 fun _ _ _ _ _ _ us hl => match us, hl with | [_], _ => rfl), He.glo_ok X G (c.fact 2 rfl)⟩,
    check_row := ⟨_, _, F3, (FunD.bindsN F3 fun _ _ _ _ _ _ us hl => match us, hl with | [_], _ => rfl), He.glo_ok X G (c.fact 3 rfl)⟩,
    by_hand := ⟨_, _, F4, (FunD.bindsN F4 fun _ _ _ _ _ _ us hl => match us, hl with | [_, _], _ => rfl), He.glo_ok X G (c.fact 4 rfl)⟩,
    by_unseen := ⟨_, _, F5, (FunD.bindsN F5 fun _ _ _ _ _ _ us hl => match us, hl with | [_, _], _ => rfl), He.glo_ok X G (c.fact 5 rfl)⟩,
    by_first := ⟨_, _, F6, (FunD.bindsN F6 fun _ _ _ _ _ _ us hl => match us, hl with | [_, _], _ => rfl), He.glo_ok X G (c.fact 6 rfl)⟩,
    by_line := ⟨_, _, F7, (FunD.bindsN F7 fun _ _ _ _ _ _ us hl => match us, hl with | [_, _, _], _ => rfl), He.glo_ok X G (c.fact 7 rfl)⟩,
    check_rule := ⟨_, _, F8, (FunD.bindsN F8 fun _ _ _ _ _ _ us hl => match us, hl with | [_], _ => rfl), He.glo_ok X G (c.fact 8 rfl)⟩,
    lacking := ⟨_, _, F9, (FunD.bindsN F9 fun _ _ _ _ _ _ us hl => match us, hl with | [_, _, _], _ => rfl), He.glo_ok X G (c.fact 9 rfl)⟩,
    find_lacks := ⟨_, _, F10, (FunD.bindsN F10 fun _ _ _ _ _ _ us hl => match us, hl with | [_, _, _], _ => rfl), He.glo_ok X G (c.fact 10 rfl)⟩,
    stretches := ⟨_, _, F11, (FunD.bindsN F11 fun _ _ _ _ _ _ us hl => match us, hl with | [_, _], _ => rfl), He.glo_ok X G (c.fact 11 rfl)⟩,
    lacking_in := ⟨_, _, F12, (FunD.bindsN F12 fun _ _ _ _ _ _ us hl => match us, hl with | [_, _, _], _ => rfl), He.glo_ok X G (c.fact 12 rfl)⟩,
    begins := ⟨_, _, F13, (FunD.bindsN F13 fun _ _ _ _ _ _ us hl => match us, hl with | [_, _], _ => rfl), He.glo_ok X G (c.fact 13 rfl)⟩,
    law_begun := ⟨_, _, F14, (FunD.bindsN F14 fun _ _ _ _ _ _ us hl => match us, hl with | [_], _ => rfl), He.glo_ok X G (c.fact 14 rfl)⟩,
    law_take := ⟨_, _, F15, (FunD.bindsN F15 fun _ _ _ _ _ _ us hl => match us, hl with | [_, _], _ => rfl), He.glo_ok X G (c.fact 15 rfl)⟩,
    law_alike := ⟨_, _, F16, (FunD.bindsN F16 fun _ _ _ _ _ _ us hl => match us, hl with | [_, _], _ => rfl), He.glo_ok X G (c.fact 16 rfl)⟩,
    law_row := ⟨_, _, F17, (FunD.bindsN F17 fun _ _ _ _ _ _ us hl => match us, hl with | [_, _], _ => rfl), He.glo_ok X G (c.fact 17 rfl)⟩,
    law_dial := ⟨_, _, F18, (FunD.bindsN F18 fun _ _ _ _ _ _ us hl => match us, hl with | [_], _ => rfl), He.glo_ok X G (c.fact 18 rfl)⟩,
    law_ask := ⟨_, _, F19, (FunD.bindsN F19 fun _ _ _ _ _ _ us hl => match us, hl with | [_, _], _ => rfl), He.glo_ok X G (c.fact 19 rfl)⟩,
    law_lacks := ⟨_, _, F20, (FunD.bindsN F20 fun _ _ _ _ _ _ us hl => match us, hl with | [_, _, _], _ => rfl), He.glo_ok X G (c.fact 20 rfl)⟩,
    law_parts := ⟨_, _, F21, (FunD.bindsN F21 fun _ _ _ _ _ _ us hl => match us, hl with | [_, _], _ => rfl), He.glo_ok X G (c.fact 21 rfl)⟩,
    Dial := { C := _, cl := He.cls_ok (c.fact 23 rfl), g := He.glo_ok X G (c.fact 24 rfl), n_hand := He.noat_ok (c.fact 25 rfl), n_held := He.noat_ok (c.fact 26 rfl), n_lacks := He.noat_ok (c.fact 27 rfl), n_marks := He.noat_ok (c.fact 28 rfl), init := ⟨_, _, F23, (FunD.bindsN F23 fun _ _ _ _ _ _ us hl => match us, hl with | [_, _], _ => rfl), He.meth_ok (c.fact 29 rfl)⟩, ask := ⟨_, _, F24, (FunD.bindsN F24 fun _ _ _ _ _ _ us hl => match us, hl with | [_, _], _ => rfl), He.meth_ok (c.fact 30 rfl)⟩, pages := ⟨_, _, F25, (FunD.bindsN F25 fun _ _ _ _ _ _ us hl => match us, hl with | [_], _ => rfl), He.meth_ok (c.fact 31 rfl)⟩, points := ⟨_, _, F26, (FunD.bindsN F26 fun _ _ _ _ _ _ us hl => match us, hl with | [_], _ => rfl), He.meth_ok (c.fact 32 rfl)⟩, pass_marked := ⟨_, _, F27, (FunD.bindsN F27 fun _ _ _ _ _ _ us hl => match us, hl with | [_], _ => rfl), He.meth_ok (c.fact 33 rfl)⟩, exchange := ⟨_, _, F28, (FunD.bindsN F28 fun _ _ _ _ _ _ us hl => match us, hl with | [_, _], _ => rfl), He.meth_ok (c.fact 34 rfl)⟩, go_on := ⟨_, _, F29, (FunD.bindsN F29 fun _ _ _ _ _ _ us hl => match us, hl with | [_], _ => rfl), He.meth_ok (c.fact 35 rfl)⟩, mkr := He.mkr_ok (c.fact 36 rfl), bI := (FunD.bindsN F23 fun _ _ _ _ _ _ us hl => match us, hl with | [_, _], _ => rfl) },
    t_MOST_ROOMS := t_MOST_ROOMS, g_MOST_ROOMS := i_MOST_ROOMS,
    t_PAGES := t_PAGES, g_PAGES := i_PAGES,
    t_MOST_ASKS := t_MOST_ASKS, g_MOST_ASKS := i_MOST_ASKS,
    bool_ := He.free_ok X G (c.fact 40 rfl),
    enumerate := He.free_ok X G (c.fact 41 rfl),
    int_ := He.free_ok X G (c.fact 42 rfl),
    isinstance := He.free_ok X G (c.fact 43 rfl),
    len := He.free_ok X G (c.fact 44 rfl),
    list_ := He.free_ok X G (c.fact 45 rfl),
    min := He.free_ok X G (c.fact 46 rfl),
    range := He.free_ok X G (c.fact 47 rfl),
    str_ := He.free_ok X G (c.fact 48 rfl),
    tuple_ := He.free_ok X G (c.fact 49 rfl),
    zip := He.free_ok X G (c.fact 50 rfl),
    a_RULES := _, g_RULES := He.glo_ok X G (c.fact 51 rfl),
    r_RULES_hand := He.valsB_ok (q := ("hand", .glo "_by_hand")) x_RULES (by simp [tb_RULES]),
    r_RULES_unseen := He.valsB_ok (q := ("unseen", .glo "_by_unseen")) x_RULES (by simp [tb_RULES]),
    r_RULES_first := He.valsB_ok (q := ("first", .glo "_by_first")) x_RULES (by simp [tb_RULES]) }⟩

def ts : List He.Tab := [(fun K => He.ga K "RULES", ["hand", "unseen", "first"])]
abbrev R : PySem.W.OpenRow := PySem.W.OpenLaw.row PySem.Challenge.rw_clockhand_k09_stretches
abbrev hk : PySem.W.Hook := hookX 5 fa fn ts xt
def ob (s : PySem.W.SharedT) : He.AlT × Bool := obsX 5 fa fn ts xt (HandSHeadRun.getT s)
theorem ob_eq (s : PySem.W.SharedT) : ob s = hk.obs s.abs := obsX_eq (HandSHeadRun.getT_eq s)
theorem run (w : World) : HandSHeadRun.RunEq R (PySem.W.view R.prog [38]) hk ob 4000 ((["_wall", "__name__", "PageError", "BadRooms", "BadRow", "BadRule", "MOST_ROOMS", "PAGES", "MOST_ASKS", "check_rooms", "is_page", "check_page", "check_row", "Dial", "_by_hand", "_by_unseen", "_by_first", "_by_line", "RULES", "check_rule", "lacking", "find_lacks", "stretches", "lacking_in", "_begins"] : List PySem.Str) ++ (["_law_begun", "_law_take", "_law_alike", "_law_row", "_law_dial", "_law_ask", "_law_lacks", "_law_parts"] : List PySem.Str)) w := by
  refine PySem.W.byRow2 "special-get-raises" (P := fun w => HandSHeadRun.RunEq R (PySem.W.view R.prog [38]) hk ob 4000 ((["_wall", "__name__", "PageError", "BadRooms", "BadRow", "BadRule", "MOST_ROOMS", "PAGES", "MOST_ASKS", "check_rooms", "is_page", "check_page", "check_row", "Dial", "_by_hand", "_by_unseen", "_by_first", "_by_line", "RULES", "check_rule", "lacking", "find_lacks", "stretches", "lacking_in", "_begins"] : List PySem.Str) ++ (["_law_begun", "_law_take", "_law_alike", "_law_row", "_law_dial", "_law_ask", "_law_lacks", "_law_parts"] : List PySem.Str)) w) (fun w => ?_) (fun w => ?_) w
  all_goals
    intro os
    kernel_rfl
end CK

namespace CK
open PySem PySem.Spec PyProof.Rows L2
theorem facts {P : Program} {w : World} {K : PySem.W.Frag} {h : Heap} {mg : Str → Option Value} {f : Addr} (X : K.In h) (G : h.Ns mainGlobals mg) (hfa : mg ("law" : Str) = some (.ref f)) (c : He.SaysT fa fn ts w K) (cx : xt K = true) :
    ∃ fd : FuncData, (∀ (s : Shared) (v : Value), BindsTo s fd ⟨[v], []⟩ [("_law_script", v)]) ∧ ∀ base : Heap, K.In base → base.Ns mainGlobals mg → FnOk P w K mg base CX0 8 f fd ["_law_script"] (spLaw K) := by
  obtain ⟨T⟩ := mkProg X G c.d cx
  obtain ⟨es0, nd0, TB0⟩ := c.tab 0 rfl
  have ea0 : T.a_RULES = He.ga K "RULES" := by
    have q := T.g_RULES.symm.trans (He.glo_ok (x := "RULES") X G (c.d.fact 51 rfl))
    injection q with q
    injection q
  have TB0 : KDict K w T.a_RULES es0 nd0 := by rw [ea0]; exact TB0
  obtain ⟨fd, F⟩ := c.d.def_ 22 rfl
  have e := hfa.symm.trans (He.glo_ok X G (c.d.fact 22 rfl))
  cases e
  have b := FunD.bindsA (ps := ["_law_script"]) F fun _ _ _ _ _ _ us hl => match us, hl with | [_], _ => rfl
  exact ⟨fd, fun s v => b s [v] rfl, fun base _ _ => ok_law T TB0 F⟩
end CK
open PySem PySem.W PySem.Calls PyProof.Rows
set_option maxRecDepth 100000 in
set_option maxHeartbeats 0 in
theorem PySem.Challenge.cw_clockhand_k09_stretches_holds : PySem.Challenge.rw_clockhand_k09_stretches.Holds := by
  w_on; o_law
  refine HandSHeadRun.head_any (r := OpenLaw.row PySem.Challenge.rw_clockhand_k09_stretches) (q := view (OpenLaw.row PySem.Challenge.rw_clockhand_k09_stretches).prog [38]) (H := CK.hk) (ob := CK.ob) (M := 4000) (loose := ((["_wall", "__name__", "PageError", "BadRooms", "BadRow", "BadRule", "MOST_ROOMS", "PAGES", "MOST_ASKS", "check_rooms", "is_page", "check_page", "check_row", "Dial", "_by_hand", "_by_unseen", "_by_first", "_by_line", "RULES", "check_rule", "lacking", "find_lacks", "stretches", "lacking_in", "_begins"] : List PySem.Str) ++ (["_law_begun", "_law_take", "_law_alike", "_law_row", "_law_dial", "_law_ask", "_law_lacks", "_law_parts"] : List PySem.Str))) (d := HandSHeadRun.topDef (OpenLaw.row PySem.Challenge.rw_clockhand_k09_stretches).prog 38) (kwd := []) CK.ob_eq
    (by kernel_rfl) (fun s => by kernel_rfl) CK.run (by kernel_rfl) (by kernel_rfl) (by kernel_rfl) (by rfl) (by first | assumption | decide +kernel) (by decide +kernel) ⟨rfl, rfl, rfl, rfl, rfl, by decide +kernel⟩ ?hw ?hc
  case hw => w_witness2
  case hc =>
    refine L2.walk_ofE (l := PySem.Challenge.rw_clockhand_k09_stretches) (n := 63) (k := 8) (x := "_law_script") (CX := L2.CX0) rfl (by decide) (by kernel_rfl) ⟨rfl, by decide, by decide⟩ ?F (fun _ _ _ _ z => z)
    intro w mg fa h Y G hmg0
    obtain ⟨K, KX, c, cx⟩ := Y
    have hmg : mg ("law" : PySem.Str) = some (.ref fa) := by
      have e : (HandSHeadRun.topDef (OpenLaw.row PySem.Challenge.rw_clockhand_k09_stretches).prog 38).name = ("law" : PySem.Str) := by kernel_rfl
      rw [← e]
      exact hmg0
    obtain ⟨fd, hb, hF⟩ := CK.facts (P := (PySem.Challenge.rw_clockhand_k09_stretches).prog) (w := w) KX G hmg c cx
    exact ⟨K, fd, CK.spLaw K, KX, hb, fun H a ns hl _ hS => ⟨a, ns, rfl, hS, hl, fun _ => rfl⟩, hF⟩
