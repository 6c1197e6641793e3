import PyProof.Rows.All
import Wide.All
import OpenK.AllK
import Wide.FinOn
import KE.KStateDown
import Lean
import HandS.ForMost
import HandS.SortInts
import HandS.SetFor
import HandS.Wide
import HandS.Defaults
import HandS.IsInst
import HandS.CallLocal
import HandS.More
import HandS.Codes
import HandS.Sort
import HandS.Head0
import HandS.Head1
import HandS.Head2
import HandS.HeadEnd
import HandS.HeadHook1
import HandS.HeadHook2
import HandS.HeadHook3
import HandS.Walk
import KE.KExcSuper
import HandS.Exc
import HandS.ExcInit
import HandS.FStr
import HandS.ExcSuper
import HandS.ExcCtx
import HandS.ExcIs
import HandS.ExcField
import HandS.HotCalls
import KE.KExcIs
import PySem.Challenge.RW_clockhand_k02_the_hand
set_option Elab.async false
set_option linter.all false
set_option maxRecDepth 100000
set_option maxHeartbeats 0
/-! Clockhand: the shared ground of its laws: where a def stands, heaps, the box of the draws. -/
namespace CK
open PySem PySem.Spec PyProof.Rows L2
def top (i : Nat) : Stmt := PySem.Challenge.pw_clockhand_k02_the_hand.main.body.getD i (.Pass ⟨0, 0, 0, 0⟩)

/-- a def of the text, behind the top -/
structure DAt (K : PySem.W.Frag) (mg : Str → Option Value) (x : Str) (st : Stmt) (ps : List Str) where
  f : Addr
  fd : FuncData
  fn : FunD K x x (defArgs st) (defBody st) (defScope st) [] [] f fd
  bd : Binds K fd ps []
  g : mg x = some (.ref f)
/-- a method of the class at C -/
structure MAt (K : PySem.W.Frag) (C : Addr) (x q : Str) (st : Stmt) (ps : List Str) where
  f : Addr
  fd : FuncData
  fn : FunD K x q (defArgs st) (defBody st) (defScope st) [] [] f fd
  bd : Binds K fd ps []
  me : Meth K C x f

/-! ### the head's look, by one more Bool -/
def obsX (n : Nat) (fa : List He.Fa) (fn : List He.DefD) (ts : List He.Tab) (xt : PySem.W.Frag → Bool) (g : Addr → Option Obj) : He.AlT × Bool := (He.obsTG n fa fn ts g, xt (He.frG g (He.asD g n)))
def hookX (n : Nat) (fa : List He.Fa) (fn : List He.DefD) (ts : List He.Tab) (xt : PySem.W.Frag → Bool) : PySem.W.Hook where
  α := He.AlT × Bool
  obs := fun s => obsX n fa fn ts xt s.heap.get?
  val := fun w => (He.valT fn ts w, true)
  says := fun w h => ∃ K : PySem.W.Frag, K.In h ∧ He.SaysT fa fn ts w K ∧ xt K = true
  of := fun _ _ e => ⟨_, He.frG_in, congrArg Prod.fst e, congrArg Prod.snd e⟩
  keeps := fun _ _ _ ⟨K, hK, c⟩ k => ⟨K, PySem.W.Frag.In.keeps hK k, c⟩
theorem obsX_eq {n : Nat} {fa : List He.Fa} {fn : List He.DefD} {ts : List He.Tab} {xt : PySem.W.Frag → Bool} {g : Addr → Option Obj} {s : Shared} (h : ∀ a, g a = s.heap.get? a) : obsX n fa fn ts xt g = (hookX n fa fn ts xt).obs s := by
  have e : g = s.heap.get? := funext h
  rw [e] <;> rfl
/-! ### where all stands behind the top -/
structure DialAt (K : PySem.W.Frag) (mg : Str → Option Value) where
  C : Addr
  cl : Cls K C
  g : mg "Dial" = some (.ref C)
  n_hand : NoAttr K C "_hand"
  n_held : NoAttr K C "_held"
  n_lacks : NoAttr K C "_lacks"
  n_marks : NoAttr K C "_marks"
  init : MAt K C "__init__" "Dial.__init__" (inClass (top 15) 0) ["self", "rooms"]
  ask : MAt K C "ask" "Dial.ask" (inClass (top 15) 1) ["self", "page"]
  pages : MAt K C "pages" "Dial.pages" (inClass (top 15) 2) ["self"]
  looked : MAt K C "looked" "Dial.looked" (inClass (top 15) 3) ["self"]
  points : MAt K C "points" "Dial.points" (inClass (top 15) 4) ["self"]
  lacked : MAt K C "lacked" "Dial.lacked" (inClass (top 15) 5) ["self"]
  pass_marked : MAt K C "_pass_marked" "Dial._pass_marked" (inClass (top 15) 6) ["self"]
  exchange : MAt K C "_exchange" "Dial._exchange" (inClass (top 15) 7) ["self", "page"]
  go_on : MAt K C "_go_on" "Dial._go_on" (inClass (top 15) 8) ["self"]
  mkr : Mk K C init.f
  bI : Binds K init.fd ["self", "rooms"] []
structure Prog (K : PySem.W.Frag) (mg : Str → Option Value) where
  check_rooms : DAt K mg "check_rooms" (top 10) ["rooms"]
  is_page : DAt K mg "is_page" (top 11) ["page"]
  check_page : DAt K mg "check_page" (top 12) ["page"]
  check_row : DAt K mg "check_row" (top 13) ["row"]
  told : DAt K mg "told" (top 16) ["rooms", "row"]
  law_begun : DAt K mg "_law_begun" (top 18) ["_law_script"]
  law_take : DAt K mg "_law_take" (top 19) ["_law_box", "_law_many"]
  law_alike : DAt K mg "_law_alike" (top 20) ["_law_found", "_law_due"]
  law_class : DAt K mg "_law_class" (top 21) ["_law_e"]
  law_row : DAt K mg "_law_row" (top 22) ["_law_box", "_law_most"]
  law_dial : DAt K mg "_law_dial" (top 23) ["_law_rooms"]
  law_ask : DAt K mg "_law_ask" (top 24) ["_law_dial_here", "_law_page"]
  law_told : DAt K mg "_law_told" (top 25) ["_law_dial_here", "_law_page"]
  law_is : DAt K mg "_law_is" (top 26) ["_law_dial_here", "_law_due"]
  Dial : DialAt K mg
  t_MOST_ROOMS : Tok
  g_MOST_ROOMS : mg "MOST_ROOMS" = some (.int 8 t_MOST_ROOMS)
  t_PAGES : Tok
  g_PAGES : mg "PAGES" = some (.int 12 t_PAGES)
  t_MOST_ASKS : Tok
  g_MOST_ASKS : mg "MOST_ASKS" = some (.int 100 t_MOST_ASKS)
  bool_ : mg "bool" = none
  enumerate : mg "enumerate" = none
  int_ : mg "int" = none
  isinstance : mg "isinstance" = none
  len : mg "len" = none
  list_ : mg "list" = none
  min : mg "min" = none
  range : mg "range" = none
  str_ : mg "str" = none
  tuple_ : mg "tuple" = none

/-! ### heaps -/
/-- all that H knows stands in H' as it stood, but for what stands at the places S -/
def But (S : List Addr) (H H' : Hp) : Prop := ∀ b o, H b = some o → b ∉ S → H' b = some o
theorem But.refl (S : List Addr) (H : Hp) : But S H H := fun _ _ h _ => h
theorem But.trans {S : List Addr} {H H1 H2 : Hp} (a : But S H H1) (b : But S H1 H2) : But S H H2 := fun c o h n => b c o (a c o h n) n
theorem But.mono {S T : List Addr} {H H1 : Hp} (a : But S H H1) (h : ∀ x, x ∈ S → x ∈ T) : But T H H1 := fun c o e n => a c o e fun z => n (h c z)
theorem But.same {H H1 : Hp} (a : But [] H H1) : Same H H1 := fun c o e => a c o e (by simp)
theorem But.of {S : List Addr} {H H1 : Hp} (a : Same H H1) : But S H H1 := fun c o e _ => a c o e
theorem But.new {S : List Addr} {H : Hp} {p : Addr} {o : HO} (h : H p = none) : But S H (upd H p o) := fun b u e _ => by
  rw [upd_ne (ne_of_none e h)]
  exact e
theorem But.put {S : List Addr} {H : Hp} {p : Addr} {o : HO} (h : p ∈ S) : But S H (upd H p o) := fun b u e n => by
  rw [upd_ne (fun z => n (by rw [z]; exact h))]
  exact e
/-- a place that H did not know may change -/
theorem But.free {S : List Addr} {p : Addr} {H H' : Hp} (a : But (p :: S) H H') (h : H p = none) : But S H H' := fun b o e n => a b o e fun z => by
  rcases List.mem_cons.mp z with z | z
  · rw [z, h] at e
    cases e
  · exact n z
theorem But.at {S : List Addr} {H H' : Hp} (a : But S H H') {b : Addr} {o : HO} (e : H b = some o) (n : b ∉ S := by first | assumption | simp) : H' b = some o := a b o e n
/-- what is new behind was free ahead, if it isn't of S -/
theorem But.back {S : List Addr} {H H' : Hp} (a : But S H H') {p : Addr} (h : H' p = none) (n : p ∉ S) : H p = none := by
  cases e : H p with
  | none => rfl
  | some o => rw [a p o e n] at h; cases h
theorem Same.new {H : Hp} {p : Addr} {o : HO} (h : H p = none) : Same H (upd H p o) := fun b u e => by
  rw [upd_ne (ne_of_none e h)]
  exact e
theorem Same.back {H H' : Hp} (a : Same H H') {p : Addr} (h : H' p = none) : H p = none := by
  cases e : H p with
  | none => rfl
  | some o => rw [a p o e] at h; cases h
theorem Same.put {H H' : Hp} {p : Addr} {o : HO} (a : Same H H') (h : H p = none) : Same H (upd H' p o) := fun b u e => by
  rw [upd_ne (ne_of_none e h)]
  exact a b u e
theorem ne_fresh {H : Hp} {a b : Addr} {o : HO} (h : H a = some o) (h' : H b = none) : a ≠ b := ne_of_none h h'

/-! ### lists of ints -/
abbrev il (ns : List Int) : List V := ns.map V.int
theorem il_at {ns : List Int} {j : Nat} {n : Int} (h : ns[j]? = some n) : (il ns)[j]? = some (V.int n) := by
  rw [List.getElem?_map, h]
  rfl
theorem il_set {ns : List Int} {j : Nat} {n : Int} : (il ns).set j (V.int n) = il (ns.set j n) := by
  show (ns.map V.int).set j (V.int n) = (ns.set j n).map V.int
  rw [List.map_set]
theorem il_get {ns : List Int} {j : Nat} {y : V} (h : (il ns)[j]? = some y) : ∃ n, ns[j]? = some n ∧ y = V.int n := by
  rw [List.getElem?_map] at h
  cases e : ns[j]? with
  | none => rw [e] at h; cases h
  | some n => rw [e] at h; exact ⟨n, rfl, (Option.some.inj h).symm⟩
theorem il_snoc {ns : List Int} {n : Int} : il ns ++ [V.int n] = il (ns ++ [n]) := by
  show ns.map V.int ++ [V.int n] = (ns ++ [n]).map V.int
  rw [List.map_append]
  rfl
theorem il_app {ns ms : List Int} : il ns ++ il ms = il (ns ++ ms) := by
  show ns.map V.int ++ ms.map V.int = (ns ++ ms).map V.int
  rw [List.map_append]
theorem il_len {ns : List Int} : (il ns).length = ns.length := List.length_map _
theorem flat_il (ns : List Int) : (il ns).all flatV = true := by
  rw [List.all_eq_true]
  intro x hx
  obtain ⟨n, _, rfl⟩ := List.mem_map.mp hx
  rfl
theorem inV_il (n : Int) (ns : List Int) : inV (V.int n) (il ns) = decide (n ∈ ns) := by
  induction ns with
  | nil => rfl
  | cons a r ih =>
    show (eqV (V.int a) (V.int n) || inV (V.int n) (il r)) = _
    rw [ih]
    have e : eqV (V.int a) (V.int n) = decide (a = n) := by
      first
        | rfl
        | (simp [eqV])
    rw [e]
    by_cases h : a = n
    · simp [h]
    · have h2 : ¬ n = a := fun z => h z.symm
      simp [h, h2]
/-! ### data that is read -/
def pd (ns : List Int) : PyData := .list (ns.map PyData.int)
theorem dp_all (K : PySem.W.Frag) (H : Hp) : ∀ ns : List Int, DpAll K H (il ns) (ns.map PyData.int)
  | [] => .nil
  | _ :: r => .cons (.int _) (dp_all K H r)
theorem dp_il {K : PySem.W.Frag} {H : Hp} {a : Addr} {ns : List Int} (h : SqL K H a (il ns)) : Dp K H (.ref a) (pd ns) := .lst h (dp_all K H ns)
theorem eqv_pd : ∀ a b : List Int, PyData.eqvAll (a.map PyData.int) (b.map PyData.int) = decide (a = b)
  | [], [] => rfl
  | [], _ :: _ => rfl
  | _ :: _, [] => rfl
  | x :: r, y :: s => by
    show ((x == y) && PyData.eqvAll (r.map PyData.int) (s.map PyData.int)) = _
    rw [eqv_pd r s]
    by_cases h : x = y
    · by_cases h2 : r = s
      · simp [h, h2]
      · simp [h, h2]
    · simp [h]
theorem eqv_il (a b : List Int) : PyData.eqv (pd a) (pd b) = decide (a = b) := eqv_pd a b
theorem lay_il : ∀ a : List Int, PyData.canLayAll0 (a.map PyData.int) = true
  | [] => rfl
  | _ :: r => by
    show (true && PyData.canLayAll0 (r.map PyData.int)) = true
    rw [lay_il r]
    rfl
theorem dep_il : ∀ a : List Int, PyData.depthAll (a.map PyData.int) = 0
  | [] => rfl
  | _ :: r => by
    show max 0 (PyData.depthAll (r.map PyData.int)) = 0
    rw [dep_il r]
    rfl
theorem shaped_il (a : List Int) : SeqAt.shaped (pd a) = true := by
  unfold SeqAt.shaped pd
  rw [Bool.and_eq_true]
  constructor
  · show PyData.canLayAll0 _ = true
    exact lay_il a
  · apply decide_eq_true
    show PyData.depthAll _ + 1 ≤ 64
    rw [dep_il a]
    decide
theorem sz {n : Nat} (h : n ≤ 100000) : n ≤ sizeLine := Nat.le_trans h (by decide)
theorem szl {n : Nat} (h : n < 100000) : n < sizeLine := Nat.lt_of_lt_of_le h (by decide)

theorem ixn {n : Nat} {i : Int} {j : Nat} (e : i = (j : Int)) (h : j < n) : ixN n i = some j := by
  unfold ixN
  rw [if_pos (by omega), if_pos (by omega), e]
  rfl
theorem seq_ix {n : Nat} {i : Int} {j : Nat} (e : i = (j : Int)) (h : j < n) : seqIndex? i n = some j := (ixN_seq (ixn e h)).1
theorem szd {n : Nat} (h : Nat.ble n 1000 = true) : n ≤ sizeLine := Nat.le_trans (Nat.le_of_ble_eq_true h) (by decide)
theorem il_menu {xs : List Int} {r : Int} (h0 : 0 ≤ r) (h1 : r < xs.length) : ∃ v, v ∈ xs ∧ atI (il xs) r = some (V.int v) := by
  obtain ⟨j, rfl⟩ : ∃ j : Nat, r = (j : Int) := ⟨r.toNat, by omega⟩
  have hj : j < xs.length := by omega
  exact ⟨xs[j], List.getElem_mem hj, atI_nat (il_at (List.getElem?_eq_getElem hj))⟩
theorem il_last {xs : List Int} (h : xs ≠ []) : ∃ v, v ∈ xs ∧ atI (il xs) (-1) = some (V.int v) := by
  obtain ⟨ys, y, rfl⟩ : ∃ ys y, xs = ys ++ [y] := ⟨xs.dropLast, xs.getLast h, (List.dropLast_concat_getLast h).symm⟩
  refine ⟨y, by simp, ?_⟩
  rw [← il_snoc]
  exact atI_last _ _
theorem ifT {c : Bool} {A B : Prop} (e : c = true) (h : A) : if c = true then A else B := by
  rw [if_pos e]
  exact h
theorem ifF {c : Bool} {A B : Prop} (e : c = false) (h : B) : if c = true then A else B := by
  rw [e]
  exact iteF h
theorem int0 {a b : Int} (h : a < b) : a < b := h
/-! ### the box of the draws -/
/-- the box at b: the numbers left, in the list at l, and a number by which draws go on -/
structure BoxAt (H : Hp) (b l : Addr) : Prop where
  ne : b ≠ l
  ex : ∃ (ns : List Int) (z : Int), H b = some (.lst [.ref l, .int z]) ∧ H l = some (.lst (il ns)) ∧ 0 ≤ z ∧ z < 2147483647
theorem BoxAt.but {S : List Addr} {H H' : Hp} {b l : Addr} (B : BoxAt H b l) (k : But S H H') (hb : b ∉ S) (hl : l ∉ S) : BoxAt H' b l := by
  obtain ⟨ns, z, h1, h2, h3⟩ := B.ex
  exact ⟨B.ne, ns, z, k _ _ h1 hb, k _ _ h2 hl, h3⟩
theorem BoxAt.same {H H' : Hp} {b l : Addr} (B : BoxAt H b l) (k : Same H H') : BoxAt H' b l := by
  obtain ⟨ns, z, h1, h2, h3⟩ := B.ex
  exact ⟨B.ne, ns, z, k _ _ h1, k _ _ h2, h3⟩

/-! ### the promises of the draws -/
/-- a new box over the script's ints -/
def spBegun (K : PySem.W.Frag) : Sp := fun vs H Q _ => ∃ (a : Addr) (ns : List Int), vs = [.ref a] ∧ SqL K H a (il ns) ∧ ns.length ≤ 63 ∧
  ∀ (b l : Addr) (H' : Hp), H b = none → H l = none → Same H H' → BoxAt H' b l → Q (.ref b) H'
/-- a draw: some number below m, and the box is still one -/
def spTake : Sp := fun vs H Q _ => ∃ (b l : Addr) (m : Int), vs = [.ref b, .int m] ∧ BoxAt H b l ∧ 0 < m ∧ m < 1000000000 ∧
  ∀ (r : Int) (H' : Hp), 0 ≤ r → r < m → But [b, l] H H' → BoxAt H' b l → Q (.int r) H'
/-- a row: asks for pages below twelve, at most as many as asked for -/
def spRow : Sp := fun vs H Q _ => ∃ (b l : Addr) (m : Int), vs = [.ref b, .int m] ∧ BoxAt H b l ∧ 0 ≤ m ∧ m ≤ 100 ∧
  ∀ (row : List Int) (r : Addr) (H' : Hp), H r = none → (∀ p ∈ row, 0 ≤ p ∧ p < 12) → (row.length : Int) ≤ m → But [b, l] H H' → H' r = some (.lst (il row)) → BoxAt H' b l → Q (.ref r) H'
end CK

namespace CK
open PySem PySem.Spec PyProof.Rows L2
section
variable {P : Program} {w : World} {K : PySem.W.Frag} {mg : Str → Option Value} {base : Heap}
/-! ### a draw -/
theorem sc_law_take : FnScope ["_law_box", "_law_many", "_law_number"] ["_law_box", "_law_many"] (defScope (top 19)) := ⟨rfl, rfl, rfl, by decide +kernel, rfl, by decide +kernel, by decide +kernel⟩
theorem ok_law_take (T : Prog K mg) : FnOk P w K mg base CX0 1 T.law_take.f T.law_take.fd ["_law_box", "_law_many"] spTake := by
  refine T.law_take.fn.ok sc_law_take (fun vs H Q E h => ?len) (fun cdv A outer s H vs Q E hr h => ?body)
  case len =>
    obtain ⟨b, l, m, rfl, _⟩ := h
    rfl
  case body =>
    have hu := hu_of hr
    obtain ⟨b, l, m, rfl, B, m0, m1, k⟩ := h
    refine ⟨_, PSs.nox (pss_cons (ps_if (pt_cmpR (op_eqD hr.units) (pe_ix ix_list (pv 0) pe_int (fun _ _ => rfl)) (pe_lst pa_nil) (nomark _))
        (pss_cons (ps_asg (pe_op op_mod (pe_op op_mul (pe_ix ix_list (pv 0) pe_int (fun _ _ => rfl)) pe_int) pe_int) (pg_sub (pv 0) pe_int set_list))
        (pss_one (ps_ret (pe_op op_mod (pe_op op_fdiv (pe_ix ix_list (pv 0) pe_int (fun _ _ => rfl)) pe_int) (pv 1)))))
        pss_nil)
        (pss_cons (ps_set (i := 2) sc_law_take.nd rfl (Or.inl rfl) (pe_ix ix_list (pe_ix ix_list (pv 0) pe_int (fun _ _ => rfl)) pe_int (fun _ _ => rfl)))
        (pss_cons (ps_asg (pe_op op_fdiv (pv 2) (pv 1)) (pg_sub (pe_ix ix_list (pv 0) pe_int (fun _ _ => rfl)) pe_int set_list))
        (pss_cons (ps_if (PW.pt (pw_or (pt_cmpR op_eq (pe_ix ix_list (pe_ix ix_list (pv 0) pe_int (fun _ _ => rfl)) pe_int (fun _ _ => rfl)) pe_int (nomark _)) (pw_or1 (pt_cmpR op_eq (pe_ix ix_list (pe_ix ix_list (pv 0) pe_int (fun _ _ => rfl)) pe_int (fun _ _ => rfl)) (pe_un un_neg pe_int) (nomark _)))))
        (pss_one (ps_expr (pe_bm PySem.F.plainAttrs_list PySem.F.slot_list_pop PySem.F.type_list_pop mt_popAt (pe_ix ix_list (pv 0) pe_int (fun _ _ => rfl)) (pa_cons pe_int pa_nil))))
        pss_nil)
        (pss_one (ps_ret (pe_op op_mod (pv 2) (pv 1)))))))), ?_⟩
    have B0 := B
    obtain ⟨ns, z, hb, hl, z0, z1⟩ := B.ex
    -- if box[0] == []
    refine ⟨_, rfl, b, _, _, _, rfl, rfl, SqL.of hb, atI_nat (j := 0) rfl, by decide, fun e he => ?_⟩
    have eb : b ≠ e := ne_fresh hb he
    have el : l ≠ e := ne_fresh hl he
    have s1 : But [b, l] H (upd H e (.lst [])) := But.new he
    have hb1 : upd H e (.lst []) b = some (.lst [.ref l, .int z]) := by rw [upd_ne eb]; exact hb
    have hl1 : upd H e (.lst []) l = some (.lst (il ns)) := by rw [upd_ne el]; exact hl
    refine ⟨pd ns, pd [], dp_il (SqL.of hl1), dp_il (ns := []) (SqL.of upd_same), shaped_il _, shaped_il _, _, rfl, ?_⟩
    rw [eqv_il]
    refine ite2 (fun hn => ?_) (fun hn => ?_)
    · -- box[1] = box[1] * 48271 % 2147483647; return box[1] // 7 % many
      refine ⟨_, rfl, b, _, _, _, rfl, rfl, SqL.of hb1, atI_nat (j := 1) rfl, _, _, rfl, rfl, .inl ⟨by omega, by omega⟩, _, _, rfl, rfl, int0 (by decide), ?_⟩
      refine ⟨_, rfl, b, _, 1, 1, rfl, rfl, hb1, rfl, ?_⟩
      refine ⟨_, rfl, b, _, _, _, rfl, rfl, SqL.of upd_same, atI_nat (j := 1) rfl, _, _, rfl, rfl, ⟨by decide, by decide⟩, _, rfl, _, _, rfl, rfl, m0, ?_⟩
      refine k _ _ (Int.emod_nonneg _ (by omega)) (Int.emod_lt_of_pos _ m0) (s1.trans (But.put (by simp))) ⟨B.ne, ns, _, upd_same, ?_, Int.emod_nonneg _ (by decide), Int.emod_lt_of_pos _ (by decide)⟩
      rw [upd_ne (Ne.symm B.ne)]
      exact hl1
    · -- number = box[0][0]
      obtain ⟨n, r, rfl⟩ : ∃ n r, ns = n :: r := by
        cases ns with
        | nil => exact absurd (by simp) hn
        | cons n r => exact ⟨n, r, rfl⟩
      refine ⟨_, rfl, b, _, _, _, rfl, rfl, SqL.of hb1, atI_nat (j := 0) rfl, l, _, _, _, rfl, rfl, SqL.of hl1, atI_nat (j := 0) rfl, ?_⟩
      -- box[0][0] = number // many
      refine ⟨_, rfl, _, rfl, _, _, rfl, rfl, ⟨m0, by omega⟩, ?_⟩
      refine ⟨_, rfl, b, _, _, _, rfl, rfl, SqL.of hb1, atI_nat (j := 0) rfl, l, _, 0, 0, rfl, rfl, hl1, ixn rfl (by simp), ?_⟩
      have hb2 : ∀ o, upd (upd H e (.lst [])) l o b = some (.lst [.ref l, .int z]) := fun o => by rw [upd_ne B.ne]; exact hb1
      have hl2 : upd (upd H e (.lst [])) l (.lst ((il (n :: r)).set 0 (.int (n / m)))) l = some (.lst (il ((n / m) :: r))) := upd_same
      have s2 : But [b, l] H (upd (upd H e (.lst [])) l (.lst ((il (n :: r)).set 0 (.int (n / m))))) := s1.trans (But.put (by simp))
      have r0 : 0 ≤ n % m := Int.emod_nonneg _ (by omega)
      have r1 : n % m < m := Int.emod_lt_of_pos _ m0
      -- if box[0][0] == 0 or box[0][0] == -1
      refine ⟨_, rfl, b, _, _, _, rfl, rfl, SqL.of (hb2 _), atI_nat (j := 0) rfl, l, _, _, _, rfl, rfl, SqL.of hl2, atI_nat (j := 0) rfl, rfl, _, rfl, ?_⟩
      have pop : ∀ (σ : L2.St), ∀ D : Ends, σ[0]? = some (some (.ref b)) → (∀ H', But [b, l] H H' → BoxAt H' b l → D.nx σ H') → tDrop (tBM K "list" rPopAt (tOp (rIxL K) (tVar 0) (tC (.int 0))) (tCons (tC (.int 0)) tNil)) D σ (upd (upd H e (.lst [])) l (.lst ((il (n :: r)).set 0 (.int (n / m))))) := by
        intro σ D hσ hD
        refine ⟨_, hσ, b, _, _, _, rfl, rfl, SqL.of (hb2 _), atI_nat (j := 0) rfl, .inl ⟨rfl, _, SqL.of hl2⟩, l, _, 0, 0, _, rfl, rfl, hl2, by decide, by decide, seq_ix rfl (by simp), rfl, ?_⟩
        refine hD _ (s2.trans (But.put (by simp))) ⟨B.ne, r, z, ?_, upd_same, z0, z1⟩
        rw [upd_ne B.ne]
        exact hb2 _
      have out : ∀ H', But [b, l] H H' → BoxAt H' b l → tRet (tOp (rI (fun _ j => 0 < j) fun i j => V.int (i % j)) (tVar 2) (tVar 1)) { nx := fun _ H' => Q .non H', rt := Q } [some (.ref b), some (.int m), some (.int n)] H' := fun H' k1 B1 => by
        refine ⟨_, rfl, _, rfl, _, _, rfl, rfl, m0, ?_⟩
        exact k _ _ r0 r1 k1 B1
      refine ite2 (fun _ => iteT (pop _ _ rfl out)) (fun _ => ?_)
      refine ⟨_, rfl, b, _, _, _, rfl, rfl, SqL.of (hb2 _), atI_nat (j := 0) rfl, l, _, _, _, rfl, rfl, SqL.of hl2, atI_nat (j := 0) rfl, _, rfl, rfl, _, rfl, ?_⟩
      refine ite2 (fun _ => pop _ _ rfl out) (fun _ => ?_)
      exact out _ s2 ⟨B.ne, _, z, hb2 _, hl2, z0, z1⟩
/-! ### the box -/
theorem sc_law_begun : FnScope ["_law_script", "_law_stirred", "_law_cell"] ["_law_script"] (defScope (top 18)) := ⟨rfl, rfl, rfl, by decide +kernel, rfl, by decide +kernel, by decide +kernel⟩
theorem ok_law_begun (T : Prog K mg) : FnOk P w K mg base CX0 1 T.law_begun.f T.law_begun.fd ["_law_script"] (spBegun K) := by
  refine T.law_begun.fn.ok sc_law_begun (fun vs H Q E h => ?len) (fun cdv A outer s H vs Q E hr h => ?body)
  case len =>
    obtain ⟨a, ns, rfl, _⟩ := h
    rfl
  case body =>
    have hu := hu_of hr
    obtain ⟨a, ns, rfl, hS, hlen, k⟩ := h
    refine ⟨_, PSs.nox (pss_cons (ps_set (i := 1) sc_law_begun.nd rfl (Or.inl rfl) pe_int)
        (pss_cons (ps_for PassesOwn.never rfl (pi_list (pv 0)) (pg_name (i := 2) sc_law_begun.nd rfl (Or.inl rfl))
        (pss_one (ps_set (i := 1) sc_law_begun.nd rfl (Or.inl rfl) (pe_op op_mod (pe_op op_add (pe_op op_add (pe_op op_mul (pv 1) pe_int) (pe_op op_mul (pv 2) pe_int)) pe_int) pe_int))))
        (pss_one (ps_ret (pe_lst (pa_cons (pe_callTy call_list_of (by rfl) T.list_ (by decide +kernel) (pa_cons (pv 0) pa_nil)) (pa_cons (pe_op op_mul (pv 1) (pe_callTy call_int1 (by rfl) T.int_ (by decide +kernel) (pa_cons (pe_cmpR op_gt (pe_callB call_len_seq (by rfl) T.len PySem.boot_len (pa_cons (pv 0) pa_nil)) pe_int (nomark _)) pa_nil))) pa_nil))))))), ?_⟩
    refine ⟨_, rfl, a, rfl, ⟨_, hS⟩, for_list (K := K) (a := a) (xs := il ns) (fun i σ H2 => ∃ (z : Int) (v : Option V), σ = [some (.ref a), some (.int z), v] ∧ H2 = H ∧ 0 ≤ z ∧ z < 2147483647)
      ⟨0, none, rfl, rfl, by decide, by decide⟩ (fun i σ H2 _ ⟨_, _, _, e, _⟩ => by rw [e]; exact hS) ?_ ?_⟩
    · rintro i y σ H2 hi ⟨z, v, rfl, rfl, z0, z1⟩
      obtain ⟨n, _, rfl⟩ := il_get hi
      refine ⟨_, rfl, _, _, rfl, rfl, .inl ⟨by omega, by omega⟩, _, rfl, _, _, rfl, rfl, .inr ⟨by omega, by omega⟩, _, _, rfl, rfl, _, _, rfl, rfl, _, _, rfl, rfl, int0 (by decide), ?_⟩
      exact ⟨_, _, rfl, rfl, Int.emod_nonneg _ (by decide), Int.emod_lt_of_pos _ (by decide)⟩
    · rintro σ H2 ⟨z, v, rfl, rfl, z0, z1⟩
      refine ⟨_, rfl, a, _, rfl, .inl hS, fun l hl => ?_⟩
      have s1 : Same H2 (upd H2 l (.lst (il ns))) := Same.new hl
      refine ⟨_, rfl, _, rfl, a, _, rfl, .inl (s1.seq hS), _, _, rfl, rfl, .inr ⟨_, rfl, _, _, rfl, rfl, .inl ⟨by omega, by omega⟩, ?_⟩⟩
      refine ⟨szd rfl, fun b hb => ?_⟩
      have lb : l ≠ b := ne_fresh (H := upd H2 l (.lst (il ns))) upd_same hb
      have hl2 : upd (upd H2 l (.lst (il ns))) b (.lst [V.ref l, V.int (z * (if decide ((2 : Int) < ((il ns).length : Int)) = true then 1 else 0))]) l = some (.lst (il ns)) := by
        rw [upd_ne lb]
        exact upd_same
      refine k b l _ (Same.back s1 hb) hl (s1.trans (Same.new hb)) ⟨Ne.symm lb, ns, _, upd_same, hl2, ?_, ?_⟩
      · by_cases h2 : decide ((2 : Int) < ((il ns).length : Int)) = true
        · rw [if_pos h2]; omega
        · rw [if_neg h2]; omega
      · by_cases h2 : decide ((2 : Int) < ((il ns).length : Int)) = true
        · rw [if_pos h2]; omega
        · rw [if_neg h2]; omega
/-! ### a row -/
theorem sc_law_row : FnScope ["_law_box", "_law_most", "_law_pages", "_law_found", "_law_way", "_law_turn", "_law_page"] ["_law_box", "_law_most"] (defScope (top 22)) := ⟨rfl, rfl, rfl, by decide +kernel, rfl, by decide +kernel, by decide +kernel⟩
theorem ok_law_row (T : Prog K mg) : FnOk P w K mg base CX0 2 T.law_row.f T.law_row.fd ["_law_box", "_law_most"] spRow := by
  have G_law_take := ok_law_take (P := P) (w := w) (base := base) T
  refine T.law_row.fn.ok sc_law_row (fun vs H Q E h => ?len) (fun cdv A outer s H vs Q E hr h => ?body)
  case len =>
    obtain ⟨b, l, m, rfl, _⟩ := h
    rfl
  case body =>
    have hr_law_take : Room 1 _ := hr.mono (by decide)
    have hu := hu_of hr
    obtain ⟨b, l, m, rfl, B, m0, m1, k⟩ := h
    refine ⟨_, PSs.nox (pss_cons (ps_set (i := 2) sc_law_row.nd rfl (Or.inl rfl) (pe_op op_add pe_int (pe_call G_law_take hr_law_take (by rfl) T.law_take.g T.law_take.fn.kp T.law_take.bd .nil pass0 (pa_cons (pv 0) (pa_cons (pe_ix ix_list (pe_lst (pa_cons pe_int (pa_cons pe_int (pa_cons pe_int pa_nil)))) (pe_call G_law_take hr_law_take (by rfl) T.law_take.g T.law_take.fn.kp T.law_take.bd .nil pass0 (pa_cons (pv 0) (pa_cons pe_int pa_nil))) (fun _ _ => rfl)) pa_nil)))))
        (pss_cons (ps_set (i := 3) sc_law_row.nd rfl (Or.inl rfl) (pe_lst pa_nil))
        (pss_cons (ps_set (i := 4) sc_law_row.nd rfl (Or.inl rfl) (pe_call G_law_take hr_law_take (by rfl) T.law_take.g T.law_take.fn.kp T.law_take.bd .nil pass0 (pa_cons (pv 0) (pa_cons pe_int pa_nil))))
        (pss_cons (ps_for PassesOwn.never rfl (pi_range1 (by rfl) T.range (pa_cons (pe_call G_law_take hr_law_take (by rfl) T.law_take.g T.law_take.fn.kp T.law_take.bd .nil pass0 (pa_cons (pv 0) (pa_cons (pe_op op_add (pv 1) pe_int) pa_nil))) pa_nil)) (pg_name (i := 5) sc_law_row.nd rfl (Or.inl rfl))
        (pss_cons (ps_set (i := 6) sc_law_row.nd rfl (Or.inl rfl) (pe_call G_law_take hr_law_take (by rfl) T.law_take.g T.law_take.fn.kp T.law_take.bd .nil pass0 (pa_cons (pv 0) (pa_cons (pv 2) pa_nil))))
        (C8.pss_cut (ps_if (PW.pt (pw_and (pt_cmpR op_eq (pv 4) pe_int (nomark _)) (pw_and (pt_cmpR (op_neD hr.units) (pv 3) (pe_lst pa_nil) (nomark _)) (pw_and1 (pt_cmpR op_gt (pe_call G_law_take hr_law_take (by rfl) T.law_take.g T.law_take.fn.kp T.law_take.bd .nil pass0 (pa_cons (pv 0) (pa_cons pe_int pa_nil))) pe_int (nomark _))))))
        (pss_one (ps_set (i := 6) sc_law_row.nd rfl (Or.inl rfl) (pe_ix ix_list (pv 3) (pe_op op_sub (pe_op op_sub (pe_callB call_len_seq (by rfl) T.len PySem.boot_len (pa_cons (pv 3) pa_nil)) pe_int) (pe_call G_law_take hr_law_take (by rfl) T.law_take.g T.law_take.fn.kp T.law_take.bd .nil pass0 (pa_cons (pv 0) (pa_cons (pe_callB (call_min2 rfl) (by rfl) T.min (by decide +kernel) (pa_cons pe_int (pa_cons (pe_callB call_len_seq (by rfl) T.len PySem.boot_len (pa_cons (pv 3) pa_nil)) pa_nil))) pa_nil)))) (fun _ _ => rfl))))
        pss_nil)
        (C8.pss_cut (ps_if (PW.pt (pw_and (pt_cmpR op_eq (pv 4) pe_int (nomark _)) (pw_and1 (pt_cmpR op_gt (pe_call G_law_take hr_law_take (by rfl) T.law_take.g T.law_take.fn.kp T.law_take.bd .nil pass0 (pa_cons (pv 0) (pa_cons pe_int pa_nil))) pe_int (nomark _)))))
        (pss_one (ps_set (i := 6) sc_law_row.nd rfl (Or.inl rfl) (pe_op op_mod (pv 5) (pv 2))))
        pss_nil)
        (C8.pss_cut (ps_if (PW.pt (pw_and (pt_cmpR op_eq (pv 4) pe_int (nomark _)) (pw_and (pt_cmpR (op_neD hr.units) (pv 3) (pe_lst pa_nil) (nomark _)) (pw_and1 (pt_cmpR op_gt (pe_call G_law_take hr_law_take (by rfl) T.law_take.g T.law_take.fn.kp T.law_take.bd .nil pass0 (pa_cons (pv 0) (pa_cons pe_int pa_nil))) pe_int (nomark _))))))
        (pss_one (ps_set (i := 6) sc_law_row.nd rfl (Or.inl rfl) (pe_op op_mod (pe_op op_add (pe_op op_add (pe_ix ix_list (pv 3) (pe_un un_neg pe_int) (fun _ _ => rfl)) pe_int) (pe_call G_law_take hr_law_take (by rfl) T.law_take.g T.law_take.fn.kp T.law_take.bd .nil pass0 (pa_cons (pv 0) (pa_cons pe_int pa_nil)))) (pv 2))))
        pss_nil)
        (pss_one (ps_expr (pe_bm PySem.F.plainAttrs_list PySem.F.slot_list_append PySem.F.type_list_append mt_append (pv 3) (pa_cons (pv 6) pa_nil)))))))))
        (pss_one (ps_ret (pv 3))))))), ?_⟩
    -- pages = 1 + take(box, [4, 6, 12][take(box, 3)])
    refine ⟨_, rfl, ⟨szd rfl, fun e he => ?_⟩⟩
    have eb : b ≠ e := by obtain ⟨_, _, h1, _⟩ := B.ex; exact ne_fresh h1 he
    have el : l ≠ e := by obtain ⟨_, _, _, h1, _⟩ := B.ex; exact ne_fresh h1 he
    have s1 : But [b, l] H (upd H e (.lst (il [4, 6, 12]))) := But.new he
    refine ⟨_, rfl, b, l, 3, rfl, B.same (Same.new he), by decide, by decide, fun r H1 r0 r1 k1 B1 => ?_⟩
    have he1 : H1 e = some (.lst (il [4, 6, 12])) := k1 e _ upd_same (by simp [Ne.symm eb, Ne.symm el])
    obtain ⟨v, hv, hat⟩ := il_menu (xs := [4, 6, 12]) r0 r1
    have v0 : 0 < v ∧ v ≤ 12 := by simp at hv; omega
    refine ⟨e, _, _, _, rfl, rfl, SqL.of he1, hat, b, l, v, rfl, B1, v0.1, by omega, fun pg H2 p0 p1 k2 B2 => ?_⟩
    have k02 : But [b, l] H H2 := (s1.trans k1).trans k2
    refine ⟨_, _, rfl, rfl, ?_⟩
    have pgs0 : 0 < 1 + pg ∧ 1 + pg ≤ 12 := by omega
    -- found = []; way = take(box, 4)
    refine ⟨szd rfl, fun f hf => ?_⟩
    have hfH : H f = none := k02.back hf (by
      obtain ⟨_, _, h1, h2, _⟩ := B2.ex
      have := ne_fresh h1 hf
      have := ne_fresh h2 hf
      simp only [List.mem_cons, List.not_mem_nil, or_false, not_or]
      exact ⟨Ne.symm ‹b ≠ f›, Ne.symm ‹l ≠ f›⟩)
    have fb : f ≠ b := by obtain ⟨_, _, h1, _⟩ := B2.ex; exact Ne.symm (ne_fresh h1 hf)
    have fl : f ≠ l := by obtain ⟨_, _, _, h1, _⟩ := B2.ex; exact Ne.symm (ne_fresh h1 hf)
    have fS : f ∉ [b, l] := by simp [fb, fl]
    refine ⟨_, rfl, b, l, 4, rfl, B2.same (Same.new hf), by decide, by decide, fun way H3 w0 w1 k3 B3 => ?_⟩
    -- for turn in range(take(box, most + 1))
    refine ⟨_, rfl, _, rfl, _, _, rfl, rfl, b, l, _, rfl, B3, by omega, by omega, fun j H4 j0 j1 k4 B4 => ?_⟩
    have hf4 : H4 f = some (.lst (il [])) := k4 f _ (k3 f _ upd_same fS) fS
    have k04 : But [b, l] H H4 := ((k02.trans (But.new hf)).trans k3).trans k4
    refine ⟨_, rfl, by omega, by omega, for_range (lo := 0) (n := j.toNat) (fun i σ H' => ∃ (row : List Int) (v5 v6 : Option V), σ = [some (.ref b), some (.int m), some (.int (1 + pg)), some (.ref f), some (.int way), v5, v6] ∧
      H' f = some (.lst (il row)) ∧ BoxAt H' b l ∧ But [b, l] H H' ∧ row.length = i ∧ ∀ p ∈ row, 0 ≤ p ∧ p < (1 + pg)) ⟨[], _, _, rfl, hf4, B4, k04, rfl, by simp⟩ ?_ ?_⟩
    · rintro i σ H5 hi ⟨row, v5, v6, rfl, hf5, B5, k05, hlen, hrow⟩
      -- page = take(box, pages)
      refine ⟨_, rfl, _, rfl, b, l, _, rfl, B5, pgs0.1, by omega, fun pg1 H6 q0 q1 k6 B6 => ?_⟩
      -- what stands between the ifs
      let S : L2.Hp → Prop := fun H' => H' f = some (.lst (il row)) ∧ BoxAt H' b l ∧ But [b, l] H H'
      let M : L2.St → Hp → Prop := fun σ' H' => ∃ p : Int, σ' = [some (.ref b), some (.int m), some (.int (1 + pg)), some (.ref f), some (.int way), some (.int (0 + (i : Int))), some (.int p)] ∧ S H' ∧ 0 ≤ p ∧ p < 1 + pg
      have sNew : ∀ {H' : Hp} {e : Addr} {o : HO}, S H' → H' e = none → S (upd H' e o) := fun {H' e o} h he => ⟨by rw [upd_ne (ne_fresh h.1 he)]; exact h.1, h.2.1.same (Same.new he), h.2.2.trans (But.new he)⟩
      have sTake : ∀ {H' H'' : Hp}, S H' → But [b, l] H' H'' → BoxAt H'' b l → S H'' := fun h k B => ⟨k f _ h.1 fS, B, h.2.2.trans k⟩
      have sM : ∀ {H' : Hp} {p : Int}, S H' → 0 ≤ p → p < 1 + pg → M [some (.ref b), some (.int m), some (.int (1 + pg)), some (.ref f), some (.int way), some (.int (0 + (i : Int))), some (.int p)] H' := fun h p0 p1 => ⟨_, rfl, h, p0, p1⟩
      have s6 : S H6 := ⟨k6 f _ hf5 fS, B6, k05.trans k6⟩
      refine ⟨M, ?_, ?_⟩
      · -- way == 1 and found != [] and take(box, 3) > 0
        refine ⟨_, rfl, rfl, _, rfl, ?_⟩
        refine ite2 (fun _ => ?_) (fun _ => iteF (sM s6 q0 q1))
        refine ⟨_, rfl, szd rfl, fun e he => ?_⟩
        have s7 := sNew (o := .lst []) s6 he
        refine ⟨pd row, pd [], dp_il (SqL.of s7.1), dp_il (ns := []) (SqL.of upd_same), shaped_il _, shaped_il _, _, rfl, ?_⟩
        rw [eqv_il]
        by_cases hr0 : row = []
        · exact ifF (by simp [hr0]) (iteF (sM s7 q0 q1))
        refine ifT (by simp [hr0]) ?_
        have hpos : 0 < row.length := List.length_pos_iff.mpr hr0
        refine ⟨_, rfl, b, l, 3, rfl, s7.2.1, by decide, by decide, fun c H8 c0 c1 k8 B8 => ?_⟩
        have s8 := sTake s7 k8 B8
        refine ⟨_, _, rfl, rfl, _, rfl, ?_⟩
        refine ite2 (fun _ => ?_) (fun _ => sM s8 q0 q1)
        refine ⟨_, rfl, _, rfl, f, _, rfl, .inl (SqL.of s8.1), _, _, rfl, rfl, _, rfl, _, rfl, f, _, rfl, .inl (SqL.of s8.1), _, _, rfl, b, l, _, rfl, B8, ?_, ?_, fun u H9 u0 u1 k9 B9 => ?_⟩
        · rw [il_len]; split <;> omega
        · rw [il_len]; split <;> omega
        have s9 := sTake s8 k9 B9
        rw [il_len] at u1
        have hat : ∃ v, v ∈ row ∧ atI (il row) ((((il row).length : Int) - 1) - u) = some (V.int v) := by
          rw [il_len]
          refine il_menu ?_ ?_
          · split at u1 <;> omega
          · omega
        obtain ⟨v, hv, hat⟩ := hat
        refine ⟨_, _, rfl, rfl, f, _, _, _, rfl, rfl, SqL.of s9.1, hat, ?_⟩
        exact sM s9 (hrow v hv).1 (hrow v hv).2
      · rintro σ' H7 ⟨p, rfl, s7, p0, p1⟩
        refine ⟨M, ?_, ?_⟩
        · -- way == 2 and take(box, 5) > 0
          refine ⟨_, rfl, rfl, _, rfl, ?_⟩
          refine ite2 (fun _ => ?_) (fun _ => iteF (sM s7 p0 p1))
          refine ⟨_, rfl, b, l, 5, rfl, s7.2.1, by decide, by decide, fun c H8 c0 c1 k8 B8 => ?_⟩
          have s8 := sTake s7 k8 B8
          refine ⟨_, _, rfl, rfl, _, rfl, ?_⟩
          refine ite2 (fun _ => ?_) (fun _ => sM s8 p0 p1)
          refine ⟨_, rfl, _, rfl, _, _, rfl, rfl, pgs0.1, ?_⟩
          exact sM s8 (Int.emod_nonneg _ (by omega)) (Int.emod_lt_of_pos _ pgs0.1)
        · rintro σ' H7 ⟨p, rfl, s7, p0, p1⟩
          refine ⟨M, ?_, ?_⟩
          · -- way == 3 and found != [] and take(box, 3) > 0
            refine ⟨_, rfl, rfl, _, rfl, ?_⟩
            refine ite2 (fun _ => ?_) (fun _ => iteF (sM s7 p0 p1))
            refine ⟨_, rfl, szd rfl, fun e he => ?_⟩
            have s8 := sNew (o := .lst []) s7 he
            refine ⟨pd row, pd [], dp_il (SqL.of s8.1), dp_il (ns := []) (SqL.of upd_same), shaped_il _, shaped_il _, _, rfl, ?_⟩
            rw [eqv_il]
            by_cases hr0 : row = []
            · exact ifF (by simp [hr0]) (iteF (sM s8 p0 p1))
            refine ifT (by simp [hr0]) ?_
            refine ⟨_, rfl, b, l, 3, rfl, s8.2.1, by decide, by decide, fun c H9 c0 c1 k9 B9 => ?_⟩
            have s9 := sTake s8 k9 B9
            refine ⟨_, _, rfl, rfl, _, rfl, ?_⟩
            refine ite2 (fun _ => ?_) (fun _ => sM s9 p0 p1)
            obtain ⟨v, hv, hat⟩ := il_last hr0
            refine ⟨_, rfl, _, rfl, f, _, _, _, rfl, rfl, SqL.of s9.1, hat, _, _, rfl, rfl, _, rfl, b, l, 2, rfl, B9, by decide, by decide, fun u H10 u0 u1 k10 B10 => ?_⟩
            have s10 := sTake s9 k10 B10
            refine ⟨_, _, rfl, rfl, _, rfl, _, _, rfl, rfl, pgs0.1, ?_⟩
            exact sM s10 (Int.emod_nonneg _ (by omega)) (Int.emod_lt_of_pos _ pgs0.1)
          · -- found.append(page)
            rintro σ' H8 ⟨p, rfl, s8, p0, p1⟩
            refine ⟨_, rfl, .inl ⟨rfl, _, SqL.of s8.1⟩, _, rfl, f, _, _, rfl, rfl, s8.1, szl (by rw [il_len]; omega), ?_⟩
            refine ⟨row ++ [p], _, _, rfl, ?_, s8.2.1.but (S := [f]) (But.put (by simp)) (by simp [Ne.symm fb]) (by simp [Ne.symm fl]), ?_, by simp [hlen], ?_⟩
            · rw [upd_same, il_snoc]
            · intro c o hc hn
              rw [upd_ne (ne_fresh hc hfH)]
              exact s8.2.2 c o hc hn
            · intro x hx
              rcases List.mem_append.mp hx with hx | hx
              · exact hrow x hx
              · rw [List.mem_singleton.mp hx]
                exact ⟨p0, p1⟩
    · rintro σ H' ⟨row, v5, v6, rfl, hf', B', k', hlen, hrow⟩
      exact ⟨_, rfl, k row f H' hfH (fun p hp => by have := hrow p hp; omega) (by omega) k' hf' B'⟩
end
end CK

namespace CK
open PySem PySem.Spec PyProof.Rows L2
/-! ### two things that read as the same data are alike -/
mutual
/-- no list of it is longer than a thousand -/
def smallD : PyData → Prop
  | .list ds => ds.length ≤ 1000 ∧ smallAll ds
  | .tuple ds => ds.length ≤ 1000 ∧ smallAll ds
  | _ => True
def smallAll : List PyData → Prop
  | [] => True
  | d :: ds => smallD d ∧ smallAll ds
end
theorem small_at : ∀ {ds : List PyData} {i : Nat} {d : PyData}, smallAll ds → ds[i]? = some d → smallD d
  | [], _, _, _, h => by simp at h
  | a :: r, 0, d, s, h => by
    have e : a = d := Option.some.inj h
    rw [← e]
    exact s.1
  | a :: r, i + 1, d, s, h => small_at (ds := r) (i := i) s.2 h
def spAlike (K : PySem.W.Frag) (n : Nat) : Sp := fun vs H Q _ => ∃ (x y : V) (d : PyData), vs = [x, y] ∧ Dp K H x d ∧ Dp K H y d ∧ d.depth < n ∧ smallD d ∧ Q (.bl true) H
theorem dpAll_len {K : PySem.W.Frag} {H : Hp} : ∀ {xs : List V} {ds : List PyData}, DpAll K H xs ds → xs.length = ds.length
  | _, _, .nil => rfl
  | _, _, .cons _ t => congrArg Nat.succ (dpAll_len t)
theorem dpAll_at {K : PySem.W.Frag} {H : Hp} : ∀ {xs : List V} {ds : List PyData} {i : Nat}, DpAll K H xs ds → i < ds.length → ∃ x d, xs[i]? = some x ∧ ds[i]? = some d ∧ Dp K H x d
  | _, _, _, .nil, h => absurd h (Nat.not_lt_zero _)
  | x :: _, d :: _, 0, .cons a _, _ => ⟨x, d, rfl, rfl, a⟩
  | _ :: xs, _ :: ds, i + 1, .cons _ t, h => by
    obtain ⟨x, d, e1, e2, e3⟩ := dpAll_at (i := i) t (Nat.lt_of_succ_lt_succ h)
    exact ⟨x, d, e1, e2, e3⟩
theorem dep_at : ∀ {ds : List PyData} {i : Nat} {d : PyData}, ds[i]? = some d → d.depth ≤ PyData.depthAll ds
  | [], _, _, h => by simp at h
  | a :: r, 0, d, h => by
    have e : a = d := Option.some.inj h
    rw [← e]
    exact Nat.le_max_left _ _
  | a :: r, i + 1, d, h => Nat.le_trans (dep_at (ds := r) (i := i) h) (Nat.le_max_right _ _)
theorem ty_list {K : PySem.W.Frag} {H : Hp} {a : Addr} {xs : List V} (h : SqL K H a xs) : TyX K H (.ref a) (.type "list") := by
  rcases h with (h | ⟨o, h⟩) | ⟨o, its, n, hk, hc, _⟩
  · exact .base (.lst h)
  · exact .base (.frz h)
  · exact .kList hk hc
theorem ty_tup {K : PySem.W.Frag} {H : Hp} {a : Addr} {xs : List V} (h : SqT K H a xs) : TyX K H (.ref a) (.type "tuple") := by
  rcases h with (h | ⟨o, h⟩) | ⟨o, its, n, hk, hc, _⟩
  · exact .base (.tup h)
  · exact .fTuple h
  · exact .kTuple hk hc
section
variable {P : Program} {w : World} {K : PySem.W.Frag} {mg : Str → Option Value} {base : Heap}
theorem sc_law_alike : FnScope ["_law_found", "_law_due", "_law_k"] ["_law_found", "_law_due"] (defScope (top 20)) := ⟨rfl, rfl, rfl, by decide +kernel, rfl, by decide +kernel, by decide +kernel⟩
theorem ok_law_alike (T : Prog K mg) (n : Nat) (G_law_alike : FnOk P w K mg base CX0 n T.law_alike.f T.law_alike.fd ["_law_found", "_law_due"] (spAlike K n)) : FnOk P w K mg base CX0 (n + 1) T.law_alike.f T.law_alike.fd ["_law_found", "_law_due"] (spAlike K (n + 1)) := by
  refine T.law_alike.fn.ok sc_law_alike (fun vs H Q E h => ?len) (fun cdv A outer s H vs Q E hr h => ?body)
  case len =>
    obtain ⟨x, y, d, rfl, _⟩ := h
    rfl
  case body =>
    have hu := hu_of hr
    have hr_law_alike : Room n _ := hr
    obtain ⟨x, y, d, rfl, dx, dy, hn, hsm, k⟩ := h
    refine ⟨_, PSs.nox (pss_cons (ps_if (pt_cmpR op_isN (pv 1) pe_non (nomark _))
        (pss_one (ps_ret (pe_cmpR op_isN (pv 0) pe_non (nomark _))))
        pss_nil)
        (pss_cons (ps_if (pt_val (pe_callB call_isi (by rfl) T.isinstance (by decide +kernel) (pa_cons (pv 1) (pa_cons (pe_bltn (v := L2.V.ty "bool") (by rfl) T.bool_ (by decide +kernel) rfl) pa_nil))))
        (pss_one (ps_ret (pe_and (pe_callB call_isi (by rfl) T.isinstance (by decide +kernel) (pa_cons (pv 0) (pa_cons (pe_bltn (v := L2.V.ty "bool") (by rfl) T.bool_ (by decide +kernel) rfl) pa_nil))) (pe_one (pe_cmpR op_eq (pv 0) (pv 1) (nomark _))))))
        pss_nil)
        (pss_cons (ps_if (pt_val (pe_callB call_isi (by rfl) T.isinstance (by decide +kernel) (pa_cons (pv 1) (pa_cons (pe_bltn (v := L2.V.ty "int") (by rfl) T.int_ (by decide +kernel) rfl) pa_nil))))
        (pss_one (ps_ret (pe_and (pe_callB call_isi (by rfl) T.isinstance (by decide +kernel) (pa_cons (pv 0) (pa_cons (pe_bltn (v := L2.V.ty "int") (by rfl) T.int_ (by decide +kernel) rfl) pa_nil))) (pe_and (pe_not (pe_callB call_isi (by rfl) T.isinstance (by decide +kernel) (pa_cons (pv 0) (pa_cons (pe_bltn (v := L2.V.ty "bool") (by rfl) T.bool_ (by decide +kernel) rfl) pa_nil)))) (pe_one (pe_cmpR op_eq (pv 0) (pv 1) (nomark _)))))))
        pss_nil)
        (pss_cons (ps_if (pt_val (pe_callB call_isi (by rfl) T.isinstance (by decide +kernel) (pa_cons (pv 1) (pa_cons (pe_bltn (v := L2.V.ty "str") (by rfl) T.str_ (by decide +kernel) rfl) pa_nil))))
        (pss_one (ps_ret (pe_and (pe_callB call_isi (by rfl) T.isinstance (by decide +kernel) (pa_cons (pv 0) (pa_cons (pe_bltn (v := L2.V.ty "str") (by rfl) T.str_ (by decide +kernel) rfl) pa_nil))) (pe_one (pe_cmpR op_eq (pv 0) (pv 1) (nomark _))))))
        pss_nil)
        (pss_cons (ps_if (PW.pt (pw_or (pt_cmpR op_ne (pe_callB call_isi (by rfl) T.isinstance (by decide +kernel) (pa_cons (pv 1) (pa_cons (pe_bltn (v := L2.V.ty "tuple") (by rfl) T.tuple_ (by decide +kernel) rfl) pa_nil))) (pe_callB call_isi (by rfl) T.isinstance (by decide +kernel) (pa_cons (pv 0) (pa_cons (pe_bltn (v := L2.V.ty "tuple") (by rfl) T.tuple_ (by decide +kernel) rfl) pa_nil))) (nomark _)) (pw_or1 (pt_cmpR op_ne (pe_callB call_isi (by rfl) T.isinstance (by decide +kernel) (pa_cons (pv 1) (pa_cons (pe_bltn (v := L2.V.ty "list") (by rfl) T.list_ (by decide +kernel) rfl) pa_nil))) (pe_callB call_isi (by rfl) T.isinstance (by decide +kernel) (pa_cons (pv 0) (pa_cons (pe_bltn (v := L2.V.ty "list") (by rfl) T.list_ (by decide +kernel) rfl) pa_nil))) (nomark _)))))
        (pss_one (ps_ret pe_bl))
        pss_nil)
        (pss_cons (ps_if (pt_cmpR op_ne (pe_callB call_len_seq (by rfl) T.len PySem.boot_len (pa_cons (pv 0) pa_nil)) (pe_callB call_len_seq (by rfl) T.len PySem.boot_len (pa_cons (pv 1) pa_nil)) (nomark _))
        (pss_one (ps_ret pe_bl))
        pss_nil)
        (pss_cons (ps_for PassesOwn.never rfl (pi_range1 (by rfl) T.range (pa_cons (pe_callB call_len_seq (by rfl) T.len PySem.boot_len (pa_cons (pv 1) pa_nil)) pa_nil)) (pg_name (i := 2) sc_law_alike.nd rfl (Or.inl rfl))
        (pss_one (ps_if (pt_not (pt_val (pe_call G_law_alike hr_law_alike (by rfl) T.law_alike.g T.law_alike.fn.kp T.law_alike.bd .nil pass0 (pa_cons (pe_ix ix_seq (pv 0) (pv 2) (fun _ _ => rfl)) (pa_cons (pe_ix ix_seq (pv 1) (pv 2) (fun _ _ => rfl)) pa_nil)))))
        (pss_one (ps_ret pe_bl))
        pss_nil)))
        (pss_one (ps_ret pe_bl))))))))), ?_⟩
    refine ⟨_, rfl, rfl, _, rfl, ?_⟩
    cases dy with
    | non =>
      cases dx
      exact ifT rfl ⟨_, rfl, rfl, k⟩
    | bl c =>
      cases dx
      refine ifF rfl ⟨_, rfl, _, _, _, _, _, rfl, .ty _, .base (.bl _), kit_ty (by decide +kernel), _, rfl, iteT ?_⟩
      refine ⟨_, rfl, _, _, _, _, _, rfl, .ty _, .base (.bl _), kit_ty (by decide +kernel), _, rfl, iteT ?_⟩
      refine ⟨_, rfl, _, rfl, rfl, ?_⟩
      rw [decide_eq_true rfl]
      exact k
    | int i =>
      cases dx
      refine ifF rfl ⟨_, rfl, _, _, _, _, _, rfl, .ty _, .base (.int _), kit_ty (by decide +kernel), _, rfl, iteF ?_⟩
      refine ⟨_, rfl, _, _, _, _, _, rfl, .ty _, .base (.int _), kit_ty (by decide +kernel), _, rfl, iteT ?_⟩
      refine ⟨_, rfl, _, _, _, _, _, rfl, .ty _, .base (.int _), kit_ty (by decide +kernel), _, rfl, iteT ?_⟩
      refine ⟨_, rfl, _, _, _, _, _, rfl, .ty _, .base (.int _), kit_ty (r := false) (by decide +kernel), _, rfl, _, rfl, iteT ?_⟩
      refine ⟨_, rfl, _, rfl, rfl, ?_⟩
      rw [decide_eq_true rfl]
      exact k
    | str z =>
      cases dx
      refine ifF rfl ⟨_, rfl, _, _, _, _, _, rfl, .ty _, .base (.str _), kit_ty (by decide +kernel), _, rfl, iteF ?_⟩
      refine ⟨_, rfl, _, _, _, _, _, rfl, .ty _, .base (.str _), kit_ty (by decide +kernel), _, rfl, iteF ?_⟩
      refine ⟨_, rfl, _, _, _, _, _, rfl, .ty _, .base (.str _), kit_ty (by decide +kernel), _, rfl, iteT ?_⟩
      refine ⟨_, rfl, _, _, _, _, _, rfl, .ty _, .base (.str _), kit_ty (by decide +kernel), _, rfl, iteT ?_⟩
      refine ⟨_, rfl, _, rfl, rfl, ?_⟩
      rw [decide_eq_true rfl]
      exact k
    | @lst a xs ds ha hall =>
      cases dx with
      | @lst a' xs' _ ha' hall' =>
      refine ifF rfl ⟨_, rfl, _, _, _, _, _, rfl, .ty _, ty_list ha, kit_ty (by decide +kernel), _, rfl, iteF ?_⟩
      refine ⟨_, rfl, _, _, _, _, _, rfl, .ty _, ty_list ha, kit_ty (by decide +kernel), _, rfl, iteF ?_⟩
      refine ⟨_, rfl, _, _, _, _, _, rfl, .ty _, ty_list ha, kit_ty (by decide +kernel), _, rfl, iteF ?_⟩
      refine ⟨_, rfl, _, _, _, _, _, rfl, .ty _, ty_list ha, kit_ty (r := false) (by decide +kernel), _, rfl, _, _, _, _, _, rfl, .ty _, ty_list ha', kit_ty (r := false) (by decide +kernel), rfl, _, rfl, ?_⟩
      refine ifF rfl ⟨_, rfl, _, _, _, _, _, rfl, .ty _, ty_list ha, kit_ty (r := true) (by decide +kernel), _, rfl, _, _, _, _, _, rfl, .ty _, ty_list ha', kit_ty (r := true) (by decide +kernel), rfl, _, rfl, ?_⟩
      refine ifF rfl ?_
      have e1 := dpAll_len hall
      have e2 := dpAll_len hall'
      have hs1 : ds.length ≤ 1000 := hsm.1
      refine ⟨_, rfl, _, _, rfl, .inl ha', _, rfl, _, _, rfl, .inl ha, rfl, _, rfl, ?_⟩
      refine ifF (by rw [e1, e2]; simp) ?_
      refine ⟨_, rfl, _, _, rfl, .inl ha, _, rfl, by omega, by omega, ?_⟩
      refine for_range (lo := 0) (n := ((xs.length : Int)).toNat) (fun i σ H' => ∃ v, σ = [some (.ref a'), some (.ref a), v] ∧ H' = H) ⟨_, rfl, rfl⟩ ?_ ?_
      · rintro i σ H' hi ⟨v, rfl, rfl⟩
        have hi' : i < ds.length := by omega
        obtain ⟨x1, d1, f1, f2, f3⟩ := dpAll_at hall hi'
        obtain ⟨x2, d2, g1, g2, g3⟩ := dpAll_at hall' hi'
        have ed : d2 = d1 := Option.some.inj (g2.symm.trans f2)
        subst ed
        have hat1 : atI xs (0 + (i : Int)) = some x1 := by rw [Int.zero_add]; exact atI_nat f1
        have hat2 : atI xs' (0 + (i : Int)) = some x2 := by rw [Int.zero_add]; exact atI_nat g1
        have hdep : d2.depth < n := by
          have h1 := dep_at f2
          have h2 : PyData.depthAll ds + 1 < n + 1 := hn
          omega
        refine ⟨_, rfl, _, rfl, .inl ⟨_, _, _, _, rfl, rfl, ha', hat2, _, rfl, _, rfl, .inl ⟨_, _, _, _, rfl, rfl, ha, hat1, ?_⟩⟩⟩
        refine ⟨_, _, d2, rfl, g3, f3, hdep, small_at hsm.2 f2, _, rfl, ?_⟩
        exact iteF ⟨_, rfl, rfl⟩
      · rintro σ H' ⟨v, rfl, rfl⟩
        exact k
    | @tup a xs ds ha hall =>
      cases dx with
      | @tup a' xs' _ ha' hall' =>
      refine ifF rfl ⟨_, rfl, _, _, _, _, _, rfl, .ty _, ty_tup ha, kit_ty (by decide +kernel), _, rfl, iteF ?_⟩
      refine ⟨_, rfl, _, _, _, _, _, rfl, .ty _, ty_tup ha, kit_ty (by decide +kernel), _, rfl, iteF ?_⟩
      refine ⟨_, rfl, _, _, _, _, _, rfl, .ty _, ty_tup ha, kit_ty (by decide +kernel), _, rfl, iteF ?_⟩
      refine ⟨_, rfl, _, _, _, _, _, rfl, .ty _, ty_tup ha, kit_ty (r := true) (by decide +kernel), _, rfl, _, _, _, _, _, rfl, .ty _, ty_tup ha', kit_ty (r := true) (by decide +kernel), rfl, _, rfl, ?_⟩
      refine ifF rfl ⟨_, rfl, _, _, _, _, _, rfl, .ty _, ty_tup ha, kit_ty (r := false) (by decide +kernel), _, rfl, _, _, _, _, _, rfl, .ty _, ty_tup ha', kit_ty (r := false) (by decide +kernel), rfl, _, rfl, ?_⟩
      refine ifF rfl ?_
      have e1 := dpAll_len hall
      have e2 := dpAll_len hall'
      have hs1 : ds.length ≤ 1000 := hsm.1
      refine ⟨_, rfl, _, _, rfl, .inr ha', _, rfl, _, _, rfl, .inr ha, rfl, _, rfl, ?_⟩
      refine ifF (by rw [e1, e2]; simp) ?_
      refine ⟨_, rfl, _, _, rfl, .inr ha, _, rfl, by omega, by omega, ?_⟩
      refine for_range (lo := 0) (n := ((xs.length : Int)).toNat) (fun i σ H' => ∃ v, σ = [some (.ref a'), some (.ref a), v] ∧ H' = H) ⟨_, rfl, rfl⟩ ?_ ?_
      · rintro i σ H' hi ⟨v, rfl, rfl⟩
        have hi' : i < ds.length := by omega
        obtain ⟨x1, d1, f1, f2, f3⟩ := dpAll_at hall hi'
        obtain ⟨x2, d2, g1, g2, g3⟩ := dpAll_at hall' hi'
        have ed : d2 = d1 := Option.some.inj (g2.symm.trans f2)
        subst ed
        have hat1 : atI xs (0 + (i : Int)) = some x1 := by rw [Int.zero_add]; exact atI_nat f1
        have hat2 : atI xs' (0 + (i : Int)) = some x2 := by rw [Int.zero_add]; exact atI_nat g1
        have hdep : d2.depth < n := by
          have h1 := dep_at f2
          have h2 : PyData.depthAll ds + 1 < n + 1 := hn
          omega
        refine ⟨_, rfl, _, rfl, .inr (.inl ⟨_, _, _, _, rfl, rfl, ha', hat2, _, rfl, _, rfl, .inr (.inl ⟨_, _, _, _, rfl, rfl, ha, hat1, ?_⟩)⟩)⟩
        refine ⟨_, _, d2, rfl, g3, f3, hdep, small_at hsm.2 f2, _, rfl, ?_⟩
        exact iteF ⟨_, rfl, rfl⟩
      · rintro σ H' ⟨v, rfl, rfl⟩
        exact k
/-- so of any depth, by its levels -/
theorem ok_alike (T : Prog K mg) : ∀ n : Nat, FnOk P w K mg base CX0 n T.law_alike.f T.law_alike.fd ["_law_found", "_law_due"] (spAlike K n)
  | 0 => ⟨fun vs H Q E ⟨x, y, d, e, _⟩ => by rw [e]; rfl, fun A outer s H args us vs Q E _ _ _ _ ⟨x, y, d, _, _, _, h, _⟩ => absurd h (Nat.not_lt_zero _)⟩
  | n + 1 => ok_law_alike T n (ok_alike T n)
end
end CK

/-! The dial as plain data, and what an ask does to it. -/
namespace CK
structure DS where
  held : List (Option Int)
  marks : List Bool
  hand : Nat
  lacks : Nat
structure DS.WF (s : DS) (n : Nat) : Prop where
  h : s.held.length = n
  m : s.marks.length = n
  n : s.hand < n
def DS.new (n : Nat) : DS := ⟨List.replicate n none, List.replicate n false, 0, 0⟩
/-- the hand past the marked rooms: so many rounds at most -/
def passF : Nat → List Bool → Nat → List Bool × Nat × List Nat
  | 0, m, h => (m, h, [])
  | k + 1, m, h => if m[h]? = some true then
      let r := passF k (m.set h false) ((h + 1) % m.length)
      (r.1, r.2.1, h :: r.2.2)
    else (m, h, [])
def DS.pass (s : DS) : List Bool × Nat × List Nat := passF (s.marks.count true) s.marks s.hand
def DS.lack (s : DS) (p : Int) : DS :=
  ⟨s.held.set s.pass.2.1 (some p), s.pass.1.set s.pass.2.1 true, (s.pass.2.1 + 1) % s.held.length, s.lacks + 1⟩
def DS.hit (s : DS) (p : Int) : DS := { s with marks := s.marks.set (s.held.idxOf (some p)) true }
def DS.ask (s : DS) (p : Int) : DS := if some p ∈ s.held then s.hit p else s.lack p
/-- what an ask tells -/
def DS.tells (s : DS) (p : Int) : Bool × Option Int × List Nat :=
  if some p ∈ s.held then (false, none, []) else (true, (s.held[s.pass.2.1]?).getD none, s.pass.2.2)
def afterL (s : DS) (row : List Int) : DS := row.foldl DS.ask s
def tellsL : DS → List Int → List (Bool × Option Int × List Nat)
  | _, [] => []
  | s, p :: r => s.tells p :: tellsL (s.ask p) r
theorem afterL_snoc (s : DS) (xs : List Int) (p : Int) : afterL s (xs ++ [p]) = (afterL s xs).ask p := by
  unfold afterL
  rw [List.foldl_append]
  rfl
theorem tellsL_snoc : ∀ (s : DS) (xs : List Int) (p : Int), tellsL s (xs ++ [p]) = tellsL s xs ++ [(afterL s xs).tells p]
  | _, [], _ => rfl
  | s, x :: r, p => congrArg (s.tells x :: ·) (tellsL_snoc (s.ask x) r p)
theorem tellsL_len : ∀ (s : DS) (xs : List Int), (tellsL s xs).length = xs.length
  | _, [] => rfl
  | s, x :: r => congrArg Nat.succ (tellsL_len (s.ask x) r)
/-- the places of what is true -/
def placesT : Nat → List Bool → List Nat
  | _, [] => []
  | i, b :: r => if b = true then i :: placesT (i + 1) r else placesT (i + 1) r
theorem placesT_snoc : ∀ (i : Nat) (xs : List Bool) (b : Bool), placesT i (xs ++ [b]) = placesT i xs ++ (if b = true then [i + xs.length] else [])
  | i, [], b => by
    show (if b = true then i :: [] else []) = [] ++ _
    rfl
  | i, x :: r, b => by
    show (if x = true then i :: placesT (i + 1) (r ++ [b]) else placesT (i + 1) (r ++ [b])) = (if x = true then i :: placesT (i + 1) r else placesT (i + 1) r) ++ _
    rw [placesT_snoc (i + 1) r b]
    have e : i + 1 + r.length = i + (x :: r).length := by simp; omega
    rw [e]
    by_cases h : x = true
    · rw [if_pos h, if_pos h]; rfl
    · rw [if_neg h, if_neg h]
theorem placesT_le : ∀ (i : Nat) (xs : List Bool), (placesT i xs).length ≤ xs.length
  | _, [] => Nat.le_refl _
  | i, x :: r => by
    have q := placesT_le (i + 1) r
    unfold placesT
    split
    · simpa using q
    · simp; omega
/-- the line of the other rules -/
def lineStep (n : Nat) (re : Bool) (l : List Int) (p : Int) : List Int :=
  if p ∈ l then (if re = true then l.eraseIdx (l.idxOf p) ++ [p] else l) else (if l.length = n then l.eraseIdx 0 else l) ++ [p]
def lineAt (n : Nat) (re : Bool) (row : List Int) : List Int := row.foldl (lineStep n re) []
def lineL (n : Nat) (re : Bool) : List Int → List Int → List Bool
  | _, [] => []
  | l, p :: r => (!decide (p ∈ l)) :: lineL n re (lineStep n re l p) r
theorem lineAt_snoc (n : Nat) (re : Bool) (xs : List Int) (p : Int) : lineAt n re (xs ++ [p]) = lineStep n re (lineAt n re xs) p := by
  unfold lineAt
  rw [List.foldl_append]
  rfl
theorem lineL_snoc : ∀ (n : Nat) (re : Bool) (l xs : List Int) (p : Int), lineL n re l (xs ++ [p]) = lineL n re l xs ++ [!decide (p ∈ xs.foldl (lineStep n re) l)]
  | _, _, _, [], _ => rfl
  | n, re, l, x :: r, p => congrArg (_ :: ·) (lineL_snoc n re (lineStep n re l x) r p)
theorem lineL_len : ∀ (n : Nat) (re : Bool) (l xs : List Int), (lineL n re l xs).length = xs.length
  | _, _, _, [] => rfl
  | n, re, l, x :: r => congrArg Nat.succ (lineL_len n re (lineStep n re l x) r)
structure LineOk (n : Nat) (l : List Int) : Prop where
  nd : l.Nodup
  le : l.length ≤ n
theorem erase_line {l : List Int} (nd : l.Nodup) (p : Int) : l.eraseIdx (l.idxOf p) = l.filter (· != p) := by
  rw [← List.erase_eq_eraseIdx_of_idxOf (a := p) (l := l) (i := l.idxOf p) rfl]
  exact nd.erase_eq_filter p
theorem line_ok {n : Nat} {re : Bool} {l : List Int} {p : Int} (h : LineOk n l) (hn : 0 < n) : LineOk n (lineStep n re l p) := by
  unfold lineStep
  split
  · rename_i hp
    split
    · have hlt := List.idxOf_lt_length_of_mem hp
      have e := erase_line h.nd p
      refine ⟨?_, ?_⟩
      · rw [e]
        rw [List.nodup_append]
        refine ⟨h.nd.filter _, by simp, fun a ha b hb => ?_⟩
        have hb' : b = p := by simpa using hb
        have ha' : a ≠ p := by
          have := (List.mem_filter.mp ha).2
          simpa using this
        rw [hb']
        exact ha'
      · rw [List.length_append, List.length_eraseIdx_of_lt hlt]
        have := h.le
        simp
        omega
    · exact h
  · rename_i hp
    split
    · rename_i hl
      refine ⟨?_, ?_⟩
      · rw [List.nodup_append]
        refine ⟨h.nd.sublist (List.eraseIdx_sublist _ _), by simp, fun a ha b hb => ?_⟩
        have hb' : b = p := by simpa using hb
        intro z
        rw [z, hb'] at ha
        exact hp ((List.eraseIdx_sublist l 0).subset ha)
      · rw [List.length_append, List.length_eraseIdx_of_lt (by omega)]
        have := h.le
        simp
        omega
    · refine ⟨?_, ?_⟩
      · rw [List.nodup_append]
        refine ⟨h.nd, by simp, fun a ha b hb => ?_⟩
        have hb' : b = p := by simpa using hb
        intro z
        rw [z, hb'] at ha
        exact hp ha
      · rw [List.length_append]
        have := h.le
        simp
        omega
theorem lineAt_ok {n : Nat} {re : Bool} (hn : 0 < n) (row : List Int) : LineOk n (lineAt n re row) := by
  have q : ∀ (row l : List Int), LineOk n l → LineOk n (row.foldl (lineStep n re) l) := by
    intro row
    induction row with
    | nil => exact fun l h => h
    | cons p r ih => exact fun l h => ih _ (line_ok h hn)
  exact q row [] ⟨by simp, by simp⟩
/-- the lacks by a rule: which asks, their places -/
inductive Rl where
  | hand | unseen | first
def Rl.s : Rl → PySem.Str
  | .hand => "hand"
  | .unseen => "unseen"
  | .first => "first"
def lackB (n : Nat) : Rl → List Int → List Bool
  | .hand, row => (tellsL (DS.new n) row).map (·.1)
  | .unseen, row => lineL n true [] row
  | .first, row => lineL n false [] row
def lacksR (n : Nat) (rule : Rl) (row : List Int) : List Nat := placesT 0 (lackB n rule row)
/-- what the law's own going keeps by a rule -/
def keptR (n : Nat) : Rl → List Int → List Int
  | .hand, _ => []
  | .unseen, row => lineAt n true row
  | .first, row => lineAt n false row
def dialR (n : Nat) : Rl → List Int → DS
  | .hand, row => afterL (DS.new n) row
  | _, _ => DS.new n
def lackR (n : Nat) (rule : Rl) (row : List Int) (p : Int) : Bool := match rule with
  | .hand => ((afterL (DS.new n) row).tells p).1
  | _ => !decide (p ∈ keptR n rule row)
theorem lackB_snoc (n : Nat) (rule : Rl) (row : List Int) (p : Int) : lackB n rule (row ++ [p]) = lackB n rule row ++ [lackR n rule row p] := by
  cases rule
  · show (tellsL (DS.new n) (row ++ [p])).map (·.1) = _
    rw [tellsL_snoc, List.map_append]
    rfl
  · exact lineL_snoc n true [] row p
  · exact lineL_snoc n false [] row p
theorem lackB_len (n : Nat) (rule : Rl) (row : List Int) : (lackB n rule row).length = row.length := by
  cases rule
  · show ((tellsL (DS.new n) row).map (·.1)).length = _
    rw [List.length_map, tellsL_len]
  · exact lineL_len _ _ _ _
  · exact lineL_len _ _ _ _
theorem lacksR_le (n : Nat) (rule : Rl) (row : List Int) : (lacksR n rule row).length ≤ row.length := by
  have q := placesT_le 0 (lackB n rule row)
  rw [lackB_len] at q
  exact q
theorem count_set {m : List Bool} {h : Nat} (e : m[h]? = some true) : (m.set h false).count true + 1 = m.count true := by
  induction m generalizing h with
  | nil => simp at e
  | cons a r ih =>
    cases h with
    | zero =>
      have ea : a = true := Option.some.inj e
      subst ea
      simp
    | succ h =>
      have e' : r[h]? = some true := e
      have q := ih e'
      simp only [List.set_cons_succ, List.count_cons]
      omega
theorem count_pos {m : List Bool} {h : Nat} (e : m[h]? = some true) : 0 < m.count true := by
  have := count_set e
  omega
theorem passF_len : ∀ (k : Nat) (m : List Bool) (h : Nat), (passF k m h).1.length = m.length
  | 0, _, _ => rfl
  | k + 1, m, h => by
    unfold passF
    split
    · have q := passF_len k (m.set h false) ((h + 1) % m.length)
      rw [List.length_set] at q
      exact q
    · rfl
theorem passF_lt : ∀ (k : Nat) (m : List Bool) (h : Nat), h < m.length → (passF k m h).2.1 < m.length
  | 0, _, _, l => l
  | k + 1, m, h, l => by
    unfold passF
    split
    · have q := passF_lt k (m.set h false) ((h + 1) % m.length) (by rw [List.length_set]; exact Nat.mod_lt _ (by omega))
      rw [List.length_set] at q
      exact q
    · exact l
/-- the loop's own word: from (m, h), with l passed so far, the end is e -/
structure PassInv (e : List Bool × Nat × List Nat) (m : List Bool) (h : Nat) (l : List Nat) : Prop where
  a : (passF (m.count true) m h).1 = e.1
  b : (passF (m.count true) m h).2.1 = e.2.1
  c : l ++ (passF (m.count true) m h).2.2 = e.2.2
theorem PassInv.start (m : List Bool) (h : Nat) : PassInv (passF (m.count true) m h) m h [] := ⟨rfl, rfl, rfl⟩
theorem passF_step {m : List Bool} {h : Nat} (e : m[h]? = some true) : passF (m.count true) m h =
    ((passF ((m.set h false).count true) (m.set h false) ((h + 1) % m.length)).1, (passF ((m.set h false).count true) (m.set h false) ((h + 1) % m.length)).2.1, h :: (passF ((m.set h false).count true) (m.set h false) ((h + 1) % m.length)).2.2) := by
  rw [← count_set e]
  show (if m[h]? = some true then _ else _) = _
  rw [if_pos e]
theorem passF_stop {m : List Bool} {h k : Nat} (e : m[h]? = some false) : passF k m h = (m, h, []) := by
  cases k with
  | zero => rfl
  | succ k =>
    show (if m[h]? = some true then _ else _) = _
    rw [if_neg (by rw [e]; simp)]
theorem PassInv.go {e : List Bool × Nat × List Nat} {m : List Bool} {h : Nat} {l : List Nat} (I : PassInv e m h l) (t : m[h]? = some true) : PassInv e (m.set h false) ((h + 1) % m.length) (l ++ [h]) := by
  obtain ⟨a, b, c⟩ := I
  rw [passF_step t] at a b c
  refine ⟨a, b, ?_⟩
  rw [← c, List.append_assoc]
  rfl
theorem PassInv.end {e : List Bool × Nat × List Nat} {m : List Bool} {h : Nat} {l : List Nat} (I : PassInv e m h l) (t : m[h]? = some false) : e = (m, h, l) := by
  obtain ⟨a, b, c⟩ := I
  rw [passF_stop t] at a b c
  obtain ⟨x, y, z⟩ := e
  simp only [List.append_nil] at a b c
  rw [a, b, c]
theorem DS.WF.pos {s : DS} {n : Nat} (w : s.WF n) : 0 < n := Nat.lt_of_le_of_lt (Nat.zero_le _) w.n
theorem DS.WF.passlt {s : DS} {n : Nat} (w : s.WF n) : s.pass.2.1 < n := by
  have q := passF_lt (s.marks.count true) s.marks s.hand (by rw [w.m]; exact w.n)
  rw [w.m] at q
  exact q
theorem DS.WF.passm {s : DS} {n : Nat} (w : s.WF n) : s.pass.1.length = n := by
  have q := passF_len (s.marks.count true) s.marks s.hand
  rw [w.m] at q
  exact q
theorem DS.new_wf {n : Nat} (h : 0 < n) : (DS.new n).WF n := ⟨List.length_replicate, List.length_replicate, h⟩
theorem DS.lack_wf {s : DS} {n : Nat} {p : Int} (w : s.WF n) : (s.lack p).WF n := by
  refine ⟨?_, ?_, ?_⟩
  · show (s.held.set _ _).length = n
    rw [List.length_set]; exact w.h
  · show (s.pass.1.set _ _).length = n
    rw [List.length_set]; exact w.passm
  · show (s.pass.2.1 + 1) % s.held.length < n
    rw [w.h]; exact Nat.mod_lt _ w.pos
theorem DS.hit_wf {s : DS} {n : Nat} {p : Int} (w : s.WF n) : (s.hit p).WF n :=
  ⟨w.h, by show (s.marks.set _ _).length = n; rw [List.length_set]; exact w.m, w.n⟩
theorem DS.ask_wf {s : DS} {n : Nat} {p : Int} (w : s.WF n) : (s.ask p).WF n := by
  unfold DS.ask
  split
  · exact hit_wf w
  · exact lack_wf w
theorem afterL_wf {s : DS} {n : Nat} (w : s.WF n) : ∀ row : List Int, (afterL s row).WF n := by
  intro row
  induction row generalizing s with
  | nil => exact w
  | cons p r ih => exact ih (DS.ask_wf w)
/-- the first place of a thing -/
theorem idx_at {α : Type} [BEq α] [LawfulBEq α] {l : List α} {x : α} (h : x ∈ l) : l[l.idxOf x]? = some x := by
  have q := List.idxOf_lt_length_of_mem h
  rw [List.getElem?_eq_getElem q]
  exact congrArg some (List.getElem_idxOf q)
theorem idx_no {α : Type} [BEq α] [LawfulBEq α] : ∀ {l : List α} {x y : α} {m : Nat}, m < l.idxOf x → l[m]? = some y → ¬ y = x
  | [], _, _, _, h, _ => by simp at h
  | a :: r, x, y, m, h, e => by
    intro q
    subst q
    by_cases ha : a = y
    · subst ha
      simp [List.idxOf_cons] at h
    · have hb : (a == y) = false := by simpa using ha
      rw [List.idxOf_cons, hb] at h
      cases m with
      | zero => exact ha (Option.some.inj e)
      | succ m => exact idx_no (l := r) (m := m) (by simpa using h) e rfl
theorem take_snoc {α : Type} {l : List α} {i : Nat} {x : α} (h : l[i]? = some x) : l.take (i + 1) = l.take i ++ [x] := by
  rw [List.take_add_one, h]
  rfl
/-! ### as values -/
open PySem L2
def pgV : Option Int → V
  | none => .non
  | some p => .int p
abbrev HL (l : List (Option Int)) : List V := l.map pgV
abbrev BL (l : List Bool) : List V := l.map V.bl
theorem flat_hl (l : List (Option Int)) : (HL l).all flatV = true := by
  rw [List.all_eq_true]
  intro x hx
  obtain ⟨n, _, rfl⟩ := List.mem_map.mp hx
  cases n <;> rfl
theorem eqV_pg (a : Option Int) (p : Int) : eqV (pgV a) (.int p) = decide (a = some p) := by
  cases a with
  | none => rfl
  | some n =>
    show (n == p) = _
    by_cases h : n = p <;> simp [h]
theorem inV_hl (p : Int) (l : List (Option Int)) : inV (V.int p) (HL l) = decide (some p ∈ l) := by
  induction l with
  | nil => rfl
  | cons a r ih =>
    show (eqV (pgV a) (V.int p) || inV (V.int p) (HL r)) = _
    rw [ih, eqV_pg]
    by_cases h : a = some p
    · simp [h]
    · have h2 : ¬ some p = a := fun z => h z.symm
      simp [h, h2]
theorem hl_set {l : List (Option Int)} {j : Nat} {p : Int} : (HL l).set j (V.int p) = HL (l.set j (some p)) := by
  show (l.map pgV).set j (pgV (some p)) = (l.set j (some p)).map pgV
  rw [List.map_set]
theorem bl_set {l : List Bool} {j : Nat} {b : Bool} : (BL l).set j (V.bl b) = BL (l.set j b) := by
  show (l.map V.bl).set j (V.bl b) = (l.set j b).map V.bl
  rw [List.map_set]
theorem bl_at {l : List Bool} {j : Nat} {b : Bool} (h : l[j]? = some b) : (BL l)[j]? = some (V.bl b) := by
  rw [List.getElem?_map, h]
  rfl
theorem hl_at {l : List (Option Int)} {j : Nat} {b : Option Int} (h : l[j]? = some b) : (HL l)[j]? = some (pgV b) := by
  rw [List.getElem?_map, h]
  rfl
abbrev NL (l : List Nat) : List V := l.map fun n : Nat => V.int (n : Int)
/-- rReps: n times one thing -/
theorem rep_one {x : V} {n : Nat} : (List.replicate n [x]).flatten = List.replicate n x := by
  induction n with
  | zero => rfl
  | succ n ih =>
    rw [List.replicate_succ, List.flatten_cons, ih, List.replicate_succ]
    rfl
theorem hl_new (n : Nat) : HL (DS.new n).held = List.replicate n .non := by
  show (List.replicate n none).map pgV = _
  rw [List.map_replicate]
  rfl
theorem bl_new (n : Nat) : BL (DS.new n).marks = List.replicate n (.bl false) := by
  show (List.replicate n false).map V.bl = _
  rw [List.map_replicate]
end CK

/-! The program's checks. -/
namespace CK
open PySem PySem.Spec PyProof.Rows L2
theorem NL_snoc {ns : List Nat} {n : Nat} : NL ns ++ [V.int (n : Int)] = NL (ns ++ [n]) := by
  show ns.map _ ++ _ = (ns ++ [n]).map _
  rw [List.map_append]
  rfl
theorem NL_il (ns : List Nat) : NL ns = il (ns.map fun n : Nat => (n : Int)) := by
  show ns.map _ = (ns.map _).map V.int
  rw [List.map_map]
  rfl
theorem BoxAt.off {H : Hp} {b l c : Addr} (B : BoxAt H b l) (h : H c = none) : c ∉ [b, l] := by
  obtain ⟨_, _, q1, q2, _⟩ := B.ex
  have z1 := ne_fresh q1 h
  have z2 := ne_fresh q2 h
  simp [Ne.symm z1, Ne.symm z2]
theorem BoxAt.notup {H : Hp} {b l : Addr} (B : BoxAt H b l) : ∀ d ∈ [b, l], ∀ u, H d ≠ some (.tup u) := by
  obtain ⟨_, _, q1, q2, _⟩ := B.ex
  intro d hd u z
  rcases List.mem_cons.mp hd with e | e
  · rw [e, q1] at z; cases z
  · rw [List.mem_singleton.mp e, q2] at z; cases z
def spCheckRooms : Sp := fun vs H Q _ => ∃ n : Int, vs = [.int n] ∧ 1 ≤ n ∧ n ≤ 8 ∧ Q .non H
def spIsPage : Sp := fun vs H Q _ => ∃ p : Int, vs = [.int p] ∧ Q (.bl (decide (0 ≤ p ∧ p < 12))) H
/-- a row as it may be handed in -/
def RowOk (row : List Int) : Prop := row.length ≤ 100 ∧ ∀ p ∈ row, 0 ≤ p ∧ p < 12
def spCheckRow (K : PySem.W.Frag) : Sp := fun vs H Q _ => ∃ (r : Addr) (row : List Int), vs = [.ref r] ∧ SqL K H r (il row) ∧ RowOk row ∧ ∀ H', Same H H' → Q .non H'
def spLaw (K : PySem.W.Frag) : Sp := fun vs H Q _ => ∃ (a : Addr) (ns : List Int), vs = [.ref a] ∧ SqL K H a (il ns) ∧ ns.length ≤ 63 ∧ ∀ H', Q (.bl true) H'
theorem depth_pd (a : List Int) : (pd a).depth = 1 := by
  show PyData.depthAll _ + 1 = 1
  rw [dep_il]
theorem small_ints : ∀ a : List Int, smallAll (a.map PyData.int)
  | [] => trivial
  | _ :: r => ⟨trivial, small_ints r⟩
theorem small_pd {a : List Int} (h : a.length ≤ 1000) : smallD (pd a) := ⟨by rw [List.length_map]; exact h, small_ints a⟩
section
variable {P : Program} {w : World} {K : PySem.W.Frag} {mg : Str → Option Value} {base : Heap}
theorem sc_check_rooms : FnScope ["rooms"] ["rooms"] (defScope (top 10)) := ⟨rfl, rfl, rfl, by decide +kernel, rfl, by decide +kernel, by decide +kernel⟩
theorem ok_check_rooms (T : Prog K mg) : FnOk P w K mg base CX0 1 T.check_rooms.f T.check_rooms.fd ["rooms"] spCheckRooms := by
  refine T.check_rooms.fn.ok sc_check_rooms (fun vs H Q E h => ?len) (fun cdv A outer s H vs Q E hr h => ?body)
  case len =>
    obtain ⟨n, rfl, _⟩ := h
    rfl
  case body =>
    have hu := hu_of hr
    obtain ⟨n, rfl, n1, n8, k⟩ := h
    refine ⟨_, PSs.nox (pss_one (ps_if (pt_not (pt_chain op_le op_le pe_int (pv 0) (pe_glob (v := L2.V.int 8) rfl T.g_MOST_ROOMS ⟨_, rfl⟩)))
        (pss_one ps_never)
        pss_nil)), ?_⟩
    refine ⟨_, rfl, _, _, rfl, rfl, _, rfl, ifT (decide_eq_true n1) ⟨_, _, rfl, rfl, _, rfl, ?_⟩⟩
    exact ifF (by rw [decide_eq_true n8]; rfl) k
theorem sc_is_page : FnScope ["page"] ["page"] (defScope (top 11)) := ⟨rfl, rfl, rfl, by decide +kernel, rfl, by decide +kernel, by decide +kernel⟩
theorem ok_is_page (T : Prog K mg) : FnOk P w K mg base CX0 1 T.is_page.f T.is_page.fd ["page"] spIsPage := by
  refine T.is_page.fn.ok sc_is_page (fun vs H Q E h => ?len) (fun cdv A outer s H vs Q E hr h => ?body)
  case len =>
    obtain ⟨n, rfl, _⟩ := h
    rfl
  case body =>
    have hu := hu_of hr
    obtain ⟨p, rfl, k⟩ := h
    refine ⟨_, PSs.nox (pss_one (ps_ret (pe_chain op_le op_lt pe_int (pv 0) (pe_glob (v := L2.V.int 12) rfl T.g_PAGES ⟨_, rfl⟩)))), ?_⟩
    refine ⟨_, rfl, _, _, rfl, rfl, _, rfl, ?_⟩
    by_cases h0 : 0 ≤ p
    · refine ifT (decide_eq_true h0) ⟨_, _, rfl, rfl, ?_⟩
      have e : decide (p < 12) = decide (0 ≤ p ∧ p < 12) := by simp [h0]
      rw [← e] at k
      exact k
    · refine ifF (decide_eq_false h0) ?_
      have e : false = decide (0 ≤ p ∧ p < 12) := by simp [h0]
      rw [← e] at k
      exact k
theorem sc_check_row : FnScope ["row", "place", "page"] ["row"] (defScope (top 13)) := ⟨rfl, rfl, rfl, by decide +kernel, rfl, by decide +kernel, by decide +kernel⟩
theorem ok_check_row (T : Prog K mg) : FnOk P w K mg base CX0 2 T.check_row.f T.check_row.fd ["row"] (spCheckRow K) := by
  have G_is_page := ok_is_page (P := P) (w := w) (base := base) T
  refine T.check_row.fn.ok sc_check_row (fun vs H Q E h => ?len) (fun cdv A outer s H vs Q E hr h => ?body)
  case len =>
    obtain ⟨r, row, rfl, _⟩ := h
    rfl
  case body =>
    have hr_is_page : Room 1 _ := hr.mono (by decide)
    have hu := hu_of hr
    obtain ⟨r, row, rfl, hS, hR, k⟩ := h
    refine ⟨_, PSs.nox (pss_one (ps_for PassesOwn.never rfl (pi_enum (by rfl) T.enumerate (pa_cons (pv 0) pa_nil)) (pg_tup rfl (pgs_cons (pg_name (i := 1) sc_check_row.nd rfl (Or.inl rfl)) (pgs_cons (pg_name (i := 2) sc_check_row.nd rfl (Or.inl rfl)) pgs_nil)))
        (pss_one (ps_if (PW.pt (pw_or (pt_cmpR op_eq (pv 1) (pe_glob (v := L2.V.int 100) rfl T.g_MOST_ASKS ⟨_, rfl⟩) (nomark _)) (pw_or1 (pt_not (pt_val (pe_call G_is_page hr_is_page (by rfl) T.is_page.g T.is_page.fn.kp T.is_page.bd .nil pass0 (pa_cons (pv 2) pa_nil)))))))
        (pss_one ps_never)
        pss_nil)))), ?_⟩
    refine ⟨_, rfl, r, _, rfl, hS, for_it (walk_enum (K := K) (a := r) (xs := il row)) (fun i σ H' => (∃ v1 v2, σ = [some (.ref r), v1, v2]) ∧ Same H H') ⟨⟨_, _, rfl⟩, Same.refl H⟩ (fun i σ H' _ h => h.2.seq hS) ?_ ?_⟩
    · rintro i x σ H1 H2 hi ⟨⟨v1, v2, rfl⟩, s1⟩ ⟨t, a, b, rfl, ht, rfl, ha, hb⟩
      have ea : V.int (i : Nat) = a := Option.some.inj ha
      subst ea
      obtain ⟨p, hp, rfl⟩ := il_get hb
      have hpg := hR.2 p (List.mem_of_getElem? hp)
      rw [il_len] at hi
      have hlen := hR.1
      refine ⟨t, _, rfl, SqT.of upd_same, rfl, _, _, rfl, _, _, rfl, rfl, ?_⟩
      refine ⟨_, rfl, rfl, _, rfl, ifF (decide_eq_false (by intro z; injection z with z; omega)) ?_⟩
      refine ⟨_, rfl, p, rfl, _, rfl, ifF (by rw [decide_eq_true hpg]; rfl) ?_⟩
      exact ⟨⟨_, _, rfl⟩, s1.trans (Same.new ht)⟩
    · rintro σ H' ⟨⟨v1, v2, rfl⟩, s1⟩
      exact k H' s1
end
end CK

/-! The program's dial. -/
namespace CK
open PySem PySem.Spec PyProof.Rows L2
def spCheckPage : Sp := fun vs H Q _ => ∃ p : Int, vs = [.int p] ∧ 0 ≤ p ∧ p < 12 ∧ Q .non H
section
variable {P : Program} {w : World} {K : PySem.W.Frag} {mg : Str → Option Value} {base : Heap}
theorem sc_check_page : FnScope ["page"] ["page"] (defScope (top 12)) := ⟨rfl, rfl, rfl, by decide +kernel, rfl, by decide +kernel, by decide +kernel⟩
theorem ok_check_page (T : Prog K mg) : FnOk P w K mg base CX0 2 T.check_page.f T.check_page.fd ["page"] spCheckPage := by
  have G_is_page := ok_is_page (P := P) (w := w) (base := base) T
  refine T.check_page.fn.ok sc_check_page (fun vs H Q E h => ?len) (fun cdv A outer s H vs Q E hr h => ?body)
  case len =>
    obtain ⟨n, rfl, _⟩ := h
    rfl
  case body =>
    have hr_is_page : Room 1 _ := hr.mono (by decide)
    have hu := hu_of hr
    obtain ⟨p, rfl, p0, p1, k⟩ := h
    refine ⟨_, PSs.nox (pss_one (ps_if (pt_not (pt_val (pe_call G_is_page hr_is_page (by rfl) T.is_page.g T.is_page.fn.kp T.is_page.bd .nil pass0 (pa_cons (pv 0) pa_nil))))
        (pss_one ps_never)
        pss_nil)), ?_⟩
    refine ⟨_, rfl, p, rfl, _, rfl, ?_⟩
    exact ifF (by rw [decide_eq_true ⟨p0, p1⟩]; rfl) k
/-! ### the dial -/
abbrev flD (a b : Addr) (h k : Int) : List (Str × V) := [("_held", .ref a), ("_marks", .ref b), ("_hand", .int h), ("_lacks", .int k)]
/-- a Dial of the class at C stands at p, its rooms' pages at a, their marks at b: s -/
structure DialIs (C : Addr) (H : Hp) (p a b : Addr) (s : DS) : Prop where
  ne : a ≠ b
  ob : ∃ dx, H p = some (.ins C dx (flD a b s.hand s.lacks))
  he : H a = some (.lst (HL s.held))
  ma : H b = some (.lst (BL s.marks))
theorem DialIs.pa {C : Addr} {H : Hp} {p a b : Addr} {s : DS} (D : DialIs C H p a b s) : p ≠ a := by
  obtain ⟨dx, h⟩ := D.ob
  exact ne_of h D.he (by intro z; cases z)
theorem DialIs.pb {C : Addr} {H : Hp} {p a b : Addr} {s : DS} (D : DialIs C H p a b s) : p ≠ b := by
  obtain ⟨dx, h⟩ := D.ob
  exact ne_of h D.ma (by intro z; cases z)
theorem DialIs.but {S : List Addr} {C : Addr} {H H' : Hp} {p a b : Addr} {s : DS} (D : DialIs C H p a b s) (k : But S H H') (h1 : p ∉ S) (h2 : a ∉ S) (h3 : b ∉ S) : DialIs C H' p a b s := by
  obtain ⟨dx, h⟩ := D.ob
  exact ⟨D.ne, ⟨dx, k _ _ h h1⟩, k _ _ D.he h2, k _ _ D.ma h3⟩
theorem DialIs.same {C : Addr} {H H' : Hp} {p a b : Addr} {s : DS} (D : DialIs C H p a b s) (k : Same H H') : DialIs C H' p a b s := D.but (S := []) (But.of k) (by simp) (by simp) (by simp)
/-- the hand goes on by one -/
def spGoOn (C : Addr) : Sp := fun vs H Q _ => ∃ (p a b dx : Addr) (xs : List V) (h k : Nat), vs = [.ref p] ∧ H p = some (.ins C dx (flD a b h k)) ∧ H a = some (.lst xs) ∧ 0 < xs.length ∧
  Q .non (upd H p (.ins C dx (flD a b ((h + 1) % xs.length : Nat) k)))
theorem sc_Dial_go_on : FnScope ["self"] ["self"] (defScope (inClass (top 15) 8)) := ⟨rfl, rfl, rfl, by decide +kernel, rfl, by decide +kernel, by decide +kernel⟩
theorem ok_Dial_go_on (T : Prog K mg) : FnOk P w K mg base CX0 1 T.Dial.go_on.f T.Dial.go_on.fd ["self"] (spGoOn T.Dial.C) := by
  refine T.Dial.go_on.fn.ok sc_Dial_go_on (fun vs H Q E h => ?len) (fun cdv A outer s H vs Q E hr h => ?body)
  case len =>
    obtain ⟨p, a, b, dx, xs, h, k, rfl, _⟩ := h
    rfl
  case body =>
    have hu := hu_of hr
    obtain ⟨p, a, b, dx, xs, h, k, rfl, hp, ha, hx, q⟩ := h
    refine ⟨_, PSs.nox (pss_one (ps_fld (pv 0) (pe_op op_mod (pe_op op_add (pe_fld (pv 0) rfl) pe_int) (pe_callB call_len_seq (by rfl) T.len PySem.boot_len (pa_cons (pe_fld (pv 0) rfl) pa_nil))) rfl)), ?_⟩
    refine ⟨_, rfl, p, _, dx, _, _, rfl, hp, T.Dial.cl, T.Dial.n_hand, rfl, _, _, rfl, rfl, ?_⟩
    refine ⟨_, rfl, p, _, dx, _, _, rfl, hp, T.Dial.cl, T.Dial.n_held, rfl, a, xs, rfl, .inl (SqL.of ha), _, _, rfl, rfl, int0 (by omega), ?_⟩
    refine ⟨_, rfl, p, _, dx, _, rfl, hp, T.Dial.cl, T.Dial.n_hand, by show 4 < 1000; decide, ?_⟩
    have e : (((h : Nat) : Int) + 1) % ((xs.length : Nat) : Int) = (((h + 1) % xs.length : Nat) : Int) := by
      rw [Int.natCast_emod]
      rfl
    have e2 : putF "_hand" (V.int ((((h : Nat) : Int) + 1) % ((xs.length : Nat) : Int))) (flD a b h k) = flD a b ((h + 1) % xs.length : Nat) k := by
      rw [e]
      rfl
    exact e2 ▸ q
/-- a new dial of n rooms -/
def spDInit (C : Addr) : Sp := fun vs H Q _ => ∃ (p dx : Addr) (n : Int), vs = [.ref p, .int n] ∧ H p = some (.ins C dx []) ∧ 1 ≤ n ∧ n ≤ 8 ∧
  ∀ (a b : Addr) (H' : Hp), H a = none → H b = none → DialIs C H' p a b (DS.new n.toNat) → But [p] H H' → Q .non H'
theorem sc_Dial_init : FnScope ["self", "rooms"] ["self", "rooms"] (defScope (inClass (top 15) 0)) := ⟨rfl, rfl, rfl, by decide +kernel, rfl, by decide +kernel, by decide +kernel⟩
theorem ok_Dial_init (T : Prog K mg) : FnOk P w K mg base CX0 2 T.Dial.init.f T.Dial.init.fd ["self", "rooms"] (spDInit T.Dial.C) := by
  have G_check_rooms := ok_check_rooms (P := P) (w := w) (base := base) T
  refine T.Dial.init.fn.ok sc_Dial_init (fun vs H Q E h => ?len) (fun cdv A outer s H vs Q E hr h => ?body)
  case len =>
    obtain ⟨p, dx, n, rfl, _⟩ := h
    rfl
  case body =>
    have hr_check_rooms : Room 1 _ := hr.mono (by decide)
    have hu := hu_of hr
    obtain ⟨p, dx, n, rfl, hp, n1, n8, k⟩ := h
    refine ⟨_, PSs.nox (pss_cons (ps_expr (pe_call G_check_rooms hr_check_rooms (by rfl) T.check_rooms.g T.check_rooms.fn.kp T.check_rooms.bd .nil pass0 (pa_cons (pv 1) pa_nil)))
        (pss_cons (ps_fld (pv 0) (pe_op op_rep (pe_lst (pa_cons pe_non pa_nil)) (pv 1)) rfl)
        (pss_cons (ps_fld (pv 0) (pe_op op_rep (pe_lst (pa_cons pe_bl pa_nil)) (pv 1)) rfl)
        (pss_cons (ps_fld (pv 0) pe_int rfl)
        (pss_one (ps_fld (pv 0) pe_int rfl)))))), ?_⟩
    refine ⟨_, rfl, n, rfl, n1, n8, ?_⟩
    -- self._held = [None] * rooms
    refine ⟨szd rfl, fun e he => ?_⟩
    have pe : p ≠ e := ne_fresh hp he
    refine ⟨_, rfl, e, n, _, rfl, rfl, upd_same, by omega, by omega, sz (by show 1 * n.toNat ≤ 100000; omega), fun a ha => ?_⟩
    have s1 : Same H (upd H e (.lst [.non])) := Same.new he
    have haH := Same.back s1 ha
    have hp1 : upd H e (.lst [.non]) p = some (.ins T.Dial.C dx []) := s1 _ _ hp
    have pa : p ≠ a := ne_fresh hp1 ha
    have ea : e ≠ a := ne_fresh (H := upd H e (.lst [.non])) upd_same ha
    refine ⟨_, rfl, p, _, dx, _, rfl, by rw [upd_ne pa]; exact hp1, T.Dial.cl, T.Dial.n_held, by show 0 < 1000; decide, ?_⟩
    -- self._marks = [False] * rooms
    refine ⟨szd rfl, fun e2 he2 => ?_⟩
    have pe2 : p ≠ e2 := ne_fresh upd_same he2
    have ae2 : a ≠ e2 := ne_fresh (by rw [upd_ne (Ne.symm pa)]; exact upd_same) he2
    refine ⟨_, rfl, e2, n, _, rfl, rfl, upd_same, by omega, by omega, sz (by show 1 * n.toNat ≤ 100000; omega), fun b hb => ?_⟩
    have pb : p ≠ b := ne_fresh (by rw [upd_ne pe2]; exact upd_same) hb
    have ab : a ≠ b := ne_fresh (by rw [upd_ne ae2, upd_ne (Ne.symm pa)]; exact upd_same) hb
    refine ⟨_, rfl, p, _, dx, _, rfl, by rw [upd_ne pb, upd_ne pe2]; exact upd_same, T.Dial.cl, T.Dial.n_marks, by show 1 < 1000; decide, ?_⟩
    -- self._hand = 0; self._lacks = 0
    refine ⟨_, rfl, p, _, dx, _, rfl, upd_same, T.Dial.cl, T.Dial.n_hand, by show 2 < 1000; decide, ?_⟩
    refine ⟨_, rfl, p, _, dx, _, rfl, upd_same, T.Dial.cl, T.Dial.n_lacks, by show 3 < 1000; decide, ?_⟩
    rw [upd_upd, upd_upd]
    have bH : H b = none := by
      have q := hb
      by_cases z1 : b = e2
      · rw [z1] at q; rw [upd_same] at q; cases q
      rw [upd_ne z1, upd_ne (Ne.symm pb), upd_ne (Ne.symm ab)] at q
      exact Same.back s1 q
    refine k a b _ haH bH ⟨ab, ⟨dx, ?_⟩, ?_, ?_⟩ ?_
    · rw [upd_same]; rfl
    · rw [upd_ne (Ne.symm pa), upd_ne ab, upd_ne ae2, upd_ne (Ne.symm pa), upd_same, rep_one, hl_new]
    · rw [upd_ne (Ne.symm pb), upd_same, rep_one, bl_new]
    · intro c o hc hn
      have c1 : c ≠ p := by simpa using hn
      have c2 : c ≠ e := ne_fresh hc he
      have c3 : c ≠ a := ne_fresh hc haH
      have c4 : c ≠ b := ne_fresh hc bH
      have c5 : c ≠ e2 := by
        intro z
        rw [z] at hc c1 c3
        rw [upd_ne c1, upd_ne c3] at he2
        have := s1 _ _ hc
        rw [he2] at this
        cases this
      rw [upd_ne c1, upd_ne c4, upd_ne c5, upd_ne c1, upd_ne c3, upd_ne c2]
      exact hc
/-- the hand past the marked rooms -/
def spPass (C : Addr) : Sp := fun vs H Q _ => ∃ (p a b : Addr) (s : DS) (n : Nat), vs = [.ref p] ∧ DialIs C H p a b s ∧ s.WF n ∧ n ≤ 8 ∧
  ∀ (l : Addr) (H' : Hp), H l = none → H' l = some (.lst (NL s.pass.2.2)) → DialIs C H' p a b { s with marks := s.pass.1, hand := s.pass.2.1 } → But [p, b] H H' → Q (.ref l) H'
theorem sc_Dial_pass_marked : FnScope ["self", "passed"] ["self"] (defScope (inClass (top 15) 6)) := ⟨rfl, rfl, rfl, by decide +kernel, rfl, by decide +kernel, by decide +kernel⟩
theorem ok_Dial_pass_marked (T : Prog K mg) : FnOk P w K mg base CX0 2 T.Dial.pass_marked.f T.Dial.pass_marked.fd ["self"] (spPass T.Dial.C) := by
  have G_go_on := ok_Dial_go_on (P := P) (w := w) (base := base) T
  refine T.Dial.pass_marked.fn.ok sc_Dial_pass_marked (fun vs H Q E h => ?len) (fun cdv A outer s H vs Q E hr h => ?body)
  case len =>
    obtain ⟨p, a, b, s, n, rfl, _⟩ := h
    rfl
  case body =>
    have hr_go_on : Room 1 _ := hr.mono (by decide)
    have hu := hu_of hr
    obtain ⟨p, a, b, s, n, rfl, D, W, n8, k⟩ := h
    refine ⟨_, PSs.nox (pss_cons (ps_set (i := 1) sc_Dial_pass_marked.nd rfl (Or.inl rfl) (pe_lst pa_nil))
        (pss_cons (ps_while PassesOwn.never (pt_val (pe_ix ix_list (pe_fld (pv 0) rfl) (pe_fld (pv 0) rfl) (fun _ _ => rfl)))
        (pss_cons (ps_asg pe_bl (pg_sub (pe_fld (pv 0) rfl) (pe_fld (pv 0) rfl) set_list))
        (pss_cons (ps_expr (pe_bm PySem.F.plainAttrs_list PySem.F.slot_list_append PySem.F.type_list_append mt_append (pv 1) (pa_cons (pe_fld (pv 0) rfl) pa_nil)))
        (pss_one (ps_expr (pe_meth0 (pv 0) T.Dial.cl T.Dial.go_on.me G_go_on hr_go_on T.Dial.go_on.bd .nil pass0))))))
        (pss_one (ps_ret (pv 1))))), ?_⟩
    refine ⟨szd rfl, fun l hl => ?_⟩
    have s0 : Same H (upd H l (.lst [])) := Same.new hl
    let St : Nat → L2.St → Hp → Prop := fun c σ H' => ∃ (m : List Bool) (h : Nat) (acc : List Nat), σ = [some (.ref p), some (.ref l)] ∧ PassInv s.pass m h acc ∧ m.length = n ∧ h < n ∧ c = m.count true ∧ acc.length + c = s.marks.count true ∧
      DialIs T.Dial.C H' p a b { s with marks := m, hand := h } ∧ H' l = some (.lst (NL acc)) ∧ But [p, b] H H'
    refine ⟨St, ⟨_, s.marks, s.hand, [], rfl, PassInv.start _ _, W.m, W.n, rfl, by simp, D.same s0, upd_same, But.of s0⟩, ?_⟩
    rintro c σ H1 ⟨m, h, acc, rfl, I, hm, hh, rfl, hc, D1, hl1, k1⟩
    obtain ⟨dx, hp1⟩ := D1.ob
    have hcm : s.marks.count true ≤ 8 := Nat.le_trans List.count_le_length (by rw [W.m]; exact n8)
    have hat : m[h]? = some (m[h]'(by omega)) := List.getElem?_eq_getElem _
    refine ⟨_, rfl, p, _, dx, _, _, rfl, hp1, T.Dial.cl, T.Dial.n_marks, rfl, _, rfl, p, _, dx, _, _, rfl, hp1, T.Dial.cl, T.Dial.n_hand, rfl, b, _, _, _, rfl, rfl, SqL.of D1.ma, atI_nat (bl_at hat), _, rfl, ?_⟩
    have pb := D1.pb
    have pa := D1.pa
    have lp : l ≠ p := by intro z; rw [z] at hl1; rw [hp1] at hl1; cases hl1
    have lb : l ≠ b := by
      obtain ⟨dx0, hp0⟩ := D.ob
      intro z
      rw [z] at hl
      rw [D.ma] at hl
      cases hl
    have la : l ≠ a := by
      intro z
      rw [z] at hl
      rw [D.he] at hl
      cases hl
    by_cases ht : m[h]'(by omega) = true
    · rw [ht] at hat ⊢
      refine iteT ⟨fun σ' H' => ∃ c', c' < m.count true ∧ St c' σ' H', fun σ' H' q => q, ?_⟩
      -- self._marks[self._hand] = False
      refine ⟨_, rfl, p, _, dx, _, _, rfl, hp1, T.Dial.cl, T.Dial.n_marks, rfl, _, rfl, p, _, dx, _, _, rfl, hp1, T.Dial.cl, T.Dial.n_hand, rfl, b, _, _, _, rfl, rfl, D1.ma, ixn rfl (by simp; omega), ?_⟩
      rw [bl_set]
      -- passed.append(self._hand)
      have hp2 : upd H1 b (.lst (BL (m.set h false))) p = some (.ins T.Dial.C dx (flD a b h s.lacks)) := by rw [upd_ne pb]; exact hp1
      have hl2 : upd H1 b (.lst (BL (m.set h false))) l = some (.lst (NL acc)) := by rw [upd_ne lb]; exact hl1
      refine ⟨_, rfl, .inl ⟨rfl, _, SqL.of hl2⟩, _, rfl, p, _, dx, _, _, rfl, hp2, T.Dial.cl, T.Dial.n_hand, rfl, l, _, _, rfl, rfl, hl2, szl (by simp; omega), ?_⟩
      -- self._go_on()
      have hp3 : upd (upd H1 b (.lst (BL (m.set h false)))) l (.lst (NL acc ++ [V.int h])) p = some (.ins T.Dial.C dx (flD a b h s.lacks)) := by rw [upd_ne (Ne.symm lp)]; exact hp2
      have ha3 : upd (upd H1 b (.lst (BL (m.set h false)))) l (.lst (NL acc ++ [V.int h])) a = some (.lst (HL s.held)) := by rw [upd_ne (Ne.symm la), upd_ne D1.ne]; exact D1.he
      refine ⟨_, rfl, p, dx, _, rfl, hp3, rfl, p, a, b, dx, _, h, s.lacks, rfl, hp3, ha3, by simp [W.h]; omega, ?_⟩
      have cs := count_set hat
      have hn0 : 0 < n := by omega
      refine ⟨_, by omega, m.set h false, (h + 1) % m.length, acc ++ [h], rfl, I.go hat, by rw [List.length_set]; exact hm, by rw [hm]; exact Nat.mod_lt _ hn0, rfl, by rw [List.length_append]; simp; omega, ⟨D1.ne, ⟨dx, ?_⟩, ?_, ?_⟩, ?_, ?_⟩
      · rw [upd_same]
        have e : (HL s.held).length = m.length := by simp [W.h, hm]
        rw [e]
      · rw [upd_ne (Ne.symm pa)]; exact ha3
      · rw [upd_ne (Ne.symm pb), upd_ne (Ne.symm lb), upd_same]
      · rw [upd_ne lp, upd_same]
        show _ = some (HO.lst ((acc ++ [h]).map fun n : Nat => V.int (n : Int)))
        rw [List.map_append]
        rfl
      · intro c o hc hn
        have hn' : c ≠ p ∧ c ≠ b := by simpa using hn
        rw [upd_ne hn'.1, upd_ne (ne_fresh hc hl), upd_ne hn'.2]
        exact k1 c o hc hn
    · have hf : m[h]'(by omega) = false := by simpa using ht
      rw [hf] at hat ⊢
      have e := I.end hat
      refine iteF ⟨_, rfl, k l H1 hl (by rw [e]; exact hl1) ?_ k1⟩
      rw [e]
      exact D1
/-- the asked page to the room of the hand; the one that was there -/
def spExch (C : Addr) : Sp := fun vs H Q _ => ∃ (p a b : Addr) (s : DS) (n : Nat) (pg : Int), vs = [.ref p, .int pg] ∧ DialIs C H p a b s ∧ s.WF n ∧
  ∀ H' : Hp, DialIs C H' p a b ⟨s.held.set s.hand (some pg), s.marks.set s.hand true, (s.hand + 1) % s.held.length, s.lacks⟩ → But [p, a, b] H H' → Q (pgV ((s.held[s.hand]?).getD none)) H'
theorem sc_Dial_exchange : FnScope ["self", "page", "gone"] ["self", "page"] (defScope (inClass (top 15) 7)) := ⟨rfl, rfl, rfl, by decide +kernel, rfl, by decide +kernel, by decide +kernel⟩
theorem ok_Dial_exchange (T : Prog K mg) : FnOk P w K mg base CX0 2 T.Dial.exchange.f T.Dial.exchange.fd ["self", "page"] (spExch T.Dial.C) := by
  have G_go_on := ok_Dial_go_on (P := P) (w := w) (base := base) T
  refine T.Dial.exchange.fn.ok sc_Dial_exchange (fun vs H Q E h => ?len) (fun cdv A outer s H vs Q E hr h => ?body)
  case len =>
    obtain ⟨p, a, b, s, n, pg, rfl, _⟩ := h
    rfl
  case body =>
    have hr_go_on : Room 1 _ := hr.mono (by decide)
    have hu := hu_of hr
    obtain ⟨p, a, b, s, n, pg, rfl, D, W, k⟩ := h
    refine ⟨_, PSs.nox (pss_cons (ps_set (i := 2) sc_Dial_exchange.nd rfl (Or.inl rfl) (pe_ix ix_list (pe_fld (pv 0) rfl) (pe_fld (pv 0) rfl) (fun _ _ => rfl)))
        (pss_cons (ps_asg (pv 1) (pg_sub (pe_fld (pv 0) rfl) (pe_fld (pv 0) rfl) set_list))
        (pss_cons (ps_asg pe_bl (pg_sub (pe_fld (pv 0) rfl) (pe_fld (pv 0) rfl) set_list))
        (pss_cons (ps_expr (pe_meth0 (pv 0) T.Dial.cl T.Dial.go_on.me G_go_on hr_go_on T.Dial.go_on.bd .nil pass0))
        (pss_one (ps_ret (pv 2))))))), ?_⟩
    obtain ⟨dx, hp⟩ := D.ob
    have pb := D.pb
    have pa := D.pa
    have hlt : s.hand < s.held.length := by rw [W.h]; exact W.n
    have hat : s.held[s.hand]? = some (s.held[s.hand]'hlt) := List.getElem?_eq_getElem _
    rw [hat] at k
    -- gone = self._held[self._hand]
    refine ⟨_, rfl, p, _, dx, _, _, rfl, hp, T.Dial.cl, T.Dial.n_held, rfl, _, rfl, p, _, dx, _, _, rfl, hp, T.Dial.cl, T.Dial.n_hand, rfl, a, _, _, _, rfl, rfl, SqL.of D.he, atI_nat (hl_at hat), ?_⟩
    -- self._held[self._hand] = page
    refine ⟨_, rfl, _, rfl, p, _, dx, _, _, rfl, hp, T.Dial.cl, T.Dial.n_held, rfl, _, rfl, p, _, dx, _, _, rfl, hp, T.Dial.cl, T.Dial.n_hand, rfl, a, _, _, _, rfl, rfl, D.he, ixn rfl (by simp; exact hlt), ?_⟩
    rw [hl_set]
    have hp1 : upd H a (.lst (HL (s.held.set s.hand (some pg)))) p = some (.ins T.Dial.C dx (flD a b s.hand s.lacks)) := by rw [upd_ne pa]; exact hp
    have hb1 : upd H a (.lst (HL (s.held.set s.hand (some pg)))) b = some (.lst (BL s.marks)) := by rw [upd_ne (Ne.symm D.ne)]; exact D.ma
    -- self._marks[self._hand] = True
    refine ⟨_, rfl, p, _, dx, _, _, rfl, hp1, T.Dial.cl, T.Dial.n_marks, rfl, _, rfl, p, _, dx, _, _, rfl, hp1, T.Dial.cl, T.Dial.n_hand, rfl, b, _, _, _, rfl, rfl, hb1, ixn rfl (by simp [W.m]; exact W.n), ?_⟩
    rw [bl_set]
    have hp2 : ∀ o, upd (upd H a (.lst (HL (s.held.set s.hand (some pg))))) b o p = some (.ins T.Dial.C dx (flD a b s.hand s.lacks)) := fun o => by rw [upd_ne pb]; exact hp1
    have ha2 : ∀ o, upd (upd H a (.lst (HL (s.held.set s.hand (some pg))))) b o a = some (.lst (HL (s.held.set s.hand (some pg)))) := fun o => by rw [upd_ne D.ne, upd_same]
    refine ⟨_, rfl, p, dx, _, rfl, hp2 _, rfl, p, a, b, dx, _, s.hand, s.lacks, rfl, hp2 _, ha2 _, by simp [W.h]; exact W.pos, ?_⟩
    refine ⟨_, rfl, k _ ⟨D.ne, ⟨dx, ?_⟩, ?_, ?_⟩ ?_⟩
    · rw [upd_same]
      have e : (HL (s.held.set s.hand (some pg))).length = s.held.length := by simp
      rw [e]
    · rw [upd_ne (Ne.symm pa)]; exact ha2 _
    · rw [upd_ne (Ne.symm pb), upd_same]
    · exact ((But.put (by simp)).trans (But.put (by simp))).trans (But.put (by simp))
/-- an ask -/
def spAsk (C : Addr) : Sp := fun vs H Q _ => ∃ (p a b : Addr) (s : DS) (n : Nat) (pg : Int), vs = [.ref p, .int pg] ∧ DialIs C H p a b s ∧ s.WF n ∧ n ≤ 8 ∧ 0 ≤ pg ∧ pg < 12 ∧
  ∀ (t l : Addr) (H' : Hp), H t = none → H l = none → t ≠ l → H' t = some (.tup [.bl (s.tells pg).1, pgV (s.tells pg).2.1, .ref l]) → H' l = some (.lst (NL (s.tells pg).2.2)) → DialIs C H' p a b (s.ask pg) → But [p, a, b] H H' → Q (.ref t) H'
theorem sc_Dial_ask : FnScope ["self", "page", "passed", "gone"] ["self", "page"] (defScope (inClass (top 15) 1)) := ⟨rfl, rfl, rfl, by decide +kernel, rfl, by decide +kernel, by decide +kernel⟩
theorem ok_Dial_ask (T : Prog K mg) : FnOk P w K mg base CX0 3 T.Dial.ask.f T.Dial.ask.fd ["self", "page"] (spAsk T.Dial.C) := by
  have G_check_page := ok_check_page (P := P) (w := w) (base := base) T
  have G_pass_marked := ok_Dial_pass_marked (P := P) (w := w) (base := base) T
  have G_exchange := ok_Dial_exchange (P := P) (w := w) (base := base) T
  refine T.Dial.ask.fn.ok sc_Dial_ask (fun vs H Q E h => ?len) (fun cdv A outer s H vs Q E hr h => ?body)
  case len =>
    obtain ⟨p, a, b, s, n, pg, rfl, _⟩ := h
    rfl
  case body =>
    have hr_check_page : Room 2 _ := hr.mono (by decide)
    have hr_pass_marked : Room 2 _ := hr.mono (by decide)
    have hr_exchange : Room 2 _ := hr.mono (by decide)
    have hu := hu_of hr
    obtain ⟨p, a, b, s, n, pg, rfl, D, W, n8, g0, g1, k⟩ := h
    refine ⟨_, PSs.nox (pss_cons (ps_expr (pe_call G_check_page hr_check_page (by rfl) T.check_page.g T.check_page.fn.kp T.check_page.bd .nil pass0 (pa_cons (pv 1) pa_nil)))
        (pss_cons (ps_if (pt_cmpR op_in_seq (pv 1) (pe_fld (pv 0) rfl) (by rfl))
        (pss_cons (ps_asg pe_bl (pg_sub (pe_fld (pv 0) rfl) (pe_bm PySem.F.plainAttrs_list PySem.F.slot_list_index PySem.F.type_list_index mt_index (pe_fld (pv 0) rfl) (pa_cons (pv 1) pa_nil)) set_list))
        (pss_one (ps_ret (pe_tup (pa_cons pe_bl (pa_cons pe_non (pa_cons (pe_lst pa_nil) pa_nil)))))))
        pss_nil)
        (pss_cons (ps_fldaug (pv 0) pe_int in_add)
        (pss_cons (ps_set (i := 2) sc_Dial_ask.nd rfl (Or.inl rfl) (pe_meth0 (pv 0) T.Dial.cl T.Dial.pass_marked.me G_pass_marked hr_pass_marked T.Dial.pass_marked.bd .nil pass0))
        (pss_cons (ps_set (i := 3) sc_Dial_ask.nd rfl (Or.inl rfl) (pe_meth (pv 0) T.Dial.cl T.Dial.exchange.me G_exchange hr_exchange T.Dial.exchange.bd .nil pass0 (pa_cons (pv 1) pa_nil)))
        (pss_one (ps_ret (pe_tup (pa_cons pe_bl (pa_cons (pv 3) (pa_cons (pv 2) pa_nil))))))))))), ?_⟩
    obtain ⟨dx, hp⟩ := D.ob
    have pb := D.pb
    have pa := D.pa
    refine ⟨_, rfl, pg, rfl, g0, g1, ?_⟩
    -- if page in self._held
    refine ⟨_, rfl, _, rfl, p, _, dx, _, _, rfl, hp, T.Dial.cl, T.Dial.n_held, rfl, a, _, rfl, .inl (SqL.of D.he), rfl, flat_hl _, _, rfl, ?_⟩
    have e0 : (if false = true then !inV (V.int pg) (HL s.held) else inV (V.int pg) (HL s.held)) = decide (some pg ∈ s.held) := by
      rw [if_neg (by simp), inV_hl]
    by_cases hin : some pg ∈ s.held
    · refine ifT (by rw [e0]; exact decide_eq_true hin) ?_
      have eT : s.tells pg = (false, none, []) := by unfold DS.tells; rw [if_pos hin]
      have eA : s.ask pg = s.hit pg := by unfold DS.ask; rw [if_pos hin]
      rw [eT, eA] at k
      have hj : s.held.idxOf (some pg) < n := by rw [← W.h]; exact List.idxOf_lt_length_of_mem hin
      -- self._marks[self._held.index(page)] = True
      refine ⟨_, rfl, p, _, dx, _, _, rfl, hp, T.Dial.cl, T.Dial.n_marks, rfl, _, rfl, p, _, dx, _, _, rfl, hp, T.Dial.cl, T.Dial.n_held, rfl, .inl ⟨rfl, _, SqL.of D.he⟩, _, rfl, a, _, _, s.held.idxOf (some pg), _, rfl, rfl, SqL.of D.he, rfl, flat_hl _, hl_at (idx_at hin), ?_, ?_, ?_⟩
      · rw [eqV_pg]; exact decide_eq_true rfl
      · intro m z' hm hz
        rw [List.getElem?_map] at hz
        cases q : s.held[m]? with
        | none => rw [q] at hz; cases hz
        | some y =>
          rw [q] at hz
          have ez : pgV y = z' := Option.some.inj hz
          rw [← ez, eqV_pg]
          exact decide_eq_false (idx_no hm q)
      refine ⟨b, _, _, _, rfl, rfl, D.ma, ixn rfl (by simp [W.m]; exact hj), ?_⟩
      rw [bl_set]
      -- return False, None, []
      refine ⟨szd rfl, fun l hl => ⟨szd rfl, fun t ht => ?_⟩⟩
      have s1 : But [p, a, b] H (upd H b (.lst (BL (s.marks.set (s.held.idxOf (some pg)) true)))) := But.put (by simp)
      have lb : l ≠ b := by intro z; rw [z, upd_same] at hl; cases hl
      have tb : t ≠ b := by intro z; rw [z, upd_ne (Ne.symm lb), upd_same] at ht; cases ht
      have tl : t ≠ l := by intro z; rw [z, upd_same] at ht; cases ht
      have hl' : H l = none := by rw [upd_ne lb] at hl; exact hl
      have ht' : H t = none := by rw [upd_ne tl, upd_ne tb] at ht; exact ht
      have hit : DialIs T.Dial.C (upd H b (.lst (BL (s.marks.set (s.held.idxOf (some pg)) true)))) p a b (s.hit pg) :=
        ⟨D.ne, ⟨dx, by rw [upd_ne pb]; exact hp⟩, by rw [upd_ne D.ne]; exact D.he, upd_same⟩
      exact k t l _ ht' hl' tl upd_same (by rw [upd_ne (Ne.symm tl)]; exact upd_same) ((hit.same (Same.new hl)).same (Same.new ht)) ((s1.trans (But.new hl)).trans (But.new ht))
    · refine ifF (by rw [e0]; exact decide_eq_false hin) ?_
      have eT : s.tells pg = (true, (s.held[s.pass.2.1]?).getD none, s.pass.2.2) := by unfold DS.tells; rw [if_neg hin]
      have eA : s.ask pg = s.lack pg := by unfold DS.ask; rw [if_neg hin]
      rw [eT, eA] at k
      -- self._lacks += 1
      refine ⟨_, rfl, p, _, dx, _, _, rfl, hp, T.Dial.cl, T.Dial.n_lacks, rfl, _, _, rfl, rfl, dx, _, hp, by show 4 < 1000; decide, ?_⟩
      have D1 : DialIs T.Dial.C (upd H p (.ins T.Dial.C dx (putF "_lacks" (V.int ((s.lacks : Int) + 1)) (flD a b s.hand s.lacks)))) p a b { s with lacks := s.lacks + 1 } :=
        ⟨D.ne, ⟨dx, by rw [upd_same]; rfl⟩, by rw [upd_ne (Ne.symm pa)]; exact D.he, by rw [upd_ne (Ne.symm pb)]; exact D.ma⟩
      have k1 : But [p, a, b] H (upd H p (.ins T.Dial.C dx (putF "_lacks" (V.int ((s.lacks : Int) + 1)) (flD a b s.hand s.lacks)))) := But.put (by simp)
      have W1 : DS.WF { s with lacks := s.lacks + 1 } n := ⟨W.h, W.m, W.n⟩
      -- passed = self._pass_marked()
      obtain ⟨dx1, hp1⟩ := D1.ob
      refine ⟨_, rfl, p, dx1, _, rfl, hp1, rfl, p, a, b, _, n, rfl, D1, W1, n8, fun l H2 hl hl2 D2 k2 => ?_⟩
      have hlH : H l = none := k1.back hl (by
        obtain ⟨_, q⟩ := D1.ob
        have z1 := ne_fresh q hl
        have z2 := ne_fresh D1.he hl
        have z3 := ne_fresh D1.ma hl
        simp [Ne.symm z1, Ne.symm z2, Ne.symm z3])
      -- gone = self._exchange(page)
      obtain ⟨dx2, hp2⟩ := D2.ob
      have W2 : DS.WF { s with lacks := s.lacks + 1, marks := s.pass.1, hand := s.pass.2.1 } n := ⟨W.h, W.passm, W.passlt⟩
      refine ⟨_, rfl, p, dx2, _, rfl, hp2, rfl, _, rfl, p, a, b, _, n, pg, rfl, D2, W2, fun H3 D3 k3 => ?_⟩
      have lS : l ∉ [p, a, b] := by
        have z1 := ne_fresh hp hlH
        have z2 := ne_fresh D.he hlH
        have z3 := ne_fresh D.ma hlH
        simp [Ne.symm z1, Ne.symm z2, Ne.symm z3]
      have hl3 : H3 l = some (.lst (NL s.pass.2.2)) := k3 l _ hl2 lS
      have k03 : But [p, a, b] H H3 := (k1.trans (k2.mono (by simp))).trans k3
      -- return True, gone, passed
      refine ⟨_, rfl, _, rfl, szd rfl, fun t ht => ?_⟩
      have tl : t ≠ l := Ne.symm (ne_fresh hl3 ht)
      have htH : H t = none := k03.back ht (by
        obtain ⟨_, q⟩ := D3.ob
        have z1 := ne_fresh q ht
        have z2 := ne_fresh D3.he ht
        have z3 := ne_fresh D3.ma ht
        simp [Ne.symm z1, Ne.symm z2, Ne.symm z3])
      exact k t l _ htH hlH tl upd_same (by rw [upd_ne (Ne.symm tl)]; exact hl3) (D3.same (Same.new ht)) (k03.trans (But.new ht))
/-- what an ask told stands at t -/
def TellAt (H : Hp) (t : Addr) (x : Bool × Option Int × List Nat) : Prop := ∃ l : Addr, t ≠ l ∧ H t = some (.tup [.bl x.1, pgV x.2.1, .ref l]) ∧ H l = some (.lst (NL x.2.2))
/-- the tuples at as are what was told, xs: new since H, none of them at a place of S -/
structure TellsAt (S : List Addr) (H H' : Hp) (as : List Addr) (xs : List (Bool × Option Int × List Nat)) : Prop where
  len : as.length = xs.length
  at_ : ∀ (i : Nat) (a : Addr) (x : Bool × Option Int × List Nat), as[i]? = some a → xs[i]? = some x → H a = none ∧ a ∉ S ∧ ∃ l : Addr, H l = none ∧ l ∉ S ∧ a ≠ l ∧ H' a = some (.tup [.bl x.1, pgV x.2.1, .ref l]) ∧ H' l = some (.lst (NL x.2.2))
theorem TellsAt.but {S S' : List Addr} {H H' H'' : Hp} {as : List Addr} {xs : List (Bool × Option Int × List Nat)} (t : TellsAt S H H' as xs) (k : But S' H' H'') (hS : ∀ a ∈ S', a ∈ S) : TellsAt S H H'' as xs := by
  refine ⟨t.len, fun i a x ha hx => ?_⟩
  obtain ⟨h1, n1, l, h2, n2, h3, h4, h5⟩ := t.at_ i a x ha hx
  exact ⟨h1, n1, l, h2, n2, h3, k _ _ h4 fun z => n1 (hS _ z), k _ _ h5 fun z => n2 (hS _ z)⟩
theorem TellsAt.snoc {S : List Addr} {H H' : Hp} {as : List Addr} {xs : List (Bool × Option Int × List Nat)} {t l : Addr} {x : Bool × Option Int × List Nat} (T : TellsAt S H H' as xs) (h1 : H t = none) (n1 : t ∉ S) (h2 : H l = none) (n2 : l ∉ S) (h3 : t ≠ l)
    (h4 : H' t = some (.tup [.bl x.1, pgV x.2.1, .ref l])) (h5 : H' l = some (.lst (NL x.2.2))) : TellsAt S H H' (as ++ [t]) (xs ++ [x]) := by
  refine ⟨by simp [T.len], fun j c y hc hy => ?_⟩
  by_cases hj : j < as.length
  · rw [List.getElem?_append_left hj] at hc
    rw [List.getElem?_append_left (by rw [← T.len]; exact hj)] at hy
    exact T.at_ j c y hc hy
  · have ej : j = as.length := by
      have := (List.getElem?_eq_some_iff.mp hc).1
      simp at this
      omega
    subst ej
    rw [List.getElem?_append_right (Nat.le_refl _), Nat.sub_self] at hc
    rw [List.getElem?_append_right (by rw [T.len]; exact Nat.le_refl _), T.len, Nat.sub_self] at hy
    have ec : t = c := Option.some.inj hc
    have ex := Option.some.inj hy
    subst ec
    rw [← ex]
    exact ⟨h1, n1, l, h2, n2, h3, h4, h5⟩
end
end CK

/-! The law's own dial: a dict. -/
namespace CK
open PySem PySem.Spec PyProof.Rows L2
abbrev dkv (a b : Addr) (h k : Int) : List (Key × V) := [(Sum.inr "pages", .ref a), (Sum.inr "marks", .ref b), (Sum.inr "hand", .int h), (Sum.inr "lacks", .int k)]
section
variable {H : Hp} {d a b : Addr} {h k : Int}
theorem dg_pages (e : H d = some (.dK (dkv a b h k))) : DGet H d (.str "pages") (some (.ref a)) := DGet.k (k := Sum.inr "pages") e
theorem dg_marks (e : H d = some (.dK (dkv a b h k))) : DGet H d (.str "marks") (some (.ref b)) := DGet.k (k := Sum.inr "marks") e
theorem dg_hand (e : H d = some (.dK (dkv a b h k))) : DGet H d (.str "hand") (some (.int h)) := DGet.k (k := Sum.inr "hand") e
theorem dg_lacks (e : H d = some (.dK (dkv a b h k))) : DGet H d (.str "lacks") (some (.int k)) := DGet.k (k := Sum.inr "lacks") e
theorem dp_hand {j : Int} (e : H d = some (.dK (dkv a b h k))) : DPut H d (.str "hand") (.int j) (upd H d (.dK (dkv a b j k))) := DPut.k (k := Sum.inr "hand") e (by show 4 < sizeLine; decide)
theorem dp_lacks {j : Int} (e : H d = some (.dK (dkv a b h k))) : DPut H d (.str "lacks") (.int j) (upd H d (.dK (dkv a b h j))) := DPut.k (k := Sum.inr "lacks") e (by show 4 < sizeLine; decide)
end
theorem mk_dkv (a b : Addr) (h k : Int) : mergeK [] (dkv a b h k) = dkv a b h k := rfl
structure LDial (H : Hp) (d a b : Addr) (s : DS) : Prop where
  ne : a ≠ b
  ob : H d = some (.dK (dkv a b s.hand s.lacks))
  he : H a = some (.lst (HL s.held))
  ma : H b = some (.lst (BL s.marks))
theorem LDial.pa {H : Hp} {p a b : Addr} {s : DS} (D : LDial H p a b s) : p ≠ a := ne_of D.ob D.he (by intro z; cases z)
theorem LDial.pb {H : Hp} {p a b : Addr} {s : DS} (D : LDial H p a b s) : p ≠ b := ne_of D.ob D.ma (by intro z; cases z)
theorem LDial.but {S : List Addr} {H H' : Hp} {p a b : Addr} {s : DS} (D : LDial H p a b s) (k : But S H H') (h1 : p ∉ S) (h2 : a ∉ S) (h3 : b ∉ S) : LDial H' p a b s :=
  ⟨D.ne, k _ _ D.ob h1, k _ _ D.he h2, k _ _ D.ma h3⟩
theorem LDial.same {H H' : Hp} {p a b : Addr} {s : DS} (D : LDial H p a b s) (k : Same H H') : LDial H' p a b s := D.but (S := []) (But.of k) (by simp) (by simp) (by simp)
theorem LDial.off {H : Hp} {p a b t : Addr} {s : DS} (D : LDial H p a b s) (h : H t = none) : t ∉ [p, a, b] := by
  have z1 := ne_fresh D.ob h
  have z2 := ne_fresh D.he h
  have z3 := ne_fresh D.ma h
  simp [Ne.symm z1, Ne.symm z2, Ne.symm z3]
def spLDial : Sp := fun vs H Q _ => ∃ n : Int, vs = [.int n] ∧ 1 ≤ n ∧ n ≤ 8 ∧
  ∀ (d a b : Addr) (H' : Hp), H d = none → H a = none → H b = none → LDial H' d a b (DS.new n.toNat) → Same H H' → Q (.ref d) H'
def spLAsk : Sp := fun vs H Q _ => ∃ (p a b : Addr) (s : DS) (n : Nat) (pg : Int), vs = [.ref p, .int pg] ∧ LDial H p a b s ∧ s.WF n ∧ n ≤ 8 ∧
  ∀ (t l : Addr) (H' : Hp), H t = none → H l = none → t ≠ l → H' t = some (.tup [.bl (s.tells pg).1, pgV (s.tells pg).2.1, .ref l]) → H' l = some (.lst (NL (s.tells pg).2.2)) → LDial H' p a b (s.ask pg) → But [p, a, b] H H' → Q (.ref t) H'
section
variable {P : Program} {w : World} {K : PySem.W.Frag} {mg : Str → Option Value} {base : Heap}
theorem sc_law_dial : FnScope ["_law_rooms"] ["_law_rooms"] (defScope (top 23)) := ⟨rfl, rfl, rfl, by decide +kernel, rfl, by decide +kernel, by decide +kernel⟩
theorem ok_law_dial (T : Prog K mg) : FnOk P w K mg base CX0 1 T.law_dial.f T.law_dial.fd ["_law_rooms"] spLDial := by
  refine T.law_dial.fn.ok sc_law_dial (fun vs H Q E h => ?len) (fun cdv A outer s H vs Q E hr h => ?body)
  case len =>
    obtain ⟨n, rfl, _⟩ := h
    rfl
  case body =>
    have hu := hu_of hr
    obtain ⟨n, rfl, n1, n8, k⟩ := h
    refine ⟨_, PSs.nox (pss_one (ps_ret (pe_disp (pps_cons pe_str (pe_op op_rep (pe_lst (pa_cons pe_non pa_nil)) (pv 0)) (pps_cons pe_str (pe_op op_rep (pe_lst (pa_cons pe_bl pa_nil)) (pv 0)) (pps_cons pe_str pe_int (pps_cons pe_str pe_int pps_nil)))) (by rfl) (by rfl) (fun z => by cases z) (by decide)))), ?_⟩
    intro d hd
    refine ⟨szd rfl, fun e he => ?_⟩
    refine ⟨_, rfl, e, n, _, rfl, rfl, upd_same, by omega, by omega, sz (by show 1 * n.toNat ≤ 100000; omega), fun a ha => ?_⟩
    refine ⟨szd rfl, fun e2 he2 => ?_⟩
    refine ⟨_, rfl, e2, n, _, rfl, rfl, upd_same, by omega, by omega, sz (by show 1 * n.toNat ≤ 100000; omega), fun b hb => ?_⟩
    have s1 : Same H (upd H d (.dK [])) := Same.new hd
    have s2 := Same.new (o := .lst [.non]) he
    have s3 := Same.new (o := .lst (List.replicate n.toNat [V.non]).flatten) ha
    have s4 := Same.new (o := .lst [.bl false]) he2
    have s5 := Same.new (o := .lst (List.replicate n.toNat [V.bl false]).flatten) hb
    have d1 : upd H d (.dK []) d = some (.dK []) := upd_same
    have da : d ≠ a := ne_fresh (s2 _ _ d1) ha
    have db : d ≠ b := ne_fresh (s4 _ _ (s3 _ _ (s2 _ _ d1))) hb
    have ab : a ≠ b := ne_fresh (s4 _ _ upd_same) hb
    refine ⟨s5 _ _ (s4 _ _ (s3 _ _ (s2 _ _ d1))), dkv a b 0 0, rfl, by show 4 ≤ 15; decide, ?_⟩
    rw [mk_dkv]
    have sA := ((s2.trans s3).trans s4).trans s5
    refine k d a b _ hd (Same.back (s1.trans s2) ha) (Same.back (((s1.trans s2).trans s3).trans s4) hb) ⟨ab, upd_same, ?_, ?_⟩ ?_
    · rw [upd_ne (Ne.symm da)]
      refine (s5 _ _ (s4 _ _ upd_same)).trans ?_
      rw [rep_one, hl_new]
    · rw [upd_ne (Ne.symm db), upd_same, rep_one, bl_new]
    · exact Same.put (s1.trans sA) hd
theorem sc_law_ask : FnScope ["_law_dial_here", "_law_page", "_law_rooms", "_law_passed", "_law_at", "_law_gone"] ["_law_dial_here", "_law_page"] (defScope (top 24)) := ⟨rfl, rfl, rfl, by decide +kernel, rfl, by decide +kernel, by decide +kernel⟩
theorem ok_law_ask (T : Prog K mg) : FnOk P w K mg base CX0 1 T.law_ask.f T.law_ask.fd ["_law_dial_here", "_law_page"] spLAsk := by
  refine T.law_ask.fn.ok sc_law_ask (fun vs H Q E h => ?len) (fun cdv A outer s H vs Q E hr h => ?body)
  case len =>
    obtain ⟨p, a, b, s, n, pg, rfl, _⟩ := h
    rfl
  case body =>
    have hu := hu_of hr
    obtain ⟨p, a, b, s, n, pg, rfl, D, W, n8, k⟩ := h
    refine ⟨_, PSs.nox (pss_cons (ps_set (i := 2) sc_law_ask.nd rfl (Or.inl rfl) (pe_callB call_len_seq (by rfl) T.len PySem.boot_len (pa_cons (pe_dget hu (pv 0) pe_str (fun _ _ => rfl)) pa_nil)))
        (pss_cons (ps_if (pt_cmpR op_in_seq (pv 1) (pe_dget hu (pv 0) pe_str (fun _ _ => rfl)) (by rfl))
        (pss_cons (ps_asg pe_bl (pg_sub (pe_dget hu (pv 0) pe_str (fun _ _ => rfl)) (pe_bm PySem.F.plainAttrs_list PySem.F.slot_list_index PySem.F.type_list_index mt_index (pe_dget hu (pv 0) pe_str (fun _ _ => rfl)) (pa_cons (pv 1) pa_nil)) set_list))
        (pss_one (ps_ret (pe_tup (pa_cons pe_bl (pa_cons pe_non (pa_cons (pe_lst pa_nil) pa_nil)))))))
        pss_nil)
        (pss_cons (ps_set (i := 3) sc_law_ask.nd rfl (Or.inl rfl) (pe_lst pa_nil))
        (pss_cons (ps_set (i := 4) sc_law_ask.nd rfl (Or.inl rfl) (pe_dget hu (pv 0) pe_str (fun _ _ => rfl)))
        (pss_cons (ps_while PassesOwn.never (pt_val (pe_ix ix_list (pe_dget hu (pv 0) pe_str (fun _ _ => rfl)) (pv 4) (fun _ _ => rfl)))
        (pss_cons (ps_asg pe_bl (pg_sub (pe_dget hu (pv 0) pe_str (fun _ _ => rfl)) (pv 4) set_list))
        (pss_cons (ps_expr (pe_bm PySem.F.plainAttrs_list PySem.F.slot_list_append PySem.F.type_list_append mt_append (pv 3) (pa_cons (pv 4) pa_nil)))
        (pss_one (ps_set (i := 4) sc_law_ask.nd rfl (Or.inl rfl) (pe_op op_mod (pe_op op_add (pv 4) pe_int) (pv 2)))))))
        (pss_cons (ps_set (i := 5) sc_law_ask.nd rfl (Or.inl rfl) (pe_ix ix_list (pe_dget hu (pv 0) pe_str (fun _ _ => rfl)) (pv 4) (fun _ _ => rfl)))
        (pss_cons (ps_asg (pv 1) (pg_sub (pe_dget hu (pv 0) pe_str (fun _ _ => rfl)) (pv 4) set_list))
        (pss_cons (ps_asg pe_bl (pg_sub (pe_dget hu (pv 0) pe_str (fun _ _ => rfl)) (pv 4) set_list))
        (pss_cons (ps_dput hu (pv 0) pe_str (pe_op op_mod (pe_op op_add (pv 4) pe_int) (pv 2)) rfl)
        (pss_cons (ps_dput hu (pv 0) pe_str (pe_op op_add (pe_dget hu (pv 0) pe_str (fun _ _ => rfl)) pe_int) rfl)
        (pss_one (ps_ret (pe_tup (pa_cons pe_bl (pa_cons (pv 5) (pa_cons (pv 3) pa_nil)))))))))))))))), ?_⟩
    have hp := D.ob
    have pb := D.pb
    have pa := D.pa
    -- rooms = len(d['pages'])
    refine ⟨_, rfl, p, _, rfl, dg_pages hp, a, _, rfl, .inl (SqL.of D.he), ?_⟩
    -- if page in d['pages']
    refine ⟨_, rfl, _, rfl, p, _, rfl, dg_pages hp, a, _, rfl, .inl (SqL.of D.he), rfl, flat_hl _, _, rfl, ?_⟩
    have e0 : (if false = true then !inV (V.int pg) (HL s.held) else inV (V.int pg) (HL s.held)) = decide (some pg ∈ s.held) := by
      rw [if_neg (by simp), inV_hl]
    by_cases hin : some pg ∈ s.held
    · refine ifT (by rw [e0]; exact decide_eq_true hin) ?_
      have eT : s.tells pg = (false, none, []) := by unfold DS.tells; rw [if_pos hin]
      have eA : s.ask pg = s.hit pg := by unfold DS.ask; rw [if_pos hin]
      rw [eT, eA] at k
      have hj : s.held.idxOf (some pg) < n := by rw [← W.h]; exact List.idxOf_lt_length_of_mem hin
      refine ⟨_, rfl, p, _, rfl, dg_marks hp, _, rfl, p, _, rfl, dg_pages hp, .inl ⟨rfl, _, SqL.of D.he⟩, _, rfl, a, _, _, s.held.idxOf (some pg), _, rfl, rfl, SqL.of D.he, rfl, flat_hl _, hl_at (idx_at hin), ?_, ?_, ?_⟩
      · rw [eqV_pg]; exact decide_eq_true rfl
      · intro m z' hm hz
        rw [List.getElem?_map] at hz
        cases q : s.held[m]? with
        | none => rw [q] at hz; cases hz
        | some y =>
          rw [q] at hz
          have ez : pgV y = z' := Option.some.inj hz
          rw [← ez, eqV_pg]
          exact decide_eq_false (idx_no hm q)
      refine ⟨b, _, _, _, rfl, rfl, D.ma, ixn rfl (by simp [W.m]; exact hj), ?_⟩
      rw [bl_set]
      refine ⟨szd rfl, fun l hl => ⟨szd rfl, fun t ht => ?_⟩⟩
      have s1 : But [p, a, b] H (upd H b (.lst (BL (s.marks.set (s.held.idxOf (some pg)) true)))) := But.put (by simp)
      have lb : l ≠ b := by intro z; rw [z, upd_same] at hl; cases hl
      have tb : t ≠ b := by intro z; rw [z, upd_ne (Ne.symm lb), upd_same] at ht; cases ht
      have tl : t ≠ l := by intro z; rw [z, upd_same] at ht; cases ht
      have hl' : H l = none := by rw [upd_ne lb] at hl; exact hl
      have ht' : H t = none := by rw [upd_ne tl, upd_ne tb] at ht; exact ht
      have hit : LDial (upd H b (.lst (BL (s.marks.set (s.held.idxOf (some pg)) true)))) p a b (s.hit pg) :=
        ⟨D.ne, by rw [upd_ne pb]; exact hp, by rw [upd_ne D.ne]; exact D.he, upd_same⟩
      exact k t l _ ht' hl' tl upd_same (by rw [upd_ne (Ne.symm tl)]; exact upd_same) ((hit.same (Same.new hl)).same (Same.new ht)) ((s1.trans (But.new hl)).trans (But.new ht))
    refine ifF (by rw [e0]; exact decide_eq_false hin) ?_
    have eT : s.tells pg = (true, (s.held[s.pass.2.1]?).getD none, s.pass.2.2) := by unfold DS.tells; rw [if_neg hin]
    have eA : s.ask pg = s.lack pg := by unfold DS.ask; rw [if_neg hin]
    rw [eT, eA] at k
    -- passed = []; at = d['hand']
    refine ⟨szd rfl, fun l hl => ?_⟩
    have s0 : Same H (upd H l (.lst [])) := Same.new hl
    have lS := D.off hl
    have lp : l ≠ p := by intro z; rw [z] at lS; simp at lS
    have la : l ≠ a := by intro z; rw [z] at lS; simp at lS
    have lb : l ≠ b := by intro z; rw [z] at lS; simp at lS
    refine ⟨_, rfl, p, _, rfl, dg_hand (s0 _ _ hp), ?_⟩
    have hcm : s.marks.count true ≤ 8 := Nat.le_trans List.count_le_length (by rw [W.m]; exact n8)
    let St : Nat → L2.St → Hp → Prop := fun c σ H' => ∃ (m : List Bool) (h : Nat) (acc : List Nat), σ = [some (.ref p), some (.int pg), some (.int ((HL s.held).length : Int)), some (.ref l), some (.int (h : Int)), none] ∧ PassInv s.pass m h acc ∧ m.length = n ∧ h < n ∧ c = m.count true ∧ acc.length + c = s.marks.count true ∧
      LDial H' p a b { s with marks := m } ∧ H' l = some (.lst (NL acc)) ∧ But [p, a, b] H H'
    refine ⟨St, ⟨_, s.marks, s.hand, [], rfl, PassInv.start _ _, W.m, W.n, rfl, by simp, D.same s0, upd_same, But.of s0⟩, ?_⟩
    rintro c σ H1 ⟨m, h, acc, rfl, I, hm, hh, rfl, hc, D1, hl1, k1⟩
    have hat : m[h]? = some (m[h]'(by omega)) := List.getElem?_eq_getElem _
    refine ⟨_, rfl, p, _, rfl, dg_marks D1.ob, _, rfl, b, _, _, _, rfl, rfl, SqL.of D1.ma, atI_nat (bl_at hat), _, rfl, ?_⟩
    by_cases ht : m[h]'(by omega) = true
    · rw [ht] at hat ⊢
      refine iteT ⟨fun σ' H' => ∃ c', c' < m.count true ∧ St c' σ' H', fun σ' H' q => q, ?_⟩
      -- d['marks'][at] = False
      refine ⟨_, rfl, p, _, rfl, dg_marks D1.ob, _, rfl, b, _, _, _, rfl, rfl, D1.ma, ixn rfl (by simp; omega), ?_⟩
      rw [bl_set]
      have hl2 : upd H1 b (.lst (BL (m.set h false))) l = some (.lst (NL acc)) := by rw [upd_ne lb]; exact hl1
      -- passed.append(at)
      refine ⟨_, rfl, .inl ⟨rfl, _, SqL.of hl2⟩, _, rfl, l, _, _, rfl, rfl, hl2, szl (by simp; omega), ?_⟩
      -- at = (at + 1) % rooms
      have hn0 : 0 < n := by omega
      refine ⟨_, rfl, _, _, rfl, rfl, _, rfl, _, _, rfl, rfl, int0 (by simp [W.h]; omega), ?_⟩
      have cs := count_set hat
      have e1 : (((h : Nat) : Int) + 1) % (((HL s.held).length : Nat) : Int) = (((h + 1) % m.length : Nat) : Int) := by
        rw [Int.natCast_emod]
        simp [W.h, hm]
      refine ⟨_, by omega, m.set h false, (h + 1) % m.length, acc ++ [h], ?_, I.go hat, by rw [List.length_set]; exact hm, by rw [hm]; exact Nat.mod_lt _ hn0, rfl, by rw [List.length_append]; simp; omega, ⟨D1.ne, ?_, ?_, ?_⟩, ?_, ?_⟩
      · rw [← e1]; rfl
      · rw [upd_ne (Ne.symm lp), upd_ne pb]; exact D1.ob
      · rw [upd_ne (Ne.symm la), upd_ne D1.ne]; exact D1.he
      · rw [upd_ne (Ne.symm lb), upd_same]
      · rw [upd_same]
        show _ = some (HO.lst ((acc ++ [h]).map fun n : Nat => V.int (n : Int)))
        rw [List.map_append]
        rfl
      · intro c o hc hn
        have hn' : c ≠ p ∧ c ≠ a ∧ c ≠ b := by simpa using hn
        rw [upd_ne (ne_fresh hc hl), upd_ne hn'.2.2]
        exact k1 c o hc hn
    · have hf : m[h]'(by omega) = false := by simpa using ht
      rw [hf] at hat ⊢
      have e := I.end hat
      refine iteF ?_
      -- gone = d['pages'][at]
      have hlt : h < s.held.length := by rw [W.h]; exact hh
      have hga : s.held[h]? = some (s.held[h]'hlt) := List.getElem?_eq_getElem _
      rw [e] at k
      rw [hga] at k
      refine ⟨_, rfl, p, _, rfl, dg_pages D1.ob, _, rfl, a, _, _, _, rfl, rfl, SqL.of D1.he, atI_nat (hl_at hga), ?_⟩
      -- d['pages'][at] = page
      refine ⟨_, rfl, _, rfl, p, _, rfl, dg_pages D1.ob, _, rfl, a, _, _, _, rfl, rfl, D1.he, ixn rfl (by simp; exact hlt), ?_⟩
      rw [hl_set]
      have hp2 : upd H1 a (.lst (HL (s.held.set h (some pg)))) p = some (.dK (dkv a b s.hand s.lacks)) := by rw [upd_ne pa]; exact D1.ob
      have hb2 : upd H1 a (.lst (HL (s.held.set h (some pg)))) b = some (.lst (BL m)) := by rw [upd_ne (Ne.symm D.ne)]; exact D1.ma
      -- d['marks'][at] = True
      refine ⟨_, rfl, p, _, rfl, dg_marks hp2, _, rfl, b, _, _, _, rfl, rfl, hb2, ixn rfl (by simp; omega), ?_⟩
      rw [bl_set]
      have hp3 : upd (upd H1 a (.lst (HL (s.held.set h (some pg))))) b (.lst (BL (m.set h true))) p = some (.dK (dkv a b s.hand s.lacks)) := by rw [upd_ne pb]; exact hp2
      -- d['hand'] = (at + 1) % rooms
      refine ⟨_, rfl, _, _, rfl, rfl, _, rfl, _, _, rfl, rfl, int0 (by simp [W.h]; omega), _, rfl, p, _, rfl, dp_hand hp3, ?_⟩
      -- d['lacks'] = d['lacks'] + 1
      refine ⟨_, rfl, p, _, rfl, dg_lacks upd_same, _, _, rfl, rfl, _, rfl, p, _, rfl, dp_lacks upd_same, ?_⟩
      rw [upd_upd]
      -- return (True, gone, passed)
      refine ⟨_, rfl, _, rfl, szd rfl, fun t ht => ?_⟩
      have e1 : (((h : Nat) : Int) + 1) % (((HL s.held).length : Nat) : Int) = (((h + 1) % s.held.length : Nat) : Int) := by
        rw [Int.natCast_emod]
        simp
      have hl3 : upd (upd (upd H1 a (.lst (HL (s.held.set h (some pg))))) b (.lst (BL (m.set h true)))) p (.dK (dkv a b ((((h : Nat) : Int) + 1) % (((HL s.held).length : Nat) : Int)) ((s.lacks : Int) + 1))) l = some (.lst (NL acc)) := by
        rw [upd_ne lp, upd_ne lb, upd_ne la]; exact hl1
      have tl : t ≠ l := Ne.symm (ne_fresh hl3 ht)
      have kk : But [p, a, b] H (upd (upd (upd H1 a (.lst (HL (s.held.set h (some pg))))) b (.lst (BL (m.set h true)))) p (.dK (dkv a b ((((h : Nat) : Int) + 1) % (((HL s.held).length : Nat) : Int)) ((s.lacks : Int) + 1)))) :=
        ((k1.trans (But.put (by simp))).trans (But.put (by simp))).trans (But.put (by simp))
      have D4 : LDial (upd (upd (upd H1 a (.lst (HL (s.held.set h (some pg))))) b (.lst (BL (m.set h true)))) p (.dK (dkv a b ((((h : Nat) : Int) + 1) % (((HL s.held).length : Nat) : Int)) ((s.lacks : Int) + 1)))) p a b (s.lack pg) := by
        refine ⟨D.ne, ?_, ?_, ?_⟩
        · rw [upd_same, e1]
          unfold DS.lack
          rw [e]
          rfl
        · rw [upd_ne (Ne.symm pa), upd_ne D.ne, upd_same]
          unfold DS.lack
          rw [e]
        · rw [upd_ne (Ne.symm pb), upd_same]
          unfold DS.lack
          rw [e]
      exact k t l _ (kk.back ht (D4.off ht)) hl tl upd_same (by rw [upd_ne (Ne.symm tl)]; exact hl3) (D4.same (Same.new ht)) (kk.trans (But.new ht))
end
end CK

/-! What a new dial tells of a row. -/
namespace CK
open PySem PySem.Spec PyProof.Rows L2
section
variable {P : Program} {w : World} {K : PySem.W.Frag} {mg : Str → Option Value} {base : Heap}
/-- all that a new dial tells of a row -/
def spTold (K : PySem.W.Frag) : Sp := fun vs H Q _ => ∃ (n : Int) (r : Addr) (row : List Int), vs = [.int n, .ref r] ∧ 1 ≤ n ∧ n ≤ 8 ∧ SqL K H r (il row) ∧ RowOk row ∧
  ∀ (d : Addr) (as : List Addr) (H' : Hp), H d = none → Same H H' → H' d = some (.lst (as.map V.ref)) → TellsAt [d] H H' as (tellsL (DS.new n.toNat) row) → Q (.ref d) H'
theorem sc_told : FnScope ["rooms", "row", "dial", "page"] ["rooms", "row"] (defScope (top 16)) := ⟨rfl, rfl, rfl, by decide +kernel, rfl, by decide +kernel, by decide +kernel⟩
theorem ok_told (T : Prog K mg) : FnOk P w K mg base CX0 4 T.told.f T.told.fd ["rooms", "row"] (spTold K) := by
  have G_check_rooms := ok_check_rooms (P := P) (w := w) (base := base) T
  have G_check_row := ok_check_row (P := P) (w := w) (base := base) T
  have G_Dial := ok_Dial_init (P := P) (w := w) (base := base) T
  have G_ask := ok_Dial_ask (P := P) (w := w) (base := base) T
  refine T.told.fn.ok sc_told (fun vs H Q E h => ?len) (fun cdv A outer s H vs Q E hr h => ?body)
  case len =>
    obtain ⟨n, r, row, rfl, _⟩ := h
    rfl
  case body =>
    have hr_check_rooms : Room 1 _ := hr.mono (by decide)
    have hr_check_row : Room 2 _ := hr.mono (by decide)
    have hr_ask : Room 3 _ := hr.mono (by decide)
    have hu := hu_of hr
    obtain ⟨n, r, row, rfl, n1, n8, hS, hR, k⟩ := h
    refine ⟨_, PSs.nox (pss_cons (ps_expr (pe_call G_check_rooms hr_check_rooms (by rfl) T.check_rooms.g T.check_rooms.fn.kp T.check_rooms.bd .nil pass0 (pa_cons (pv 0) pa_nil)))
        (pss_cons (ps_expr (pe_call G_check_row hr_check_row (by rfl) T.check_row.g T.check_row.fn.kp T.check_row.bd .nil pass0 (pa_cons (pv 1) pa_nil)))
        (pss_cons (ps_set (i := 2) sc_told.nd rfl (Or.inr rfl) (pe_make T.Dial.mkr G_Dial (hr.mono (by decide)) (by rfl) T.Dial.g T.Dial.bI .nil pass0 (pa_cons (pv 0) pa_nil)))
        (pss_one (ps_ret (pe_lc (own := [("page", 3)]) (g := gName 3) rfl sc_told.nd ((pi_list (pv 1))) (blkOk_by (own := [("page", 3)]) (N := ["rooms", "row", "dial", "page"]) (sc := defScope (top 16)) (by decide +kernel)) (fun _ _ _ _ _ => (by exact (pg_name (i := 3) sc_told.nd rfl (Or.inl rfl)))) (fun _ _ _ _ _ => (by exact pts_nil)) (fun _ _ _ _ _ => (by exact (pe_meth (pv 2) T.Dial.cl T.Dial.ask.me G_ask hr_ask T.Dial.ask.bd .nil pass0 (pa_cons (pv 3) pa_nil)))))))))), ?_⟩
    refine ⟨_, rfl, n, rfl, n1, n8, ?_⟩
    refine ⟨_, rfl, r, row, rfl, hS, hR, fun H1 s1 => ?_⟩
    -- dial = Dial(rooms)
    refine ⟨_, rfl, fun p dx np ndx nex => ?_⟩
    refine ⟨p, dx, n, rfl, upd_same, n1, n8, fun a b H2 ha hb D2 k2 => ⟨rfl, ?_⟩⟩
    have s0 : Same H1 (upd (upd H1 dx (.own p)) p (.ins T.Dial.C dx [])) := fun c o e => by
      rw [upd_ne (ne_fresh e np), upd_ne (ne_fresh e ndx)]
      exact e
    have s2 : Same H1 H2 := fun c o e => k2 c o (s0 c o e) (by simpa using ne_fresh e np)
    have s02 : Same H H2 := s1.trans s2
    have pH : H p = none := Same.back s1 np
    have aH : H a = none := Same.back (s1.trans s0) ha
    have bH : H b = none := Same.back (s1.trans s0) hb
    have W0 : (DS.new n.toNat).WF n.toNat := DS.new_wf (by omega)
    -- [dial.ask(page) for page in row]
    refine ⟨_, rfl, r, rfl, ⟨_, s02.seq hS⟩, fun d hd => ?_⟩
    have dH : H d = none := Same.back s02 hd
    have dp : d ≠ p := by obtain ⟨_, q⟩ := D2.ob; exact Ne.symm (ne_fresh q hd)
    have da : d ≠ a := Ne.symm (ne_fresh D2.he hd)
    have db : d ≠ b := Ne.symm (ne_fresh D2.ma hd)
    have dS : d ∉ [p, a, b] := by simp [dp, da, db]
    refine lc_list (K := K) (a := r) (xs := il row) (fun i H' => ∃ as : List Addr, H' d = some (.lst (as.map V.ref)) ∧ DialIs T.Dial.C H' p a b (afterL (DS.new n.toNat) (row.take i)) ∧ Same H H' ∧ TellsAt [d, p, a, b] H H' as (tellsL (DS.new n.toNat) (row.take i)) ∧ as.length = i) ?_ ?_ ?_ ?_
    · exact ⟨[], upd_same, D2.same (Same.new hd), s02.trans (Same.new hd), ⟨rfl, fun i a x h => by simp at h⟩, rfl⟩
    · rintro i H' _ ⟨as, _, _, q, _⟩
      exact q.seq hS
    · rintro i x H3 hx ⟨as, hd3, D3, s3, t3, hl3⟩
      obtain ⟨pg, hpg, rfl⟩ := il_get hx
      have hpl := hR.2 pg (List.mem_of_getElem? hpg)
      have hi : i < row.length := (List.getElem?_eq_some_iff.mp hpg).1
      have hR1 := hR.1
      obtain ⟨dx3, hp3⟩ := D3.ob
      refine ⟨rfl, _, rfl, p, dx3, _, rfl, hp3, rfl, _, rfl, p, a, b, _, n.toNat, pg, rfl, D3, afterL_wf W0 _, by omega, hpl.1, hpl.2, fun t l H4 ht hl tl ht4 hl4 D4 k4 => ?_⟩
      have hd4 : H4 d = some (.lst (as.map V.ref)) := k4 _ _ hd3 dS
      have s4 : Same H H4 := fun c o e => k4 _ _ (s3 _ _ e) (by
        have z1 := ne_fresh e pH
        have z2 := ne_fresh e aH
        have z3 := ne_fresh e bH
        simp [z1, z2, z3])
      have td : t ≠ d := Ne.symm (ne_fresh hd3 ht)
      have ld : l ≠ d := Ne.symm (ne_fresh hd3 hl)
      refine ⟨_, hd4, szl (by simp; omega), as ++ [t], ?_, ?_, ?_, ?_, by simp [hl3]⟩
      · rw [upd_same, List.map_append]
        rfl
      · rw [take_snoc hpg, afterL_snoc]
        exact D4.but (S := [d]) (But.put (by simp)) (by simp [Ne.symm dp]) (by simp [Ne.symm da]) (by simp [Ne.symm db])
      · exact Same.put s4 dH
      · rw [take_snoc hpg, tellsL_snoc]
        have tS : t ∉ [d, p, a, b] := by
          have q1 : t ≠ p := by obtain ⟨_, q⟩ := D3.ob; exact Ne.symm (ne_fresh q ht)
          have q2 : t ≠ a := Ne.symm (ne_fresh D3.he ht)
          have q3 : t ≠ b := Ne.symm (ne_fresh D3.ma ht)
          simp [td, q1, q2, q3]
        have lS : l ∉ [d, p, a, b] := by
          have q1 : l ≠ p := by obtain ⟨_, q⟩ := D3.ob; exact Ne.symm (ne_fresh q hl)
          have q2 : l ≠ a := Ne.symm (ne_fresh D3.he hl)
          have q3 : l ≠ b := Ne.symm (ne_fresh D3.ma hl)
          simp [ld, q1, q2, q3]
        exact ((t3.but k4 (by simp)).snoc (Same.back s3 ht) tS (Same.back s3 hl) lS tl ht4 hl4).but (S' := [d]) (But.put (by simp)) (by simp)
    · rintro H' ⟨as, z1, z2, z3, z4, z5⟩
      rw [List.take_of_length_le (by simp)] at z4
      exact k d as H' dH z3 z1 ⟨z4.len, fun i c x hc hx => by
        obtain ⟨y1, y2, l, y3, y4, y5⟩ := z4.at_ i c x hc hx
        simp at y2 y4
        exact ⟨y1, by simp [y2.1], l, y3, by simp [y4.1], y5⟩⟩
end
end CK

/-! BadRow(place): its __init__ says super().__init__(f'..'), then self.place = place. -/
namespace CKX
open PySem PySem.Spec PySem.W PySem.Calls PyProof.Rows PySem.HandSPX L2 CK
/-! ### the text of __init__, its places left open -/
abbrev sBR : Stmt := (inClass (top 3) 0)
abbrev iA : Arguments := L2.defArgs sBR
abbrev iB : List Stmt := L2.defBody sBR
abbrev iS : Scope := L2.defScope sBR
/-- where the text stands -/
def posJ : Pos := match iB with
  | .Expr (.Call _ (.JoinedStr _ p :: _) _ _) _ :: _ => p
  | _ => ⟨0, 0, 0, 0⟩
/-- what the written part says of BadRow, at C, of its __init__, at fI, of the cell at cc and the code at cda -/
structure BrTxt (p : Program) (K : Frag) (mg : Str → Option Value) (C fI cc cda : Addr) : Prop where
  gC : mg "BadRow" = some (.ref C)
  gS : mg "super" = none
  cls : ∃ nm q N bs bm sn sub ab col dd k0 k1 k2 k3 k5, K.lookup C = some (excClassObj nm q C N bs bm true sn sub ab col dd k0 k1 k2 k3 k5 "ValueError.__new__") ∧ refsVE bm = true ∧ alongIn K "__init__" bm = some (some (.builtin "ValueError.__init__"))
  sa : findIn K (.ref C) "__setattr__" = some (some (.builtin "object.__setattr__"))
  ga : findIn K (.ref C) "__getattribute__" = some (some (.builtin "BaseException.__getattribute__"))
  gg : findIn K (.ref C) "__getattr__" = some none
  noN : findIn K (.ref C) "place" = some none
  iC : findIn K (.ref C) "__init__" = some (some (.ref fI))
  tC : typeIn K (.ref fI) = some (.type "function")
  kC : keepIn K (.ref C) = true
  exC : subIn K (.ref C) (.type "BaseException") = some true
  tyC : typeIn K (.ref C) = some (.type "type")
  hdC : hasDictIn K C = true
  subB : subIn K (.ref C) (.type "ValueError") = some true
  opq : nsIn K cStatics "thirdparty.any" = some none
  fn : ∃ (oc : Value) (od : Option Addr) (doc pm : Value) (an : Option Addr) (ct : Value) (osl : Array (Option Value)),
    K.lookup fI = some ⟨oc, od, .func (ksFn "__init__" "BadRow.__init__" iA iB iS .none .none doc pm an (.ref cda) ct cc), osl⟩ ∧ codeIn K (.ref cda) "BadRow.__init__" = true
  code : ∃ (ccl : Value) (cdd : Option Addr) (vs : Array Value) (ccs : Array (Option Value)) (file : Str) (tf : Tok), K.lookup cda = some ⟨ccl, cdd, .fields vs, ccs⟩ ∧ vs[2]? = some (.str file tf) ∧ ((p.main.file : Str) == file) = true
  cell : ∃ (cl : Value) (cld : Option Addr) (csl : Array (Option Value)), K.lookup cc = some ⟨cl, cld, .cell (some (.ref C)), csl⟩
  top : (p.main.scope.names.lookup ("super" : Str)).isSome = false
theorem one_size (v : Value) : [v].length ≤ sizeLine := by
  rw [sizeLine_eq]
  exact (by decide : 1 ≤ 16777216)
theorem kept_but {K : Frag} {h h' : Heap} {x : Addr} (X : K.In h) (hx : K.lookup x = none) (k : ∀ b o, b ≠ x → h.get? b = some o → h'.get? b = some o) : K.In h' := fun a o e =>
  k a o (fun z => by rw [z, hx] at e; cases e) (X a o e)
/-- what __init__ leaves of a fresh exception at x -/
structure InitEnd (h h' : Heap) (x C dx t1 : Addr) (v : Value) : Prop where
  keep : ∀ b o, b ≠ x → h.get? b = some o → h'.get? b = some o
  obj : h'.get? x = some { cls := .ref C, dict := some dx, data := .fields #[.ref t1, .none, .none, .none, .bool false, .none] }
  dbig : h.objs.size ≤ dx
  dne : dx ≠ x
  ns : h'.Ns1 dx (fun y => if y = "place" then some v else none)
/-- what the module's names and the built-in ones are, at a heap -/
structure Names (mg : Str → Option Value) (h : Heap) : Prop where
  g : h.Ns mainGlobals mg
  b : ∃ mb, h.Ns builtinsNs mb ∧ ∀ x : Str, x ≠ "__name__" → mb x = bootBuiltins x
theorem Names.keeps {mg : Str → Option Value} {h h' : Heap} (n : Names mg h) (k : ∀ b o, h.get? b = some o → h'.get? b = some o) : Names mg h' := by
  obtain ⟨mb, h1, h2⟩ := n.b
  exact ⟨n.g.keeps k, mb, h1.keeps k, h2⟩
section
variable {prog : Program} {w : World} {A : Around} {E : Value → Shared → Prop} {R : Result → Shared → Prop} {s : Shared} {K : Frag} {mg : Str → Option Value} {C fI cc cda : Addr}
theorem text_len {v : Int} (hv : v.natAbs < 10 ^ 10) : (Str.empty ++ ("bad at place " : Str) ++ Str.ofString (toString v)).length ≤ sizeLine := by
  have h := int_text_length_le10 (a := v) (k := 10) (by decide) hv
  have e : (Str.empty ++ ("bad at place " : Str) ++ Str.ofString (toString v)).length = (Str.empty ++ ("bad at place " : Str)).length + (Str.ofString (toString v)).length := by
    exact PySem.Str.length_append _ _
  rw [e, PySem.ofString_length]
  have e2 : (Str.empty ++ ("bad at place " : Str)).length = 13 := by decide +kernel
  rw [e2, sizeLine_eq]
  omega
/-- the bound ValueError.__init__ at u, of the exception at e, called -/
theorem call_mw {h : Heap} {g : Array GenState} {d : Drawn} {t : Nat} {os : OsState} {nm q : Str} {N : Addr} {bs bm : List Value} {hdct : Bool} {sn : List Str} {sub : List Value} {ab : Bool} {col : Option Bool} {dd : Option Addr} {k0 k1 k2 k3 k5 : Option Value}
    {u e t0 : Addr} {rest : List Value} {Q : Value → Shared → Prop} (hC : h.get? C = some (excClassObj nm q C N bs bm hdct sn sub ab col dd k0 k1 k2 k3 k5 "ValueError.__new__")) (he : h.get? e = some (excO C t0)) (hu : h.get? u = some (kxs_mw "ValueError.__init__" e)) (hz : rest.length ≤ sizeLine)
    (hq : ∀ h' t1, (∀ b o, b ≠ e → h.get? b = some o → h'.get? b = some o) → h'.get? e = some (excO C t1) → Q .none ⟨h', g, d, t, os⟩) : wpAny (model prog w) A (call (.ref u) rest) Q E ⟨h, g, d, t, os⟩ := by
  refine wpAny_call (codeAny_of_tree ?_)
  refine (show wpAny _ A.in1 (callAny (.ref u) ⟨rest, []⟩) _ _ ⟨h, g, d, t, os⟩ from ?_)
  unfold callAny
  refine wpAny_bind (wpAny_load hu ?_)
  have e1 : (Value.type "method-wrapper" == Value.type "method" || Value.type "method-wrapper" == Value.type "builtin_function_or_method"
      || Value.type "method-wrapper" == Value.type "method-wrapper") = true := by decide
  simp only [kxs_mw, e1, if_true]
  refine KFB.if_so (by decide) (wpAny_bind (ESX.check_bound F.excBase_ValueError hC he rfl ?_))
  refine wpAny_bind (wpAny_pure (wpAny_pure ⟨plainId_quiet F.excBase_ValueError.init.plain _, codeAny_builtin F.excBase_ValueError.initEntry ?_⟩))
  refine exc_init_tree (cls := .ref C) (t0 := t0) (dv := none) (c2 := .none) (c3 := .none) (b4 := .bool false) he hz fun h' k1 k2 _ => ?_
  exact hq h' _ k1 k2
theorem br_init (T : BrTxt prog K mg C fI cc cda) {x t0 : Addr} {v : Int} {tv : Tok} (X : K.In s.heap) (hlim : s.heap.NoLimit) (NN : Names mg s.heap) (hx : s.heap.get? x = some (excO C t0)) (hnx : K.lookup x = none) (hroom : A.depth < recursionLimit) (hv : v.natAbs < 10 ^ 10)
    (hq : ∀ h' tk dx t1, InitEnd s.heap h' x C dx t1 (.int v tv) → R (.ok (.ret .none)) { s with heap := h', toks := tk }) :
    codeAny (model prog w) A (.call (.ref fI) ⟨[.ref x, .int v tv], []⟩) R s := by
  obtain ⟨oc, od, doc, pm, an, ct, osl, ho, hcd⟩ := T.fn
  obtain ⟨nm, q, N, bs, bm, sn, sub, ab, col, dd, k0, k1, k2, k3, k5, hC, hbm, hal⟩ := T.cls
  obtain ⟨ccl, cdd, vs, ccs, file, tf, hcode, hvs, hfile⟩ := T.code
  obtain ⟨cl, cld, csl, hcell⟩ := T.cell
  have hcl : clsIn K C = some { name := nm, bases := bs, mro := .ref C :: bm, ns := N, qualname := q, hasDict := true, slotNames := sn, subclasses := sub, abstract := ab, collection := col, hasDel := false } := by unfold clsIn; rw [hC] <;> rfl
  refine ks_codeAny_call_defAt (fd := ksFn "__init__" "BadRow.__init__" iA iB iS .none .none doc pm an (.ref cda) ct cc) (body := iB) (binds := [("self", .ref x), ("place", .int v tv)])
    hroom (X _ _ ho) rfl hlim (codeRec_of X hcd) rfl (BindsTo.of_eq (by first | rfl | with_unfolding_all rfl)) (show ∀ y ∈ iS.names, y.2 ≠ .cell by decide +kernel) (fun y hy => ?loc) (fun h₁ hns hk₁ => ?_) rfl rfl rfl
  case loc =>
    rcases List.mem_cons.mp hy with e | hy
    · rw [e]; rfl
    rcases List.mem_cons.mp hy with e | hy
    · rw [e]; rfl
    · cases hy
  have X₁ : K.In h₁ := X.keeps hk₁
  have N₁ := NN.keeps hk₁
  have hx₁ := hk₁ _ _ hx
  have hC₁ := X₁ _ _ hC
  -- super().__init__(f'bad at place {place}')
  refine ks_wpAt_execs_cons (ks_wpAt_Expr_any (ks_wpAt_MethodCall ?_))
  have hmC : mroIn K C (.ref C) = some true := by
    unfold mroIn
    rw [hcl]
    show some ((Value.ref C :: bm).contains (.ref C)) = some true
    rw [List.contains_cons, beq_self_eq_true]
    rfl
  obtain ⟨mb, hb₁, hbt⟩ := N₁.b
  refine ks_wpAt_super_base rfl rfl rfl rfl (X₁ _ _ ho) rfl rfl rfl (X₁ _ _ hcode) rfl hvs hfile T.top ?_
  refine ks_loadName_global rfl rfl (loadGlobal_builtin N₁.g T.gS hb₁ ((hbt _ (by decide +kernel)).trans (by decide +kernel : bootBuiltins "super" = some (.type "super"))) ⟨rfl, ?_⟩)
  refine wpAny_loadName_free rfl rfl rfl ⟨_, X₁ _ _ hcell, rfl⟩ ?_
  refine wpAny_loadName_local rfl rfl hns (v := .ref x) rfl ?_
  refine ks_wpAny_isType_cls hC₁ rfl ⟨rfl, ?_⟩
  refine ks_wpAny_call_super hC₁ rfl hx₁ rfl (fun c e => by cases e) (looks_mroIn X₁ hmC) (fun h₂ e₂ k₂ => ?_)
  have X₂ := X₁.keeps k₂
  have hx₂ := k₂ _ _ hx₁
  have hxC : x ≠ C := by
    intro z
    rw [z] at hx₁
    rw [hC₁] at hx₁
    cases hx₁
  have I₂ : InstAt h₂ x (excO C t0) C none := ⟨hx₂, rfl, rfl, trivial⟩
  refine kxs_getMethod kxs_ValueError e₂ (looks_opaque X₂ T.opq) (l₀ := .ref C :: bm) (fun A Q E s k q => wpAny_bind ((looks_clsIn X₂ hcl) A _ E s k (wpAny_pure q))) ?_ X₂ hal (I₂.type.andThen (looks_subIn X₂ T.subB)) hxC (by decide) ?_
  · rw [List.dropWhile_cons]
    have e : (Value.ref C != Value.ref C) = false := by simp
    rw [e]
    rfl
  -- the wrapper is called with the text
  refine kxs_callWith (i := "ValueError.__init__") (u := h₂.objs.size) (x := x) rfl (evalArgs_plain (spliced_cons ?_))
  refine wpAny_JoinedStr (pos := posJ) ?_
  refine Constant_str ⟨_, _, rfl, ?_, ?_⟩
  · decide +kernel
  have k₃ : ∀ b o, h₂.get? b = some o → (h₂.push (kxs_mw "ValueError.__init__" x)).get? b = some o := fun b o e => Heap.get?_push_of_some _ e
  have hn₃ := (hns.keeps k₂).keeps k₃
  have hlog : v.natAbs.log2 < 1920 := Nat.lt_trans (PySem.Flt.log2_lt_of (k := 40) (by decide) (Nat.lt_trans hv (by decide))) (by decide)
  refine wpAny_FormattedValue_plain (wpAny_Name (wpAny_loadName_local rfl rfl hn₃ (v := .int v tv) rfl ?_))
  have hlen := text_len hv
  refine wpAny_formatField_int hlog ⟨_, _, rfl, hlen, ?_⟩
  refine ⟨hlen, spliced_nil ⟨Heap.get?_push_at rfl rfl, ?_⟩⟩
  refine call_mw (k₃ _ _ (k₂ _ _ hC₁)) (k₃ _ _ hx₂) (Heap.get?_push_at rfl rfl) (one_size _) (fun h₄ t1 k₄ hx₄ => ?_)
  -- self.place = place
  have k₁₄ : ∀ b o, b ≠ x → h₁.get? b = some o → h₄.get? b = some o := fun b o hb e => k₄ b o hb (k₃ b o (k₂ b o e))
  have X₄ : K.In h₄ := kept_but (X₂.keeps k₃) hnx k₄
  have hxL : s.heap.objs.size ≠ x := Nat.ne_of_gt (Heap.lt_size hx)
  have hn₄ : h₄.Ns s.heap.objs.size (fun y => ([("self", Value.ref x), ("place", .int v tv)] : List (Str × Value)).reverse.lookup y) := hn₃.at fun o e => k₄ _ o hxL e
  refine ks_wpAt_execs_cons (ks_wpAt_Assign_Attr (wpAt_of_wpAny ?_))
  refine wpAny_Name (wpAny_loadName_local rfl rfl hn₄ (v := .int v tv) rfl (wpAny_Name (wpAny_loadName_local rfl rfl hn₄ (v := .ref x) rfl ?_)))
  refine set_plain X₄ (ox := excO C t1) (od := none) ⟨hx₄, rfl, rfl, trivial⟩ T.sa ?_
  refine exc_osa X₄ hx₄ hcl (show refsVE (.ref C :: bm) = true from hbm) rfl T.noN (fun h₅ tk₅ dx k₅ dn dne hx₅ hn₅ => ?_)
  refine wpAt_of_wpAny (wpAny_execs_nil ?_)
  refine hq h₅ tk₅ dx t1 ⟨fun b o hb e => k₅ b o hb (k₁₄ b o hb (hk₁ b o e)), hx₅, ?_, dne, hn₅⟩
  have z : s.heap.objs.size < h₄.objs.size := hn₄.lt
  exact Nat.le_of_lt (Nat.lt_of_lt_of_le z dn)
end
end CKX

/-! BadRow(place), made and raised; a caught error asked of its class. -/
namespace CKX
open PySem PySem.Spec PySem.W PySem.Calls PyProof.Rows PySem.HandSPX L2 CK
/-- a BadRow as it leaves its class: at e, its own dict at dx -/
structure BrMade (h h' : Heap) (e C dx : Addr) (v : Value) : Prop where
  keep : ∀ b o, h.get? b = some o → h'.get? b = some o
  new : h.objs.size ≤ e
  obj : ∃ t1, h'.get? e = some { cls := .ref C, dict := some dx, data := .fields #[.ref t1, .none, .none, .none, .bool false, .none] }
  dbig : h.objs.size ≤ dx
  dne : dx ≠ e
  ns : h'.Ns1 dx (fun y => if y = "place" then some v else none)
section
variable {prog : Program} {w : World} {A : Around} {E : Value → Shared → Prop} {R : Result → Shared → Prop} {s : Shared} {K : Frag} {mg : Str → Option Value} {C fI cc cda : Addr}
theorem br_made (T : BrTxt prog K mg C fI cc cda) {v : Int} {tv : Tok} (X : K.In s.heap) (hlim : s.heap.NoLimit) (NN : Names mg s.heap) (hroom : A.depth + 1 < recursionLimit) (hv : v.natAbs < 10 ^ 10)
    (hq : ∀ h' tk e d, BrMade s.heap h' e C d (.int v tv) → R (.ok (.ret (.ref e))) { s with heap := h', toks := tk }) :
    codeAny (model prog w) A (.call (.ref C) ⟨[.int v tv], []⟩) R s := by
  obtain ⟨nm, q, N, bs, bm, sn, sub, ab, col, dd, k0, k1, k2, k3, k5, hC, hbm, _⟩ := T.cls
  obtain ⟨hp, g, dr, tk, os⟩ := s
  have up : ∀ b o, hp.get? b = some o → ((hp.push (kdv_tup [.int v tv])).push (excO C hp.objs.size)).get? b = some o := fun b o e => Heap.get?_push_of_some _ (Heap.get?_push_of_some _ e)
  have hself : ((hp.push (kdv_tup [.int v tv])).push (excO C hp.objs.size)).get? (hp.objs.size + 1) = some (excO C hp.objs.size) := by heap_get
  have free : K.lookup (hp.objs.size + 1) = none := by
    refine Option.eq_none_iff_forall_ne_some.mpr fun o e => ?_
    have z2 : hp.objs.size + 1 < hp.objs.size := Heap.lt_size (X _ _ e)
    exact Nat.lt_irrefl _ (Nat.lt_of_succ_lt z2)
  refine call_own F.excBase_ValueError (fun Y => refsVE_contains Y bm hbm) (X _ _ hC) (looks_findIn X T.iC) (fun self => bind_fn X self T.tC) (one_size (.int v tv)) ?_
  refine br_init (s := ⟨(hp.push (kdv_tup [.int v tv])).push (excO C hp.objs.size), g, dr, tk, os⟩) T (X.keeps up) (hlim.keeps up) (NN.keeps up) hself free (show A.depth + 1 < recursionLimit from hroom) hv fun h' tk' dx t1 J => ?_
  have small : ∀ b o, hp.get? b = some o → b ≠ hp.objs.size + 1 := fun b o e z => by
    have y : b < hp.objs.size := Heap.lt_size e
    rw [z] at y
    exact Nat.lt_irrefl _ (Nat.lt_of_succ_lt y)
  have sz2 : hp.objs.size + 1 + 1 ≤ dx := by
    have q := J.dbig
    rw [Heap.size_push, Heap.size_push] at q
    exact q
  exact ⟨rfl, hq h' tk' (hp.objs.size + 1) dx ⟨fun b o e => J.keep b o (small b o e) (up b o e), Nat.le_succ _, ⟨t1, J.obj⟩, Nat.le_trans (Nat.le_add_right _ 2) sz2, J.dne, J.ns⟩⟩
end
end CKX
namespace CK
open PySem PySem.Spec PyProof.Rows L2 CKX
abbrev xdP (i : Int) : HO := .xd [(("place" : Str), .int i)]
theorem relO_place {v : V} {u : Value} (r : RelV v u) (f : Str) : RelO (List.lookup f [(("place" : Str), v)]) (if f = "place" then some u else none) := by
  by_cases e : f = "place"
  · subst e
    have q : List.lookup ("place" : Str) [(("place" : Str), v)] = some v := by simp [List.lookup]
    rw [if_pos rfl, q]
    exact r
  · have z : (f == ("place" : Str)) = false := by simpa using e
    have q : List.lookup f [(("place" : Str), v)] = none := by simp [List.lookup, z]
    rw [if_neg e, q]
    trivial
/-- BadRow(i) -/
def tMkBr (C : Addr) (ta : TA) : L2.St → Hp → XK → Prop := fun σ H Q => ta σ H fun vs H1 => ∃ i : Int, vs = [.int i] ∧ i.natAbs < 10 ^ 10 ∧ ∀ d, H1 d = none → Q (.ref C) (some d) (upd H1 d (xdP i))
section
variable {X : Cx} {C fI cc cda : Addr}
theorem pmk_br {a : Expr} {ta : TA} {p pos : Pos} (T : BrTxt X.prog X.K X.mg C fI cc cda) (hr : X.A.depth + 1 < recursionLimit) (ha : PA X [a] ta) (hg : Gl X "BadRow" := by rfl)
    (he : starEach (a :: []) X.env = (false, eval a X.env) :: starEach [] X.env := by rfl) (hpl : (backTo pos (starEach [] X.env)).any (·.1) = false := by rfl) :
    L2N.PMk X (.Call (.Name "BadRow" p) [a] [] pos) (tMkBr C ta) := by
  intro pins s σ H Q I h
  refine wpAny_Call_Name_kw (ld_glob I hg T.gC ?_)
  refine PySem.W.callWith_K (h₀ := X.base) I.ok.mod.kin T.kC (thn (ha.run pos pins s σ H _ I h) fun us s1 hh => ?_) he hpl
  obtain ⟨vs, H1, I1, rel, i, ev, small, go⟩ := hh
  subst ev
  refine ⟨I1.kIn, ?_⟩
  cases rel with
  | cons rv rest =>
    cases rest
    obtain ⟨ti, rfl⟩ := rv
    obtain ⟨hp, g, dr, tk, os⟩ := s1
    have nn : Names X.mg hp := by
      obtain ⟨mb, b1, b2⟩ := I1.mod.blt
      exact ⟨I1.mod.glob.keeps I1.bk, mb, b1.keeps I1.bk, b2⟩
    refine wpAny_call (br_made T I1.kIn I1.nolimit nn hr small fun h' tk' e d M => ?_)
    show L2N.MkP X pins σ Q (.ref e) ⟨h', g, dr, tk', os⟩
    obtain ⟨t1, made⟩ := M.obj
    -- the heap without the error's object
    obtain ⟨G, gIn, gOut⟩ := restrict h' fun b => decide (b ≠ e)
    have eqG : ∀ b, b ≠ e → G.get? b = h'.get? b := fun b hb => gIn b (decide_eq_true hb)
    have noE : G.get? e = none := gOut e (by simp)
    have ground : ∀ b o, hp.get? b = some o → G.get? b = some o := fun b o q => by
      have lt := Heap.lt_size q
      rw [eqG b (fun z => by rw [z] at lt; exact Nat.lt_irrefl _ (Nat.lt_of_lt_of_le lt M.new))]
      exact M.keep b o q
    have own : ObjOk X.prog X.w (upd H1 d (xdP i)) G d (xdP i) :=
      ⟨_, M.ns.at (fun o q => (eqG d M.dne).trans q), fun f => relO_place (v := V.int i) ⟨ti, rfl⟩ f⟩
    have J : Inv X pins σ (upd H1 d (xdP i)) ⟨G, g, dr, tk', os⟩ := I1.laid (t' := tk') ground M.dbig own
    refine ⟨e, _, _, ⟨G, g, dr, tk', os⟩, _, .ref C, some d, rfl, J, fun b o q => ?_, noE, made, ⟨rfl, rfl, fun vs ev => ?_⟩, rfl, rfl, ?_, rfl, I1.bare, raises_own T.exC T.tyC, go d (I1.hok.fresh M.dbig)⟩
    · have hb : b ≠ e := fun z => by
        have q' : G.get? b = some o := q
        rw [z, noE] at q'
        cases q'
      rw [← eqG b hb]
      exact q
    · cases ev
      rfl
    · rw [upd_ne (Ne.symm M.dne)]
      exact I1.hok.fresh M.new
end
end CK

/-! Own errors: what is known of their classes; asked of them in a suite, also in a def called there. -/
namespace CK
open PySem PySem.Spec PyProof.Rows L2 CKX
/-! ### the classes -/
/-- an error of the class at D is of these of the four classes, is a ValueError, is caught as a PageError -/
structure IsErr (K : PySem.W.Frag) (pe c0 c1 c2 c3 : Addr) (D : Addr) (i : Nat) : Prop where
  ec : ExcC K D
  k0 : PySem.W.kitOne K (.ref D) (.ref c0) = some (decide (i = 0))
  k1 : PySem.W.kitOne K (.ref D) (.ref c1) = some (decide (i = 1))
  k2 : PySem.W.kitOne K (.ref D) (.ref c2) = some (decide (i = 2))
  k3 : PySem.W.kitOne K (.ref D) (.ref c3) = some (decide (i = 3))
  kv : PySem.W.kitOne K (.ref D) (.type "ValueError") = some true
  xm : PySem.W.exmOne K (.ref D) (.ref pe) = some true
/-- an error's class without an own __init__ -/
structure PlainErr (K : PySem.W.Frag) (C : Addr) : Prop where
  q : PySem.W.excIn K C He.veBase "ValueError.__new__" = true
  k : PySem.W.keepIn K (.ref C) = true
  t : PySem.W.typeIn K (.ref C) = some (.type "type")
structure Errs (p : Program) (K : PySem.W.Frag) (mg : Str → Option Value) where
  pe : Addr
  rooms : Addr
  row : Addr
  rule : Addr
  many : Addr
  fI : Addr
  cc : Addr
  cda : Addr
  gPE : mg "PageError" = some (.ref pe)
  gRooms : mg "BadRooms" = some (.ref rooms)
  gRule : mg "BadRule" = some (.ref rule)
  gMany : mg "TooMany" = some (.ref many)
  vE : mg "ValueError" = none
  br : BrTxt p K mg row fI cc cda
  iRooms : IsErr K pe rooms row rule many rooms 0
  iRow : IsErr K pe rooms row rule many row 1
  iRule : IsErr K pe rooms row rule many rule 2
  iMany : IsErr K pe rooms row rule many many 3
  pRooms : PlainErr K rooms
  pRule : PlainErr K rule
  pMany : PlainErr K many
theorem Errs.xf {p : Program} {K : PySem.W.Frag} {mg : Str → Option Value} (E : Errs p K mg) : XfC K E.row := ⟨E.br.ga, E.br.gg, E.br.exC, E.br.hdC⟩
/-! ### isinstance -/
/-- an error's own dict is known -/
def DictOk (H : Hp) (d : Option Addr) : Prop := match d with
  | none => True
  | some dd => ∃ fs, H dd = some (.xd fs)
theorem DictOk.same {H H' : Hp} {d : Option Addr} (h : DictOk H d) (k : Same H H') : DictOk H' d := by
  cases d with
  | none => trivial
  | some dd =>
    obtain ⟨fs, e⟩ := h
    exact ⟨fs, k _ _ e⟩
def rIsX (K : PySem.W.Frag) (D a : Addr) (d : Option Addr) : List V → Hp → VK → Prop := fun xs H Q => ∃ (c : V) (cv : Value) (b : Bool), xs = [.ref a, c] ∧ (∀ u, RelV c u → u = cv) ∧ PySem.W.kitOne K (.ref D) cv = some b ∧ DictOk H d ∧ Q (.bl b) H
theorem rel_ref {a : Addr} : ∀ u, RelV (V.ref a) u → u = Value.ref a := fun _ r => r
theorem rel_ty {T : String} : ∀ u, RelV (V.ty T) u → u = Value.type T := fun _ r => r
theorem call_isX {X : Cx} {D : Addr} {d : Option Addr} {p : Addr × Obj} (C : ExcC X.K D) (hp : p ∈ X.pn) (hz : Zc (.ref D) d p.2) (hf : ∃ vs, p.2.data = .fields vs) : CallR X (.builtin "isinstance") (rIsX X.K D p.1 d) := by
  intro pins s σ H xs us Q I r h
  obtain ⟨c, cv, b, rfl, only, ans, hd, q⟩ := h
  obtain ⟨a, oe⟩ := p
  cases r with
  | cons r1 r2 =>
    cases r2 with
    | cons r3 r4 =>
      cases r4
      cases r1
      obtain rfl := only _ r3
      have here := (I.pin (a, oe) (List.mem_append_left _ hp)).1
      have J : ∃ od, PySem.W.InstAt s.heap a oe D od := by
        obtain ⟨vs, ev⟩ := hf
        have no : PySem.W.notCls oe = true := by
          have ev' : oe.data = .fields vs := ev
          unfold PySem.W.notCls
          rw [ev'] <;> rfl
        obtain ⟨z1, z2⟩ := hz
        cases d with
        | none => exact ⟨none, here, z1, no, by rw [show oe.dict = none from z2]; trivial⟩
        | some dd =>
          obtain ⟨fs, hx⟩ := hd
          have hx' : ObjOk X.prog X.w H s.heap dd (.xd fs) := I.hok dd _ hx
          obtain ⟨m, hns, _⟩ := hx'
          obtain ⟨od, ho, _⟩ := lookIn_ns hns
          exact ⟨some od, here, z1, no, by rw [show oe.dict = some dd from z2]; exact ho⟩
      obtain ⟨od, J⟩ := J
      have hcl : (PySem.W.clsIn X.K D).isSome = true := by
        obtain ⟨cd, e, _⟩ := PySem.W.any_some C.hd
        rw [e]
        rfl
      exact PySem.W.kia_one (PySem.W.kitx_exc hcl C.hg C.hk C.hs C.ha C.hn C.ht C.hm) I.kIn J ans (fun z => nomatch z) fun tk => ⟨.bl b, H, I.kept (t' := tk) fun _ _ z => z, rfl, q⟩
/-! ### list.count of flat things -/
def rCountV (K : PySem.W.Frag) : V → List V → Hp → VK → Prop := fun x xs H Q => ∃ (a : Addr) (ys : List V) (y : V), x = .ref a ∧ xs = [y] ∧ SqL K H a ys ∧ flatV y = true ∧ ys.all flatV = true ∧ Q (.int (ys.countP (fun z => eqV z y) : Nat)) H
theorem count_eqU {y : V} : ∀ {ys : List V} {us : List Value}, Vals ys us → ys.all flatV = true → us.countP (eqU y) = ys.countP fun z => eqV z y
  | _, _, .nil, _ => rfl
  | z :: ys, u :: us, .cons r t, f => by
    rw [List.all_cons, Bool.and_eq_true] at f
    rw [List.countP_cons, List.countP_cons, count_eqU t f.2, eqU_of r f.1]
theorem mt_countV {X : Cx} : MtR X "list.count" (rCountV X.K) := by
  intro pins s σ H x xs v us Q I rx rxs h
  obtain ⟨a, ys, y, rfl, rfl, hs, fy, fys, q⟩ := h
  cases rx
  obtain ⟨u, rfl, ru⟩ := rxs.one
  obtain ⟨its, rv, ⟨⟨cls, dd, data, slots⟩, n, ho, hc, _, hd⟩, _⟩ := I.list hs
  dsimp only at hc hd
  subst hc hd
  have ec : its.toArray.toList.countP (eqU y) = ys.countP fun z => eqV z y := count_eqU rv fys
  refine call_meets PySem.F.slot_list_count ⟨_, ho, rfl⟩ PySem.F.entry_list_count (PySem.F.args_list_count_2 _ _)
    (SeqAt.list_countAt a its.toArray n dd slots u (eqU y)) ⟨ho, fun w hw => mem_eqAt ru fy rv fys w (by simpa using hw), ?_⟩
  refine ⟨.int (ys.countP (fun z => eqV z y) : Nat), H, I.tok _, ⟨s.toks, ?_⟩, q⟩
  rw [← ec]
/-! ### a method called where what it lets out is wished by the slots -/
def tMethT (C : Addr) (m : Str) (sp : Sp) (E : L2.St → XK) (ta : TE) (t : TA) : TE := fun σ H Q => ta σ H fun x H1 => ∃ a dx fs, x = .ref a ∧ H1 a = some (.ins C dx fs) ∧ fs.lookup m = none ∧ t σ H1 fun vs H2 => sp (x :: vs) H2 Q (E σ)
theorem pe_methT {X : Cx} {CX : CXT} {k : Nat} {C f : Addr} {fd : FuncData} {ps : List Str} {sp : Sp} {E : L2.St → XK} {m : Str} {pos apos : Pos} {o e : Expr} {es : List Expr} {ta : TE} {t : TA} {pl : Sem Bool}
    (ho : PE X o ta) (c : Cls X.K C) (hm : Meth X.K C m f) (F : FnOk X.prog X.w X.K X.mg X.base CX k f fd ps sp) (hr : Room k X.A) (hb : Binds X.K fd ps []) (hx : ∀ σ, PassesAt CX X σ (E σ)) (ha : PA X (e :: es) t)
    (h1 : starEach (e :: es) X.env = (false, eval e X.env) :: starEach es X.env := by rfl) (h2 : (backTo pos (starEach es X.env)).any (·.1) = false := by rfl)
    (h3 : eval (.Call (.Attribute o m apos) (e :: es) [] pos) X.env = (do
      let ov ← eval o X.env
      standAt apos.atName
      let (f, first) ← holding [ov] (getMethod ov m pl)
      callWith pos f first (backTo pos (starEach (e :: es) X.env)) (backToKw pos (keywordEach [] X.env))) := by rfl) :
    PE X (.Call (.Attribute o m apos) (e :: es) [] pos) (tMethT C m sp E ta t) := by
  constructor
  intro pins s σ H Q I h
  refine PySem.W.methodCall_KW (pl := pl) (thn (ho.run pins s σ H _ I h) fun u s1 hu => ?_) h3
  obtain ⟨x, H1, I1, rx, a, dx, fs, ex, ea, l, q⟩ := hu
  subst ex
  obtain rfl : u = Value.ref a := rx
  refine getmeth_ok I1 ea c hm l ?_
  refine PySem.W.callWith_K (h₀ := X.base) (first := [.ref a]) I.ok.mod.kin hm.kp (thn (ha.run pos pins s1 σ H1 _ I1 q) fun us s2 hv => ?_) h1 h2
  obtain ⟨vs, H2, I2, r, q2⟩ := hv
  exact ⟨I2.kIn, run_fnS (us := .ref a :: us) (vs := .ref a :: vs) F hr hb (hx σ) I2 (.cons rfl r) q2⟩
/-! ### a def called in a suite, of the error that is handled -/
structure FnP (P : Program) (w : World) (K : PySem.W.Frag) (mg : Str → Option Value) (base : Heap) (CX : CXT) (k : Nat) (f : Addr) (fd : FuncData) (ps : List Str) (sp : Addr → Value → Option Addr → Sp) : Prop where
  len : ∀ a cls d vs H Q E, sp a cls d vs H Q E → vs.length = ps.length
  run : ∀ (A : Around) (outer : List Env) (s : Shared) (H : Hp) (args : Args) (us : List Value) (vs : List V) (Q : VK) (E : XK) (p : Addr × Obj) (cls : Value) (d : Option Addr), L2H.RoomH k A → L2H.Hot1 A p → Zc cls d p.2 → (∃ fs, p.2.data = .fields fs) → L2H.PinOk outer H s p → Env0 P w K mg base A outer s H →
    BindsTo s fd args (ps.zip us) → Vals vs us → sp p.1 cls d vs H Q E → codeAny (model P w) A (.call (.ref f) args) (CR CX outer P w H s Q E) s
section
variable {P : Program} {w : World} {K : PySem.W.Frag} {mg : Str → Option Value} {base : Heap} {CX : CXT} {name qual : Str} {params : Arguments} {body : List Stmt} {scope : Scope} {f : Addr} {fd : FuncData} {N ps : List Str} {k : Nat} {sp : Addr → Value → Option Addr → Sp}
theorem FunD.okP (F : FunD K name qual params body scope [] [] f fd) (S : FnScope N ps scope) (len : ∀ a cls d vs H Q E, sp a cls d vs H Q E → vs.length = ps.length)
    (hbody : ∀ (cdv : Value) (A : Around) (outer : List Env) (s : Shared) (H : Hp) (vs : List V) (Q : VK) (E : XK) (p : Addr × Obj) (cls : Value) (d : Option Addr), L2H.Hot1 A p → L2H.RoomH k (A.deeper (envOfC qual scope s.heap.objs.size f cdv)) → Zc cls d p.2 → (∃ fs, p.2.data = .fields fs) → sp p.1 cls d vs H Q E →
      ∃ t, PSs (L2H.cxH CX P w K mg base N qual scope f cdv A outer s H E p) body t ∧ t { nx := fun _ H' => Q .non H', rt := Q } (L2.start N vs) H) : FnP P w K mg base CX (k + 1) f fd ps sp := by
  obtain ⟨oc, od, dV, kV, doc, pm, an, cdv, ct, slots, rfl, look, code, _, _⟩ := F.ex
  refine ⟨len, ?_⟩
  intro A outer s H args us vs Q E p cls d room hot hz hf pin env0 binds vals hsp
  have long := len _ _ _ _ _ _ _ hsp
  have grown : ∀ b o, base.get? b = some o → s.heap.get? b = some o := fun b o e => (env0.bs b o e).1
  have KX := env0.mod.kin.keeps grown
  refine codeAny_call_function room.depth (KX _ _ look) rfl S.co S.gen rfl (PySem.W.codeRec_of KX code)
    (binds _ _ _ _ (wpAny_newFunctionEnv_cells S.kind (fun yv hy => ?_) fun env he s1 x => ?_))
  · obtain ⟨y, v⟩ := yv
    rcases S.par y (List.of_mem_zip hy).1 with z | z
    · exact .inl z
    · exact .inr ⟨z, PySem.W.cellsFrom_some _ _ _ (.inl z)⟩
  · subst he
    refine ⟨(env0.mod.nolimit.keeps grown).keeps x.toInCall.keep, codeAny_func ?_⟩
    obtain ⟨t, ht, hq⟩ := hbody cdv A outer s H vs Q E p cls d hot (room.deeper _) hz hf hsp
    have I := L2H.inv_startH (CX := CX) (E := E) S pin env0 long vals x
    refine wpAny_mono (ht.run [] s1 (L2.start N vs) H _ I hq) (fun way s' goes => ?_) fun _ _ z => z
    have done : ∀ {σ' : L2.St} {H' : Hp} {v : V} {u : Value}, Inv (L2H.cxH CX P w K mg base N qual scope f cdv A outer s H E p) [] σ' H' s' → RelV v u → Q v H' → CE outer P w H s Q u s' :=
      fun {σ' H' v u} J r q => ⟨v, H', J.os, J.bare, J.base, J.hok, r, q⟩
    match way, goes with
    | .ret u, ⟨v, _, _, J, r, q⟩ => exact done J r q
    | .next, ⟨_, _, J, q⟩ => exact done (v := V.non) (u := Value.none) J rfl q
    | .brk, ⟨_, _, _, q⟩ => exact q.elim
    | .cont, ⟨_, _, _, q⟩ => exact q.elim
end
def tCallP (sp : Addr → Value → Option Addr → Sp) (a : Addr) (cls : Value) (d : Option Addr) (t : TA) : TE := fun σ H Q => t σ H fun vs H1 => sp a cls d vs H1 Q (fun _ _ _ => False)
theorem pe_callP {X : Cx} {k : Nat} {f : Addr} {fd : FuncData} {ps : List Str} {sp : Addr → Value → Option Addr → Sp} {x : Str} {q pos : Pos} {e : Expr} {es : List Expr} {t : TA} {p : Addr × Obj} {cls : Value} {d : Option Addr}
    (F : FnP X.prog X.w X.K X.mg X.base CX0 k f fd ps sp) (hr : L2H.RoomH k X.A) (hot : L2H.Hot1 X.A p) (hp : p ∈ X.pn) (hz : Zc cls d p.2) (hf : ∃ fs, p.2.data = .fields fs) (hg : Gl X x) (hm : X.mg x = some (.ref f)) (hk : PySem.W.keepIn X.K (.ref f) = true) (hb : Binds X.K fd ps []) (ha : PA X (e :: es) t)
    (h0 : (x == ("__debug__" : Str)) = false := by decide) (h1 : starEach (e :: es) X.env = (false, eval e X.env) :: starEach es X.env := by rfl) (h2 : (backTo pos (starEach es X.env)).any (·.1) = false := by rfl) :
    PE X (.Call (.Name x q) (e :: es) [] pos) (tCallP sp p.1 cls d t) := by
  constructor
  intro pins s σ H Q I h
  refine wpAny_Call_Name_kw (ld_glob I hg hm ?_ h0)
  refine PySem.W.callWith_K (h₀ := X.base) I.ok.mod.kin hk (thn (ha.run pos pins s σ H _ I h) fun us s1 hv => ?_) h1 h2
  obtain ⟨vs, H1, I1, r, h⟩ := hv
  refine ⟨I1.kIn, ?_⟩
  have long : us.length = ps.length := by
    rw [← r.length]
    exact F.len _ _ _ _ _ _ _ h
  have b := hb s1 us I1.kIn (by rw [List.append_nil]; exact long)
  rw [List.append_nil] at b
  have Z := I1.pin p (List.mem_append_left _ hp)
  have pin : L2H.PinOk X.stack H1 s1 p := ⟨Z.1, Z.2.1, fun hm => (List.mem_cons.mp (I1.stkSub p.1 hm)).elim Z.2.2.1 Z.2.2.2.1, Z.2.2.2.2⟩
  refine wpAny_call (codeAny_mono (F.run X.A X.stack s1 H1 ⟨us, []⟩ us vs Q (fun _ _ _ => False) p cls d hr hot hz hf pin I1.env0 b r h) fun way s' goes => ?_)
  match way, goes with
  | .error e, z => exact z.elim
  | .ok (.ret u), z => exact I1.after z
  | .ok .next, z => exact z.elim
  | .ok .brk, z => exact z.elim
  | .ok .cont, z => exact z.elim
theorem dep1 {k : Nat} {A : Around} (r : Room k A) : A.depth + 1 < recursionLimit := by
  have := r.dp
  omega
end CK

/-! What refuses: check_page, ask; the law's look at an error's class. -/
namespace CK
open PySem PySem.Spec PyProof.Rows L2 CKX
/-- a page, or BadRow with place 0 -/
def spCheckPageX (C : Addr) : Sp := fun vs H Q E => ∃ p : Int, vs = [.int p] ∧ (0 ≤ p → p < 12 → Q .non H) ∧ (¬ (0 ≤ p ∧ p < 12) → ∀ d, H d = none → E (.ref C) (some d) (upd H d (xdP 0)))
/-- an ask, or, of what is no page, BadRow with place 0 and nothing changed -/
def spAskX (R C : Addr) : Sp := fun vs H Q E => ∃ (p a b : Addr) (s : DS) (n : Nat) (pg : Int), vs = [.ref p, .int pg] ∧ DialIs C H p a b s ∧ s.WF n ∧ n ≤ 8 ∧
  (¬ (0 ≤ pg ∧ pg < 12) → ∀ d, H d = none → E (.ref R) (some d) (upd H d (xdP 0))) ∧
  (0 ≤ pg → pg < 12 → ∀ (t l : Addr) (H' : Hp), H t = none → H l = none → t ≠ l → H' t = some (.tup [.bl (s.tells pg).1, pgV (s.tells pg).2.1, .ref l]) → H' l = some (.lst (NL (s.tells pg).2.2)) → DialIs C H' p a b (s.ask pg) → But [p, a, b] H H' → Q (.ref t) H')
/-- the word of the class number i -/
def wordE (i : Nat) : Str := if i = 0 then "BadRooms" else if i = 1 then "BadRow" else if i = 2 then "BadRule" else "TooMany"
def spClass (pe c0 c1 c2 c3 : Addr) (K : PySem.W.Frag) (a : Addr) (cls : Value) (d : Option Addr) : Sp := fun vs H Q _ => ∃ (D : Addr) (i : Nat), vs = [.ref a] ∧ cls = .ref D ∧ IsErr K pe c0 c1 c2 c3 D i ∧ i < 4 ∧ DictOk H d ∧
  ∀ H', Same H H' → Q (.str (wordE i)) H'
section
variable {P : Program} {w : World} {K : PySem.W.Frag} {mg : Str → Option Value} {base : Heap}
theorem ok_check_pageX (T : Prog K mg) (Z : Errs P K mg) : FnOk P w K mg base (L2N.CX P w) 2 T.check_page.f T.check_page.fd ["page"] (spCheckPageX Z.row) := by
  have G_is_page := ok_is_page (P := P) (w := w) (base := base) T
  refine T.check_page.fn.ok sc_check_page (fun vs H Q E h => ?len) (fun cdv A outer s H vs Q E hr h => ?body)
  case len =>
    obtain ⟨n, rfl, _⟩ := h
    rfl
  case body =>
    have hr_is_page : Room 1 _ := hr.mono (by decide)
    have hu := hu_of hr
    obtain ⟨p, rfl, kp, ke⟩ := h
    refine ⟨_, (pss_one (ps_if (pt_not (pt_val (pe_call G_is_page hr_is_page (by rfl) T.is_page.g T.is_page.fn.kp T.is_page.bd .nil pass0 (pa_cons (pv 0) pa_nil))))
        (pss_one (L2N.ps_raise rfl (L2N.takes_of rfl rfl rfl rfl) (pmk_br Z.br (dep1 hr) (pa_cons pe_int pa_nil))))
        pss_nil)), ?_⟩
    refine ⟨_, rfl, p, rfl, _, rfl, ?_⟩
    by_cases hp : 0 ≤ p ∧ p < 12
    · exact ifF (by rw [decide_eq_true hp]; rfl) (kp hp.1 hp.2)
    · exact ifT (by rw [decide_eq_false hp]; rfl) ⟨0, rfl, by decide, fun d hd => ke hp d hd⟩
theorem ok_Dial_askX (T : Prog K mg) (Z : Errs P K mg) : FnOk P w K mg base (L2N.CX P w) 3 T.Dial.ask.f T.Dial.ask.fd ["self", "page"] (spAskX Z.row T.Dial.C) := by
  have G_check_page := ok_check_pageX (P := P) (w := w) (base := base) T Z
  have G_pass_marked := ok_Dial_pass_marked (P := P) (w := w) (base := base) T
  have G_exchange := ok_Dial_exchange (P := P) (w := w) (base := base) T
  refine T.Dial.ask.fn.ok sc_Dial_ask (fun vs H Q E h => ?len) (fun cdv A outer s H vs Q E hr h => ?body)
  case len =>
    obtain ⟨p, a, b, s, n, pg, rfl, _⟩ := h
    rfl
  case body =>
    have hr_check_page : Room 2 _ := hr.mono (by decide)
    have hr_pass_marked : Room 2 _ := hr.mono (by decide)
    have hr_exchange : Room 2 _ := hr.mono (by decide)
    have hu := hu_of hr
    obtain ⟨p, a, b, s, n, pg, rfl, D, W, n8, ke, k⟩ := h
    refine ⟨_, (pss_cons (ps_expr (pe_call G_check_page hr_check_page (by rfl) T.check_page.g T.check_page.fn.kp T.check_page.bd .nil (L2N.passes_call (W := fun cls d _ H => E cls d H) (E := E) (L2N.takes_of rfl rfl rfl rfl) (fun _ _ _ _ h => h)) (pa_cons (pv 1) pa_nil)))
        (pss_cons (ps_if (pt_cmpR op_in_seq (pv 1) (pe_fld (pv 0) rfl) (by rfl))
        (pss_cons (ps_asg pe_bl (pg_sub (pe_fld (pv 0) rfl) (pe_bm PySem.F.plainAttrs_list PySem.F.slot_list_index PySem.F.type_list_index mt_index (pe_fld (pv 0) rfl) (pa_cons (pv 1) pa_nil)) set_list))
        (pss_one (ps_ret (pe_tup (pa_cons pe_bl (pa_cons pe_non (pa_cons (pe_lst pa_nil) pa_nil)))))))
        pss_nil)
        (pss_cons (ps_fldaug (pv 0) pe_int in_add)
        (pss_cons (ps_set (i := 2) sc_Dial_ask.nd rfl (Or.inl rfl) (pe_meth0 (pv 0) T.Dial.cl T.Dial.pass_marked.me G_pass_marked hr_pass_marked T.Dial.pass_marked.bd .nil pass0))
        (pss_cons (ps_set (i := 3) sc_Dial_ask.nd rfl (Or.inl rfl) (pe_meth (pv 0) T.Dial.cl T.Dial.exchange.me G_exchange hr_exchange T.Dial.exchange.bd .nil pass0 (pa_cons (pv 1) pa_nil)))
        (pss_one (ps_ret (pe_tup (pa_cons pe_bl (pa_cons (pv 3) (pa_cons (pv 2) pa_nil))))))))))), ?_⟩
    obtain ⟨dx, hp⟩ := D.ob
    have pb := D.pb
    have pa := D.pa
    refine ⟨_, rfl, pg, rfl, fun g0 g1 => ?_, ke⟩
    have k := k g0 g1
    -- if page in self._held
    refine ⟨_, rfl, _, rfl, p, _, dx, _, _, rfl, hp, T.Dial.cl, T.Dial.n_held, rfl, a, _, rfl, .inl (SqL.of D.he), rfl, flat_hl _, _, rfl, ?_⟩
    have e0 : (if false = true then !inV (V.int pg) (HL s.held) else inV (V.int pg) (HL s.held)) = decide (some pg ∈ s.held) := by
      rw [if_neg (by simp), inV_hl]
    by_cases hin : some pg ∈ s.held
    · refine ifT (by rw [e0]; exact decide_eq_true hin) ?_
      have eT : s.tells pg = (false, none, []) := by unfold DS.tells; rw [if_pos hin]
      have eA : s.ask pg = s.hit pg := by unfold DS.ask; rw [if_pos hin]
      rw [eT, eA] at k
      have hj : s.held.idxOf (some pg) < n := by rw [← W.h]; exact List.idxOf_lt_length_of_mem hin
      -- self._marks[self._held.index(page)] = True
      refine ⟨_, rfl, p, _, dx, _, _, rfl, hp, T.Dial.cl, T.Dial.n_marks, rfl, _, rfl, p, _, dx, _, _, rfl, hp, T.Dial.cl, T.Dial.n_held, rfl, .inl ⟨rfl, _, SqL.of D.he⟩, _, rfl, a, _, _, s.held.idxOf (some pg), _, rfl, rfl, SqL.of D.he, rfl, flat_hl _, hl_at (idx_at hin), ?_, ?_, ?_⟩
      · rw [eqV_pg]; exact decide_eq_true rfl
      · intro m z' hm hz
        rw [List.getElem?_map] at hz
        cases q : s.held[m]? with
        | none => rw [q] at hz; cases hz
        | some y =>
          rw [q] at hz
          have ez : pgV y = z' := Option.some.inj hz
          rw [← ez, eqV_pg]
          exact decide_eq_false (idx_no hm q)
      refine ⟨b, _, _, _, rfl, rfl, D.ma, ixn rfl (by simp [W.m]; exact hj), ?_⟩
      rw [bl_set]
      -- return False, None, []
      refine ⟨szd rfl, fun l hl => ⟨szd rfl, fun t ht => ?_⟩⟩
      have s1 : But [p, a, b] H (upd H b (.lst (BL (s.marks.set (s.held.idxOf (some pg)) true)))) := But.put (by simp)
      have lb : l ≠ b := by intro z; rw [z, upd_same] at hl; cases hl
      have tb : t ≠ b := by intro z; rw [z, upd_ne (Ne.symm lb), upd_same] at ht; cases ht
      have tl : t ≠ l := by intro z; rw [z, upd_same] at ht; cases ht
      have hl' : H l = none := by rw [upd_ne lb] at hl; exact hl
      have ht' : H t = none := by rw [upd_ne tl, upd_ne tb] at ht; exact ht
      have hit : DialIs T.Dial.C (upd H b (.lst (BL (s.marks.set (s.held.idxOf (some pg)) true)))) p a b (s.hit pg) :=
        ⟨D.ne, ⟨dx, by rw [upd_ne pb]; exact hp⟩, by rw [upd_ne D.ne]; exact D.he, upd_same⟩
      exact k t l _ ht' hl' tl upd_same (by rw [upd_ne (Ne.symm tl)]; exact upd_same) ((hit.same (Same.new hl)).same (Same.new ht)) ((s1.trans (But.new hl)).trans (But.new ht))
    · refine ifF (by rw [e0]; exact decide_eq_false hin) ?_
      have eT : s.tells pg = (true, (s.held[s.pass.2.1]?).getD none, s.pass.2.2) := by unfold DS.tells; rw [if_neg hin]
      have eA : s.ask pg = s.lack pg := by unfold DS.ask; rw [if_neg hin]
      rw [eT, eA] at k
      -- self._lacks += 1
      refine ⟨_, rfl, p, _, dx, _, _, rfl, hp, T.Dial.cl, T.Dial.n_lacks, rfl, _, _, rfl, rfl, dx, _, hp, by show 4 < 1000; decide, ?_⟩
      have D1 : DialIs T.Dial.C (upd H p (.ins T.Dial.C dx (putF "_lacks" (V.int ((s.lacks : Int) + 1)) (flD a b s.hand s.lacks)))) p a b { s with lacks := s.lacks + 1 } :=
        ⟨D.ne, ⟨dx, by rw [upd_same]; rfl⟩, by rw [upd_ne (Ne.symm pa)]; exact D.he, by rw [upd_ne (Ne.symm pb)]; exact D.ma⟩
      have k1 : But [p, a, b] H (upd H p (.ins T.Dial.C dx (putF "_lacks" (V.int ((s.lacks : Int) + 1)) (flD a b s.hand s.lacks)))) := But.put (by simp)
      have W1 : DS.WF { s with lacks := s.lacks + 1 } n := ⟨W.h, W.m, W.n⟩
      -- passed = self._pass_marked()
      obtain ⟨dx1, hp1⟩ := D1.ob
      refine ⟨_, rfl, p, dx1, _, rfl, hp1, rfl, p, a, b, _, n, rfl, D1, W1, n8, fun l H2 hl hl2 D2 k2 => ?_⟩
      have hlH : H l = none := k1.back hl (by
        obtain ⟨_, q⟩ := D1.ob
        have z1 := ne_fresh q hl
        have z2 := ne_fresh D1.he hl
        have z3 := ne_fresh D1.ma hl
        simp [Ne.symm z1, Ne.symm z2, Ne.symm z3])
      -- gone = self._exchange(page)
      obtain ⟨dx2, hp2⟩ := D2.ob
      have W2 : DS.WF { s with lacks := s.lacks + 1, marks := s.pass.1, hand := s.pass.2.1 } n := ⟨W.h, W.passm, W.passlt⟩
      refine ⟨_, rfl, p, dx2, _, rfl, hp2, rfl, _, rfl, p, a, b, _, n, pg, rfl, D2, W2, fun H3 D3 k3 => ?_⟩
      have lS : l ∉ [p, a, b] := by
        have z1 := ne_fresh hp hlH
        have z2 := ne_fresh D.he hlH
        have z3 := ne_fresh D.ma hlH
        simp [Ne.symm z1, Ne.symm z2, Ne.symm z3]
      have hl3 : H3 l = some (.lst (NL s.pass.2.2)) := k3 l _ hl2 lS
      have k03 : But [p, a, b] H H3 := (k1.trans (k2.mono (by simp))).trans k3
      -- return True, gone, passed
      refine ⟨_, rfl, _, rfl, szd rfl, fun t ht => ?_⟩
      have tl : t ≠ l := Ne.symm (ne_fresh hl3 ht)
      have htH : H t = none := k03.back ht (by
        obtain ⟨_, q⟩ := D3.ob
        have z1 := ne_fresh q ht
        have z2 := ne_fresh D3.he ht
        have z3 := ne_fresh D3.ma ht
        simp [Ne.symm z1, Ne.symm z2, Ne.symm z3])
      exact k t l _ htH hlH tl upd_same (by rw [upd_ne (Ne.symm tl)]; exact hl3) (D3.same (Same.new ht)) (k03.trans (But.new ht))
theorem sc_law_class : FnScope ["_law_e", "_law_kinds", "_law_words"] ["_law_e"] (defScope (top 21)) := ⟨rfl, rfl, rfl, by decide +kernel, rfl, by decide +kernel, by decide +kernel⟩
theorem ok_law_class (T : Prog K mg) (Z : Errs P K mg) : FnP P w K mg base CX0 1 T.law_class.f T.law_class.fd ["_law_e"] (spClass Z.pe Z.rooms Z.row Z.rule Z.many K) := by
  refine FunD.okP T.law_class.fn sc_law_class (fun a cls d vs H Q E h => ?len) (fun cdv A outer s H vs Q E p cls d hot hr hz hf h => ?body)
  case len =>
    obtain ⟨D, i, rfl, _⟩ := h
    rfl
  case body =>
    obtain ⟨D, i, rfl, rfl, ie, i4, hd, k⟩ := h
    refine ⟨_, (pss_cons (ps_set (i := 1) sc_law_class.nd rfl (Or.inl rfl) (pe_lst (pa_cons (pe_callB (call_isX ie.ec (p := p) (by exact List.mem_cons_self) hz hf) (by rfl) T.isinstance (by decide +kernel) (pa_cons (pv 0) (pa_cons (pe_glob (v := L2.V.ref Z.rooms) (by rfl) Z.gRooms rfl) pa_nil))) (pa_cons (pe_callB (call_isX ie.ec (p := p) (by exact List.mem_cons_self) hz hf) (by rfl) T.isinstance (by decide +kernel) (pa_cons (pv 0) (pa_cons (pe_glob (v := L2.V.ref Z.row) (by rfl) Z.br.gC rfl) pa_nil))) (pa_cons (pe_callB (call_isX ie.ec (p := p) (by exact List.mem_cons_self) hz hf) (by rfl) T.isinstance (by decide +kernel) (pa_cons (pv 0) (pa_cons (pe_glob (v := L2.V.ref Z.rule) (by rfl) Z.gRule rfl) pa_nil))) (pa_cons (pe_callB (call_isX ie.ec (p := p) (by exact List.mem_cons_self) hz hf) (by rfl) T.isinstance (by decide +kernel) (pa_cons (pv 0) (pa_cons (pe_glob (v := L2.V.ref Z.many) (by rfl) Z.gMany rfl) pa_nil))) pa_nil))))))
        (pss_cons (ps_set (i := 2) sc_law_class.nd rfl (Or.inl rfl) (pe_lst (pa_cons pe_str (pa_cons pe_str (pa_cons pe_str (pa_cons pe_str pa_nil))))))
        (pss_one (ps_ret (pe_ifExp (PW.pt (pw_and (pt_cmpR op_eq (pe_bm PySem.F.plainAttrs_list PySem.F.slot_list_count PySem.F.type_list_count mt_countV (pv 1) (pa_cons pe_bl pa_nil)) pe_int (nomark _)) (pw_and1 (pt_val (pe_callB (call_isX ie.ec (p := p) (by exact List.mem_cons_self) hz hf) (by rfl) T.isinstance (by decide +kernel) (pa_cons (pv 0) (pa_cons (pe_bltn (v := L2.V.ty "ValueError") (by rfl) Z.vE (by decide +kernel) rfl) pa_nil))))))) (pe_ix ix_list (pv 2) (pe_bm PySem.F.plainAttrs_list PySem.F.slot_list_index PySem.F.type_list_index mt_index (pv 1) (pa_cons pe_bl pa_nil)) (fun _ _ => rfl)) pe_str))))), ?_⟩
    refine ⟨_, rfl, _, _, _, rfl, rel_ref, ie.k0, hd, ?_⟩
    refine ⟨_, rfl, _, _, _, rfl, rel_ref, ie.k1, hd, ?_⟩
    refine ⟨_, rfl, _, _, _, rfl, rel_ref, ie.k2, hd, ?_⟩
    refine ⟨_, rfl, _, _, _, rfl, rel_ref, ie.k3, hd, ?_⟩
    refine ⟨szd rfl, fun l hl => ?_⟩
    refine ⟨szd rfl, fun l2 hl2 => ?_⟩
    have s1 : Same H (upd H l (.lst [.bl (decide (i = 0)), .bl (decide (i = 1)), .bl (decide (i = 2)), .bl (decide (i = 3))])) := Same.new hl
    have e1 := Same.new (o := .lst [.str "BadRooms", .str "BadRow", .str "BadRule", .str "TooMany"]) hl2 l _ upd_same
    have s2 := s1.trans (Same.new (o := .lst [.str "BadRooms", .str "BadRow", .str "BadRule", .str "TooMany"]) hl2)
    have hw : ∀ v, wordE i = v → Q (V.str v) (upd (upd H l (.lst [.bl (decide (i = 0)), .bl (decide (i = 1)), .bl (decide (i = 2)), .bl (decide (i = 3))])) l2 (.lst [.str "BadRooms", .str "BadRow", .str "BadRule", .str "TooMany"])) := fun v e => by
      rw [← e]
      exact k _ s2
    refine ⟨_, rfl, .inl ⟨rfl, _, SqL.of e1⟩, l, _, _, rfl, rfl, SqL.of e1, rfl, rfl, rfl, _, rfl, ?_⟩
    have four : i = 0 ∨ i = 1 ∨ i = 2 ∨ i = 3 := by omega
    rcases four with rfl | rfl | rfl | rfl
    all_goals refine ifT (by rfl) ⟨_, rfl, _, _, _, rfl, rel_ty, ie.kv, hd.same s2, ?_⟩
    · refine ⟨_, rfl, ?_⟩
      refine ⟨_, rfl, _, rfl, .inl ⟨rfl, _, SqL.of e1⟩, l, _, _, 0, _, rfl, rfl, SqL.of e1, rfl, rfl, rfl, rfl, (fun m z hm _ => by omega), ?_⟩
      exact ⟨l2, _, _, _, rfl, rfl, SqL.of upd_same, rfl, hw _ rfl⟩
    · refine ⟨_, rfl, ?_⟩
      refine ⟨_, rfl, _, rfl, .inl ⟨rfl, _, SqL.of e1⟩, l, _, _, 1, _, rfl, rfl, SqL.of e1, rfl, rfl, rfl, rfl, (fun m z hm hz => by
        rcases (by omega : m = 0) with rfl
        all_goals
          cases hz
          rfl), ?_⟩
      exact ⟨l2, _, _, _, rfl, rfl, SqL.of upd_same, rfl, hw _ rfl⟩
    · refine ⟨_, rfl, ?_⟩
      refine ⟨_, rfl, _, rfl, .inl ⟨rfl, _, SqL.of e1⟩, l, _, _, 2, _, rfl, rfl, SqL.of e1, rfl, rfl, rfl, rfl, (fun m z hm hz => by
        rcases (by omega : m = 0 ∨ m = 1) with rfl | rfl
        all_goals
          cases hz
          rfl), ?_⟩
      exact ⟨l2, _, _, _, rfl, rfl, SqL.of upd_same, rfl, hw _ rfl⟩
    · refine ⟨_, rfl, ?_⟩
      refine ⟨_, rfl, _, rfl, .inl ⟨rfl, _, SqL.of e1⟩, l, _, _, 3, _, rfl, rfl, SqL.of e1, rfl, rfl, rfl, rfl, (fun m z hm hz => by
        rcases (by omega : m = 0 ∨ m = 1 ∨ m = 2) with rfl | rfl | rfl
        all_goals
          cases hz
          rfl), ?_⟩
      exact ⟨l2, _, _, _, rfl, rfl, SqL.of upd_same, rfl, hw _ rfl⟩
end
end CK

/-! The law's asking: what ask tells, or the refusal's class and place. -/
namespace CK
open PySem PySem.Spec PyProof.Rows L2 CKX
def spTold2 (C : Addr) : Sp := fun vs H Q _ => ∃ (p a b : Addr) (s : DS) (n : Nat) (pg : Int), vs = [.ref p, .int pg] ∧ DialIs C H p a b s ∧ s.WF n ∧ n ≤ 8 ∧
  (¬ (0 ≤ pg ∧ pg < 12) → ∀ (t : Addr) (H' : Hp), H t = none → H' t = some (.tup [.str "BadRow", .int 0]) → Same H H' → Q (.ref t) H') ∧
  (0 ≤ pg → pg < 12 → ∀ (t l : Addr) (H' : Hp), H t = none → H l = none → t ≠ l → H' t = some (.tup [.bl (s.tells pg).1, pgV (s.tells pg).2.1, .ref l]) → H' l = some (.lst (NL (s.tells pg).2.2)) → DialIs C H' p a b (s.ask pg) → But [p, a, b] H H' → Q (.ref t) H')
theorem takesN {X : Cx} : L2N.Takes X (fun _ _ _ _ => False) := fun _ _ x => by
  obtain ⟨_, _, _, _, _, _, _, _, _, _, _, _, _, _, _, _, z⟩ := x
  exact z.elim
theorem roomM {k : Nat} {A : Around} {v : Option Value} (r : Room k A) : L2H.RoomH k (A.mark v) := ⟨r.dp, r.un⟩
theorem hotM {A : Around} {a : Addr} {oe : Obj} {cls : Value} {d : Option Addr} (hz : L2N.Zn cls d oe) (hf : ∃ vs, oe.data = .fields vs) : L2H.Hot1 (A.mark (some (.ref a))) (a, oe) := by
  obtain ⟨vs, e⟩ := hf
  exact ⟨rfl, vs, e, hz.2.2 vs e⟩
section
variable {P : Program} {w : World} {K : PySem.W.Frag} {mg : Str → Option Value} {base : Heap}
theorem sc_law_told : FnScope ["_law_dial_here", "_law_page", "_law_e", "_law_word"] ["_law_dial_here", "_law_page"] (defScope (top 25)) := ⟨rfl, rfl, rfl, by decide +kernel, rfl, by decide +kernel, by decide +kernel⟩
theorem ok_law_told (T : Prog K mg) (Z : Errs P K mg) : FnOk P w K mg base CX0 4 T.law_told.f T.law_told.fd ["_law_dial_here", "_law_page"] (spTold2 T.Dial.C) := by
  have G_ask := ok_Dial_askX (P := P) (w := w) (base := base) T Z
  have G_law_class := ok_law_class (P := P) (w := w) (base := base) T Z
  refine T.law_told.fn.ok sc_law_told (fun vs H Q E h => ?len) (fun cdv A outer s H vs Q E hr h => ?body)
  case len =>
    obtain ⟨p, a, b, s, n, pg, rfl, _⟩ := h
    rfl
  case body =>
    have hr_ask : Room 3 _ := hr.mono (by decide)
    have hr_c : Room 1 _ := hr.mono (by decide)
    obtain ⟨p, a, b, s, n, pg, rfl, D, W, n8, kb, k⟩ := h
    refine ⟨_, PSs.nox (pss_one (L2N.ps_try_as (i := 2) (tb := fun W => tRet (tMethT T.Dial.C "ask" (spAskX Z.row T.Dial.C) (WE W) (tVar 0) (tCons (tVar 1) tNil)))
        (ts := fun a cls d => tSeq (tAsg (tCallP (spClass Z.pe Z.rooms Z.row Z.rule Z.many K) a cls d (tCons (tVar 2) tNil)) (gName 3)) (tRet (tIf (tTest (tOp rEq (tVar 3) (tC (.str "BadRow")))) (tTup (tCons (tVar 3) (tCons (tXf a cls d Z.row "place" (tVar 2)) tNil))) (tTup (tCons (tVar 3) (tCons (tC (.int 0)) tNil))))))
        (Wout := fun _ _ _ _ => False) rfl rfl sc_law_told.nd rfl rfl ⟨rfl, by decide, Or.inl Z.gPE⟩ takesN
        (fun W pn xe tk _ => pss_one (ps_ret (by exact (pe_methT (pv 0) T.Dial.cl T.Dial.ask.me G_ask hr_ask T.Dial.ask.bd (fun σ => L2N.passAt tk σ) (pa_cons (pv 1) pa_nil)))))
        (fun a oe cls d pn hz hf => pss_cons (ps_set (i := 3) sc_law_told.nd rfl (Or.inl rfl) (by exact (pe_callP (p := (a, oe)) (cls := cls) (d := d) G_law_class (roomM hr_c) (hotM hz hf) List.mem_cons_self hz.zc hf (by rfl) T.law_class.g T.law_class.fn.kp T.law_class.bd (pa_cons (pv 2) pa_nil))))
          (pss_one (ps_ret (pe_ifExp (pt_cmpR op_eq (pv 3) pe_str (nomark _)) (pe_tup (pa_cons (pv 3) (pa_cons (pe_xf Z.xf Z.br.noN hz.zc hf (pv 2)) pa_nil))) (pe_tup (pa_cons (pv 3) (pa_cons pe_int pa_nil))))))))), ?_⟩
    obtain ⟨dx, hp⟩ := D.ob
    refine ⟨_, rfl, p, dx, _, rfl, hp, rfl, _, rfl, p, a, b, s, n, pg, rfl, D, W, n8, fun bad d hd => ?_, k⟩
    refine ⟨true, Z.iRow.xm, fun _ e he => ?_, fun z => Bool.noConfusion z⟩
    have s0 : Same H (upd H d (xdP 0)) := Same.new hd
    refine ⟨_, rfl, Z.row, 1, rfl, rfl, Z.iRow, by decide, ⟨_, upd_same⟩, fun H1 s1 => ?_⟩
    refine ⟨_, rfl, rfl, _, rfl, ifT (by rfl) ?_⟩
    refine ⟨_, rfl, _, rfl, rfl, rfl, d, _, _, rfl, s1 _ _ upd_same, rfl, szd rfl, fun t ht => ?_⟩
    exact kb bad t _ (Same.back (s0.trans s1) ht) upd_same ((s0.trans s1).trans (Same.new ht))
end
end CK

/-! What the dial tells of itself; two tellings alike. -/
namespace CK
open PySem PySem.Spec PyProof.Rows L2 CKX
/-! ### pages, marks, tellings as data -/
def pdO : Option Int → PyData
  | none => .none
  | some p => .int p
section
variable {K : PySem.W.Frag} {H : Hp}
theorem dp_o (o : Option Int) : Dp K H (pgV o) (pdO o) := by
  cases o with
  | none => exact .non
  | some p => exact .int p
theorem dp_hl : ∀ l : List (Option Int), DpAll K H (HL l) (l.map pdO)
  | [] => .nil
  | o :: r => .cons (dp_o o) (dp_hl r)
theorem dp_bl : ∀ l : List Bool, DpAll K H (BL l) (l.map PyData.bool)
  | [] => .nil
  | b :: r => .cons (.bl b) (dp_bl r)
theorem dp_nl : ∀ l : List Nat, DpAll K H (NL l) (l.map fun n : Nat => PyData.int (n : Int))
  | [] => .nil
  | n :: r => .cons (.int n) (dp_nl r)
end
theorem dep_flat : ∀ {ds : List PyData}, (∀ d ∈ ds, d.depth = 0) → PyData.depthAll ds = 0
  | [], _ => rfl
  | d :: r, h => by
    show max d.depth (PyData.depthAll r) = 0
    rw [h d List.mem_cons_self, dep_flat fun x hx => h x (List.mem_cons_of_mem _ hx)]
    rfl
theorem dep_most {k : Nat} : ∀ {ds : List PyData}, (∀ d ∈ ds, d.depth ≤ k) → PyData.depthAll ds ≤ k
  | [], _ => Nat.zero_le _
  | d :: r, h => Nat.max_le.mpr ⟨h d List.mem_cons_self, dep_most fun x hx => h x (List.mem_cons_of_mem _ hx)⟩
theorem small_all : ∀ {ds : List PyData}, (∀ d ∈ ds, smallD d) → smallAll ds
  | [], _ => trivial
  | d :: r, h => ⟨h d List.mem_cons_self, small_all fun x hx => h x (List.mem_cons_of_mem _ hx)⟩
theorem dep_o (o : Option Int) : (pdO o).depth = 0 := by cases o <;> rfl
theorem small_o (o : Option Int) : smallD (pdO o) := by cases o <;> trivial
theorem dep_hl (l : List (Option Int)) : PyData.depthAll (l.map pdO) = 0 := dep_flat fun d hd => by
  obtain ⟨o, _, rfl⟩ := List.mem_map.mp hd
  exact dep_o o
theorem dep_bl (l : List Bool) : PyData.depthAll (l.map PyData.bool) = 0 := dep_flat fun d hd => by
  obtain ⟨o, _, rfl⟩ := List.mem_map.mp hd
  rfl
theorem dep_nl (l : List Nat) : PyData.depthAll (l.map fun n : Nat => PyData.int (n : Int)) = 0 := dep_flat fun d hd => by
  obtain ⟨o, _, rfl⟩ := List.mem_map.mp hd
  rfl
theorem small_hl (l : List (Option Int)) : smallAll (l.map pdO) := small_all fun d hd => by
  obtain ⟨o, _, rfl⟩ := List.mem_map.mp hd
  exact small_o o
theorem small_bl (l : List Bool) : smallAll (l.map PyData.bool) := small_all fun d hd => by
  obtain ⟨o, _, rfl⟩ := List.mem_map.mp hd
  trivial
theorem small_nl (l : List Nat) : smallAll (l.map fun n : Nat => PyData.int (n : Int)) := small_all fun d hd => by
  obtain ⟨o, _, rfl⟩ := List.mem_map.mp hd
  trivial
/-- one telling -/
def pdT (x : Bool × Option Int × List Nat) : PyData := .tuple [.bool x.1, pdO x.2.1, .list (x.2.2.map fun n : Nat => PyData.int (n : Int))]
theorem dep_t (x : Bool × Option Int × List Nat) : (pdT x).depth = 2 := by
  show max 0 (max (pdO x.2.1).depth (max (PyData.depthAll (x.2.2.map fun n : Nat => PyData.int (n : Int)) + 1) 0)) + 1 = 2
  rw [dep_o, dep_nl]
  rfl
theorem small_t {x : Bool × Option Int × List Nat} (h : x.2.2.length ≤ 1000) : smallD (pdT x) :=
  ⟨by show 3 ≤ 1000; decide, trivial, small_o _, ⟨by rw [List.length_map]; exact h, small_nl _⟩, trivial⟩
theorem dp_t {K : PySem.W.Frag} {H : Hp} {t l : Addr} {x : Bool × Option Int × List Nat} (ht : H t = some (.tup [.bl x.1, pgV x.2.1, .ref l])) (hl : H l = some (.lst (NL x.2.2))) : Dp K H (.ref t) (pdT x) :=
  .tup (SqT.of ht) (.cons (.bl _) (.cons (dp_o _) (.cons (.lst (SqL.of hl) (dp_nl _)) .nil)))
/-! ### the dial tells -/
def spPages (C : Addr) : Sp := fun vs H Q _ => ∃ (p a b : Addr) (s : DS), vs = [.ref p] ∧ DialIs C H p a b s ∧ ∀ l, H l = none → Q (.ref l) (upd H l (.lst (HL s.held)))
def spLooked (C : Addr) : Sp := fun vs H Q _ => ∃ (p a b : Addr) (s : DS), vs = [.ref p] ∧ DialIs C H p a b s ∧ ∀ l, H l = none → Q (.ref l) (upd H l (.lst (BL s.marks)))
def spPoints (C : Addr) : Sp := fun vs H Q _ => ∃ (p a b : Addr) (s : DS), vs = [.ref p] ∧ DialIs C H p a b s ∧ Q (.int s.hand) H
def spLacked (C : Addr) : Sp := fun vs H Q _ => ∃ (p a b : Addr) (s : DS), vs = [.ref p] ∧ DialIs C H p a b s ∧ Q (.int s.lacks) H
/-- the dial at p tells what the law's own dial at d tells -/
def spIs (C : Addr) : Sp := fun vs H Q _ => ∃ (p a b d e f : Addr) (s : DS) (n : Nat), vs = [.ref p, .ref d] ∧ DialIs C H p a b s ∧ LDial H d e f s ∧ s.WF n ∧ n ≤ 8 ∧ ∀ H', Same H H' → Q (.bl true) H'
section
variable {P : Program} {w : World} {K : PySem.W.Frag} {mg : Str → Option Value} {base : Heap}
theorem sc_Dial_pages : FnScope ["self"] ["self"] (defScope (inClass (top 15) 2)) := ⟨rfl, rfl, rfl, by decide +kernel, rfl, by decide +kernel, by decide +kernel⟩
theorem ok_Dial_pages (T : Prog K mg) : FnOk P w K mg base CX0 1 T.Dial.pages.f T.Dial.pages.fd ["self"] (spPages T.Dial.C) := by
  refine T.Dial.pages.fn.ok sc_Dial_pages (fun vs H Q E h => ?len) (fun cdv A outer s H vs Q E hr h => ?body)
  case len =>
    obtain ⟨p, a, b, s, rfl, _⟩ := h
    rfl
  case body =>
    have hu := hu_of hr
    obtain ⟨p, a, b, s, rfl, D, k⟩ := h
    refine ⟨_, PSs.nox (pss_one (ps_ret (pe_callTy call_list_of (by rfl) T.list_ (by decide +kernel) (pa_cons (pe_fld (pv 0) rfl) pa_nil)))), ?_⟩
    obtain ⟨dx, hp⟩ := D.ob
    exact ⟨_, rfl, p, _, dx, _, _, rfl, hp, T.Dial.cl, T.Dial.n_held, rfl, a, _, rfl, .inl (SqL.of D.he), k⟩
theorem sc_Dial_looked : FnScope ["self"] ["self"] (defScope (inClass (top 15) 3)) := ⟨rfl, rfl, rfl, by decide +kernel, rfl, by decide +kernel, by decide +kernel⟩
theorem ok_Dial_looked (T : Prog K mg) : FnOk P w K mg base CX0 1 T.Dial.looked.f T.Dial.looked.fd ["self"] (spLooked T.Dial.C) := by
  refine T.Dial.looked.fn.ok sc_Dial_looked (fun vs H Q E h => ?len) (fun cdv A outer s H vs Q E hr h => ?body)
  case len =>
    obtain ⟨p, a, b, s, rfl, _⟩ := h
    rfl
  case body =>
    have hu := hu_of hr
    obtain ⟨p, a, b, s, rfl, D, k⟩ := h
    refine ⟨_, PSs.nox (pss_one (ps_ret (pe_callTy call_list_of (by rfl) T.list_ (by decide +kernel) (pa_cons (pe_fld (pv 0) rfl) pa_nil)))), ?_⟩
    obtain ⟨dx, hp⟩ := D.ob
    exact ⟨_, rfl, p, _, dx, _, _, rfl, hp, T.Dial.cl, T.Dial.n_marks, rfl, b, _, rfl, .inl (SqL.of D.ma), k⟩
theorem sc_Dial_points : FnScope ["self"] ["self"] (defScope (inClass (top 15) 4)) := ⟨rfl, rfl, rfl, by decide +kernel, rfl, by decide +kernel, by decide +kernel⟩
theorem ok_Dial_points (T : Prog K mg) : FnOk P w K mg base CX0 1 T.Dial.points.f T.Dial.points.fd ["self"] (spPoints T.Dial.C) := by
  refine T.Dial.points.fn.ok sc_Dial_points (fun vs H Q E h => ?len) (fun cdv A outer s H vs Q E hr h => ?body)
  case len =>
    obtain ⟨p, a, b, s, rfl, _⟩ := h
    rfl
  case body =>
    have hu := hu_of hr
    obtain ⟨p, a, b, s, rfl, D, k⟩ := h
    refine ⟨_, PSs.nox (pss_one (ps_ret (pe_fld (pv 0) rfl))), ?_⟩
    obtain ⟨dx, hp⟩ := D.ob
    exact ⟨_, rfl, p, _, dx, _, _, rfl, hp, T.Dial.cl, T.Dial.n_hand, rfl, k⟩
theorem sc_Dial_lacked : FnScope ["self"] ["self"] (defScope (inClass (top 15) 5)) := ⟨rfl, rfl, rfl, by decide +kernel, rfl, by decide +kernel, by decide +kernel⟩
theorem ok_Dial_lacked (T : Prog K mg) : FnOk P w K mg base CX0 1 T.Dial.lacked.f T.Dial.lacked.fd ["self"] (spLacked T.Dial.C) := by
  refine T.Dial.lacked.fn.ok sc_Dial_lacked (fun vs H Q E h => ?len) (fun cdv A outer s H vs Q E hr h => ?body)
  case len =>
    obtain ⟨p, a, b, s, rfl, _⟩ := h
    rfl
  case body =>
    have hu := hu_of hr
    obtain ⟨p, a, b, s, rfl, D, k⟩ := h
    refine ⟨_, PSs.nox (pss_one (ps_ret (pe_fld (pv 0) rfl))), ?_⟩
    obtain ⟨dx, hp⟩ := D.ob
    exact ⟨_, rfl, p, _, dx, _, _, rfl, hp, T.Dial.cl, T.Dial.n_lacks, rfl, k⟩
theorem sc_law_is : FnScope ["_law_dial_here", "_law_due", "_law_again", "_law_found"] ["_law_dial_here", "_law_due"] (defScope (top 26)) := ⟨rfl, rfl, rfl, by decide +kernel, rfl, by decide +kernel, by decide +kernel⟩
theorem ok_law_is (T : Prog K mg) : FnOk P w K mg base CX0 6 T.law_is.f T.law_is.fd ["_law_dial_here", "_law_due"] (spIs T.Dial.C) := by
  have G_law_alike := ok_alike (P := P) (w := w) (base := base) T 5
  have G_pages := ok_Dial_pages (P := P) (w := w) (base := base) T
  have G_looked := ok_Dial_looked (P := P) (w := w) (base := base) T
  have G_points := ok_Dial_points (P := P) (w := w) (base := base) T
  have G_lacked := ok_Dial_lacked (P := P) (w := w) (base := base) T
  refine T.law_is.fn.ok sc_law_is (fun vs H Q E h => ?len) (fun cdv A outer s H vs Q E hr h => ?body)
  case len =>
    obtain ⟨p, a, b, d, e, f, s, n, rfl, _⟩ := h
    rfl
  case body =>
    have hr_law_alike : Room 5 _ := hr.mono (by decide)
    have hr_pages : Room 1 _ := hr.mono (by decide)
    have hr_looked : Room 1 _ := hr.mono (by decide)
    have hr_points : Room 1 _ := hr.mono (by decide)
    have hr_lacked : Room 1 _ := hr.mono (by decide)
    have hu := hu_of hr
    obtain ⟨p, a, b, d, e, f, s, n, rfl, D, L, W, n8, k⟩ := h
    refine ⟨_, PSs.nox (pss_cons (ps_for PassesOwn.never rfl (pi_range1 (by rfl) T.range (pa_cons pe_int pa_nil)) (pg_name (i := 2) sc_law_is.nd rfl (Or.inl rfl))
        (pss_cons (ps_set (i := 3) sc_law_is.nd rfl (Or.inl rfl) (pe_lst (pa_cons (pe_meth0 (pv 0) T.Dial.cl T.Dial.pages.me G_pages hr_pages T.Dial.pages.bd .nil pass0) (pa_cons (pe_meth0 (pv 0) T.Dial.cl T.Dial.looked.me G_looked hr_looked T.Dial.looked.bd .nil pass0) pa_nil))))
        (pss_cons (ps_if (pt_not (pt_val (pe_call G_law_alike hr_law_alike (by rfl) T.law_alike.g T.law_alike.fn.kp T.law_alike.bd .nil pass0 (pa_cons (pv 3) (pa_cons (pe_lst (pa_cons (pe_dget hu (pv 1) pe_str (fun _ _ => rfl)) (pa_cons (pe_dget hu (pv 1) pe_str (fun _ _ => rfl)) pa_nil))) pa_nil)))))
        (pss_one (ps_ret pe_bl))
        pss_nil)
        (pss_cons (ps_expr (pe_bm PySem.F.plainAttrs_list PySem.F.slot_list_append PySem.F.type_list_append mt_append (pe_ix ix_list (pv 3) pe_int (fun _ _ => rfl)) (pa_cons pe_int pa_nil)))
        (pss_one (ps_expr (pe_bm0 PySem.F.plainAttrs_list PySem.F.slot_list_clear PySem.F.type_list_clear mt_clear (pe_ix ix_list (pv 3) pe_int (fun _ _ => rfl)))))))))
        (pss_one (ps_ret (pe_call G_law_alike hr_law_alike (by rfl) T.law_alike.g T.law_alike.fn.kp T.law_alike.bd .nil pass0 (pa_cons (pe_lst (pa_cons (pe_meth0 (pv 0) T.Dial.cl T.Dial.points.me G_points hr_points T.Dial.points.bd .nil pass0) (pa_cons (pe_meth0 (pv 0) T.Dial.cl T.Dial.lacked.me G_lacked hr_lacked T.Dial.lacked.bd .nil pass0) pa_nil))) (pa_cons (pe_lst (pa_cons (pe_dget hu (pv 1) pe_str (fun _ _ => rfl)) (pa_cons (pe_dget hu (pv 1) pe_str (fun _ _ => rfl)) pa_nil))) pa_nil)))))), ?_⟩
    refine ⟨_, rfl, by omega, by omega, for_range (lo := 0) (n := ((2 : Int)).toNat) (fun i σ H' => ∃ v1 v2, σ = [some (.ref p), some (.ref d), v1, v2] ∧ Same H H') ⟨_, _, rfl, Same.refl H⟩ ?_ ?_⟩
    · rintro i σ H1 hi ⟨v1, v2, rfl, s1⟩
      have D1 := D.same s1
      have L1 := L.same s1
      obtain ⟨dx, hp⟩ := D1.ob
      -- found = [dial.pages(), dial.looked()]
      refine ⟨_, rfl, p, dx, _, rfl, hp, rfl, p, a, b, s, rfl, D1, fun l1 hl1 => ?_⟩
      have s2 := Same.new (o := .lst (HL s.held)) hl1
      obtain ⟨dx2, hp2⟩ := (D1.same s2).ob
      refine ⟨_, rfl, p, dx2, _, rfl, hp2, rfl, p, a, b, s, rfl, D1.same s2, fun l2 hl2 => ?_⟩
      have s3 := s2.trans (Same.new (o := .lst (BL s.marks)) hl2)
      refine ⟨szd rfl, fun l3 hl3 => ?_⟩
      have s4 := s3.trans (Same.new (o := .lst [.ref l1, .ref l2]) hl3)
      have L4 := L1.same s4
      -- alike (found, [due['pages'], due['marks']])
      refine ⟨_, rfl, _, rfl, d, _, rfl, dg_pages L4.ob, _, rfl, d, _, rfl, dg_marks L4.ob, szd rfl, fun l4 hl4 => ?_⟩
      have s5 := s4.trans (Same.new (o := .lst [.ref e, .ref f]) hl4)
      have L5 := L1.same s5
      have k2 := Same.new (o := .lst (BL s.marks)) hl2
      have k3 := Same.new (o := .lst [.ref l1, .ref l2]) hl3
      have k4 := Same.new (o := .lst [.ref e, .ref f]) hl4
      have f1 := k4 _ _ (k3 _ _ (k2 l1 _ upd_same))
      have f2 := k4 _ _ (k3 l2 (.lst (BL s.marks)) upd_same)
      have f3 := k4 l3 (.lst [.ref l1, .ref l2]) upd_same
      have hh : s.held.length ≤ 1000 := by rw [W.h]; omega
      have hm : s.marks.length ≤ 1000 := by rw [W.m]; omega
      refine ⟨_, _, .list [.list (s.held.map pdO), .list (s.marks.map PyData.bool)], rfl, .lst (SqL.of f3) (.cons (.lst (SqL.of f1) (dp_hl _)) (.cons (.lst (SqL.of f2) (dp_bl _)) .nil)),
        .lst (SqL.of upd_same) (.cons (.lst (SqL.of L5.he) (dp_hl _)) (.cons (.lst (SqL.of L5.ma) (dp_bl _)) .nil)), ?_, ?_, ?_⟩
      · show max (PyData.depthAll (s.held.map pdO) + 1) (max (PyData.depthAll (s.marks.map PyData.bool) + 1) 0) + 1 < 5
        rw [dep_hl, dep_bl]
        decide
      · exact ⟨by show 2 ≤ 1000; decide, ⟨by rw [List.length_map]; exact hh, small_hl _⟩, ⟨by rw [List.length_map]; exact hm, small_bl _⟩, trivial⟩
      refine ⟨_, rfl, ifF rfl ?_⟩
      have l12 : l1 ≠ l2 := ne_fresh upd_same hl2
      have l13 : l1 ≠ l3 := ne_fresh (k2 l1 _ upd_same) hl3
      have l23 : l2 ≠ l3 := ne_fresh upd_same hl3
      -- found[0].append(0); found[1].clear()
      refine ⟨_, rfl, l3, _, _, _, rfl, rfl, SqL.of f3, atI_nat (j := 0) rfl, .inl ⟨rfl, _, SqL.of f1⟩, l1, _, _, rfl, rfl, f1, szl (by simp; omega), ?_⟩
      have g3 := (upd_ne (o := HO.lst (HL s.held ++ [V.int 0])) (Ne.symm l13)).trans f3
      have g2 := (upd_ne (o := HO.lst (HL s.held ++ [V.int 0])) (Ne.symm l12)).trans f2
      refine ⟨_, rfl, l3, _, _, _, rfl, rfl, SqL.of g3, atI_nat (j := 1) rfl, .inl ⟨rfl, _, SqL.of g2⟩, l2, _, rfl, rfl, g2, ?_⟩
      exact ⟨_, _, rfl, Same.put (Same.put (s1.trans s5) (Same.back s1 hl1)) (Same.back (s1.trans (Same.new (o := .lst (HL s.held)) hl1)) hl2)⟩
    · rintro σ H1 ⟨v1, v2, rfl, s1⟩
      have D1 := D.same s1
      have L1 := L.same s1
      obtain ⟨dx, hp⟩ := D1.ob
      refine ⟨_, rfl, p, dx, _, rfl, hp, rfl, p, a, b, s, rfl, D1, ?_⟩
      refine ⟨_, rfl, p, dx, _, rfl, hp, rfl, p, a, b, s, rfl, D1, ?_⟩
      refine ⟨szd rfl, fun l1 hl1 => ?_⟩
      have s2 := Same.new (o := .lst [.int s.hand, .int s.lacks]) hl1
      have L2 := L1.same s2
      refine ⟨_, rfl, d, _, rfl, dg_hand L2.ob, _, rfl, d, _, rfl, dg_lacks L2.ob, szd rfl, fun l2 hl2 => ?_⟩
      have s3 := Same.new (o := .lst [.int s.hand, .int s.lacks]) hl2
      refine ⟨_, _, .list [.int s.hand, .int s.lacks], rfl, .lst (SqL.of (s3 l1 _ upd_same)) (.cons (.int _) (.cons (.int _) .nil)), .lst (SqL.of upd_same) (.cons (.int _) (.cons (.int _) .nil)), by show max 0 (max 0 0) + 1 < 5; decide, ⟨by show 2 ≤ 1000; decide, trivial, trivial, trivial⟩, ?_⟩
      exact k _ ((s1.trans s2).trans s3)
end
end CK

/-! Two dials side by side: what stands apart. -/
namespace CK
open PySem PySem.Spec PyProof.Rows L2 CKX
theorem passT_len : ∀ (k : Nat) (m : List Bool) (h : Nat), (passF k m h).2.2.length ≤ k
  | 0, _, _ => Nat.le_refl _
  | k + 1, m, h => by
    unfold passF
    split
    · exact Nat.succ_le_succ (passT_len k _ _)
    · exact Nat.zero_le _
theorem tells_len {s : DS} {n : Nat} (W : s.WF n) (n8 : n ≤ 8) (p : Int) : (s.tells p).2.2.length ≤ 8 := by
  unfold DS.tells
  split
  · exact Nat.zero_le _
  · have h1 : s.pass.2.2.length ≤ s.marks.count true := passT_len _ _ _
    have h2 : s.marks.count true ≤ s.marks.length := List.count_le_length
    have h3 := W.m
    show s.pass.2.2.length ≤ 8
    omega
/-! ### a dial, and the law's own beside it -/
structure Q6 where
  p : Addr
  a : Addr
  b : Addr
  d : Addr
  e : Addr
  f : Addr
def Q6.S (q : Q6) : List Addr := [q.p, q.a, q.b]
def Q6.T (q : Q6) : List Addr := [q.d, q.e, q.f]
/-- no address of the one is of the other -/
def Apart (xs ys : List Addr) : Prop := ∀ x ∈ xs, x ∉ ys
theorem Apart.symm {xs ys : List Addr} (h : Apart xs ys) : Apart ys xs := fun y hy hx => h y hx hy
structure QAt (C : Addr) (H : Hp) (q : Q6) (s : DS) (n : Nat) : Prop where
  D : DialIs C H q.p q.a q.b s
  L : LDial H q.d q.e q.f s
  W : s.WF n
  n8 : n ≤ 8
/-- all of these are known -/
def Known (H : Hp) (xs : List Addr) : Prop := ∀ x ∈ xs, H x ≠ none
theorem Known.same {H H' : Hp} {xs : List Addr} (h : Known H xs) (k : Same H H') : Known H' xs := fun x hx z => by
  cases e : H x with
  | none => exact h x hx e
  | some o =>
    rw [k _ _ e] at z
    cases z
theorem Known.app {H : Hp} {xs ys : List Addr} (h : Known H xs) (k : Known H ys) : Known H (xs ++ ys) := fun x hx => (List.mem_append.mp hx).elim (h x) (k x)
theorem Known.off {H : Hp} {xs : List Addr} (h : Known H xs) {t : Addr} (e : H t = none) : t ∉ xs := fun z => h t z e
theorem kn {H : Hp} {x : Addr} {o : HO} (e : H x = some o) : H x ≠ none := by
  rw [e]
  exact fun z => by cases z
theorem known_S {C : Addr} {H : Hp} {p a b : Addr} {s : DS} (D : DialIs C H p a b s) : Known H [p, a, b] := by
  obtain ⟨dx, h⟩ := D.ob
  intro x hx
  simp at hx
  rcases hx with rfl | rfl | rfl
  · exact kn h
  · exact kn D.he
  · exact kn D.ma
theorem known_T {H : Hp} {p a b : Addr} {s : DS} (D : LDial H p a b s) : Known H [p, a, b] := by
  intro x hx
  simp at hx
  rcases hx with rfl | rfl | rfl
  · exact kn D.ob
  · exact kn D.he
  · exact kn D.ma
theorem known_B {H : Hp} {b l : Addr} (B : BoxAt H b l) : Known H [b, l] := by
  obtain ⟨ns, z, h1, h2, _⟩ := B.ex
  intro x hx
  simp at hx
  rcases hx with rfl | rfl
  · exact kn h1
  · exact kn h2
/-- what is new stands apart from what is known -/
theorem apart_new {H : Hp} {xs ys : List Addr} (h : Known H xs) (n : ∀ y ∈ ys, H y = none) : Apart ys xs := fun y hy hx => h y hx (n y hy)
theorem DialIs.butA {S : List Addr} {C : Addr} {H H' : Hp} {p a b : Addr} {s : DS} (D : DialIs C H p a b s) (k : But S H H') (h : Apart [p, a, b] S) : DialIs C H' p a b s :=
  D.but k (h _ (by simp)) (h _ (by simp)) (h _ (by simp))
theorem LDial.butA {S : List Addr} {H H' : Hp} {p a b : Addr} {s : DS} (D : LDial H p a b s) (k : But S H H') (h : Apart [p, a, b] S) : LDial H' p a b s :=
  D.but k (h _ (by simp)) (h _ (by simp)) (h _ (by simp))
theorem BoxAt.butA {S : List Addr} {H H' : Hp} {b l : Addr} (B : BoxAt H b l) (k : But S H H') (h : Apart [b, l] S) : BoxAt H' b l := B.but k (h _ (by simp)) (h _ (by simp))
theorem QAt.but {S : List Addr} {C : Addr} {H H' : Hp} {q : Q6} {s : DS} {n : Nat} (Q : QAt C H q s n) (k : But S H H') (h1 : Apart q.S S) (h2 : Apart q.T S) : QAt C H' q s n :=
  ⟨Q.D.butA k h1, Q.L.butA k h2, Q.W, Q.n8⟩
theorem QAt.same {C : Addr} {H H' : Hp} {q : Q6} {s : DS} {n : Nat} (Q : QAt C H q s n) (k : Same H H') : QAt C H' q s n := Q.but (S := []) (But.of k) (fun _ _ => by simp) (fun _ _ => by simp)
theorem QAt.kS {C : Addr} {H : Hp} {q : Q6} {s : DS} {n : Nat} (Q : QAt C H q s n) : Known H q.S := known_S Q.D
theorem QAt.kT {C : Addr} {H : Hp} {q : Q6} {s : DS} {n : Nat} (Q : QAt C H q s n) : Known H q.T := known_T Q.L
theorem apart_one {xs : List Addr} {t : Addr} (h : t ∉ xs) : Apart xs [t] := fun x hx z => by
  have e : x = t := by simpa using z
  exact h (e ▸ hx)
theorem apart_app {xs ys zs : List Addr} (h : Apart xs ys) (k : Apart xs zs) : Apart xs (ys ++ zs) := fun x hx z => (List.mem_append.mp z).elim (h x hx) (k x hx)
theorem made_same {C : Addr} {H H2 : Hp} {p dx : Addr} (np : H p = none) (nd : H dx = none) (k : But [p] (upd (upd H dx (.own p)) p (.ins C dx [])) H2) : Same H H2 := fun c o e => by
  refine k c o ?_ (by simpa using ne_fresh e np)
  rw [upd_ne (ne_fresh e np), upd_ne (ne_fresh e nd)]
  exact e
theorem made_new {C : Addr} {H : Hp} {p dx a b : Addr} (np : H p = none) (nd : H dx = none) (ha : upd (upd H dx (.own p)) p (.ins C dx []) a = none) (hb : upd (upd H dx (.own p)) p (.ins C dx []) b = none) : ∀ y ∈ [p, a, b], H y = none := by
  have s : Same H (upd (upd H dx (.own p)) p (.ins C dx [])) := fun c o e => by
    rw [upd_ne (ne_fresh e np), upd_ne (ne_fresh e nd)]
    exact e
  intro y hy
  simp at hy
  rcases hy with rfl | rfl | rfl
  · exact np
  · exact Same.back s ha
  · exact Same.back s hb
/-! ### a list of tellings, as data -/
theorem tellsL_small {n : Nat} (n8 : n ≤ 8) : ∀ (s : DS) (row : List Int), s.WF n → ∀ x ∈ tellsL s row, x.2.2.length ≤ 8
  | _, [], _, _, h => by cases h
  | s, p :: r, W, x, h => by
    rcases List.mem_cons.mp h with rfl | h
    · exact tells_len W n8 p
    · exact tellsL_small n8 (s.ask p) r (DS.ask_wf W) x h
theorem dp_tells {K : PySem.W.Frag} {H : Hp} : ∀ {as : List Addr} {xs : List (Bool × Option Int × List Nat)}, as.length = xs.length →
    (∀ (i : Nat) (a : Addr) (x : Bool × Option Int × List Nat), as[i]? = some a → xs[i]? = some x → ∃ l : Addr, H a = some (.tup [.bl x.1, pgV x.2.1, .ref l]) ∧ H l = some (.lst (NL x.2.2))) → DpAll K H (as.map V.ref) (xs.map pdT)
  | [], [], _, _ => .nil
  | [], _ :: _, h, _ => by cases h
  | _ :: _, [], h, _ => by cases h
  | a :: as, x :: xs, h, k => by
    obtain ⟨l, h1, h2⟩ := k 0 a x rfl rfl
    exact .cons (dp_t h1 h2) (dp_tells (Nat.succ.inj h) fun i b y hb hy => k (i + 1) b y hb hy)
theorem TellsAt.dp {K : PySem.W.Frag} {S : List Addr} {H H' : Hp} {as : List Addr} {xs : List (Bool × Option Int × List Nat)} (t : TellsAt S H H' as xs) : DpAll K H' (as.map V.ref) (xs.map pdT) :=
  dp_tells t.len fun i a x ha hx => by
    obtain ⟨_, _, l, _, _, _, h4, h5⟩ := t.at_ i a x ha hx
    exact ⟨l, h4, h5⟩
theorem dep_tells (xs : List (Bool × Option Int × List Nat)) : (PyData.list (xs.map pdT)).depth < 5 := by
  have h : PyData.depthAll (xs.map pdT) ≤ 2 := dep_most fun d hd => by
    obtain ⟨x, _, rfl⟩ := List.mem_map.mp hd
    rw [dep_t]
    exact Nat.le_refl _
  show PyData.depthAll (xs.map pdT) + 1 < 5
  omega
theorem small_tells {n : Nat} (n8 : n ≤ 8) {s : DS} {row : List Int} (W : s.WF n) (hr : row.length ≤ 100) : smallD (.list ((tellsL s row).map pdT)) :=
  ⟨by rw [List.length_map, tellsL_len]; omega, small_all fun d hd => by
    obtain ⟨x, hx, rfl⟩ := List.mem_map.mp hd
    exact small_t (Nat.le_trans (tellsL_small n8 s row W x hx) (by decide))⟩
end CK

/-! The two dials, the law's own, the box and the lists of the law, all apart. -/
namespace CK
open PySem PySem.Spec PyProof.Rows L2 CKX
structure Lay (B S0 T0 S1 T1 G : List Addr) : Prop where
  gB : Apart G B
  gS0 : Apart G S0
  gT0 : Apart G T0
  gS1 : Apart G S1
  gT1 : Apart G T1
  bS0 : Apart B S0
  bT0 : Apart B T0
  bS1 : Apart B S1
  bT1 : Apart B T1
  st : Apart S0 T0
  ss : Apart S0 S1
  s0t1 : Apart S0 T1
  s1t0 : Apart S1 T0
  tt : Apart T0 T1
  s1t1 : Apart S1 T1
/-- where the law's lists stand -/
structure G5 where
  b : Addr
  l : Addr
  ro : Addr
  di : Addr
  du : Addr
  r : Addr
  rl : Addr
def G5.B (g : G5) : List Addr := [g.b, g.l]
def G5.G (g : G5) : List Addr := [g.ro, g.di, g.du, g.r, g.rl]
structure Two (C : Addr) (g : G5) (q0 q1 : Q6) (x0 x1 : Int) (n0 n1 : Nat) (row rows : List Int) (H : Hp) (s0 s1 : DS) : Prop where
  B : BoxAt H g.b g.l
  ro : H g.ro = some (.lst [.int x0, .int x1])
  di : H g.di = some (.lst [.ref q0.p, .ref q1.p])
  du : H g.du = some (.lst [.ref q0.d, .ref q1.d])
  r : H g.r = some (.lst (il row))
  rl : H g.rl = some (.lst (il rows))
  Q0 : QAt C H q0 s0 n0
  Q1 : QAt C H q1 s1 n1
section
variable {C : Addr} {g : G5} {q0 q1 : Q6} {x0 x1 : Int} {n0 n1 : Nat} {row rows : List Int} {H H' H2 H3 : Hp} {s0 s1 : DS}
theorem Two.kG (t : Two C g q0 q1 x0 x1 n0 n1 row rows H s0 s1) : Known H g.G := by
  intro x hx
  have hx' : x ∈ [g.ro, g.di, g.du, g.r, g.rl] := hx
  simp at hx'
  rcases hx' with rfl | rfl | rfl | rfl | rfl
  · exact kn t.ro
  · exact kn t.di
  · exact kn t.du
  · exact kn t.r
  · exact kn t.rl
/-- what is not of its lists, dials, box may change -/
theorem Two.but {S : List Addr} (t : Two C g q0 q1 x0 x1 n0 n1 row rows H s0 s1) (k : But S H H') (hB : Apart g.B S) (hG : Apart g.G S) (h1 : Apart q0.S S) (h2 : Apart q0.T S) (h3 : Apart q1.S S) (h4 : Apart q1.T S) : Two C g q0 q1 x0 x1 n0 n1 row rows H' s0 s1 :=
  ⟨t.B.butA k hB, k _ _ t.ro (hG _ (by simp [G5.G])), k _ _ t.di (hG _ (by simp [G5.G])), k _ _ t.du (hG _ (by simp [G5.G])), k _ _ t.r (hG _ (by simp [G5.G])), k _ _ t.rl (hG _ (by simp [G5.G])), t.Q0.but k h1 h2, t.Q1.but k h3 h4⟩
theorem Two.same (t : Two C g q0 q1 x0 x1 n0 n1 row rows H s0 s1) (k : Same H H') : Two C g q0 q1 x0 x1 n0 n1 row rows H' s0 s1 :=
  t.but (S := []) (But.of k) (fun _ _ => by simp) (fun _ _ => by simp) (fun _ _ => by simp) (fun _ _ => by simp) (fun _ _ => by simp) (fun _ _ => by simp)
theorem Two.box (t : Two C g q0 q1 x0 x1 n0 n1 row rows H s0 s1) (L : Lay g.B q0.S q0.T q1.S q1.T g.G) (k : But [g.b, g.l] H H') (B' : BoxAt H' g.b g.l) : Two C g q0 q1 x0 x1 n0 n1 row rows H' s0 s1 :=
  ⟨B', k _ _ t.ro (L.gB _ (by simp [G5.G])), k _ _ t.di (L.gB _ (by simp [G5.G])), k _ _ t.du (L.gB _ (by simp [G5.G])), k _ _ t.r (L.gB _ (by simp [G5.G])), k _ _ t.rl (L.gB _ (by simp [G5.G])), t.Q0.but k L.bS0.symm L.bT0.symm, t.Q1.but k L.bS1.symm L.bT1.symm⟩
/-- what is new may change -/
theorem Two.free {u : Addr} {o : HO} {z0 z1 : DS} (t : Two C g q0 q1 x0 x1 n0 n1 row rows H s0 s1) (t' : Two C g q0 q1 x0 x1 n0 n1 row rows H' z0 z1) (n : H u = none) : Two C g q0 q1 x0 x1 n0 n1 row rows (upd H' u o) z0 z1 :=
  t'.but (S := [u]) (But.put (by simp)) (apart_one ((known_B t.B).off n)) (apart_one (t.kG.off n)) (apart_one (t.Q0.kS.off n)) (apart_one (t.Q0.kT.off n)) (apart_one (t.Q1.kS.off n)) (apart_one (t.Q1.kT.off n))
theorem Two.ask0 {s' : DS} (t : Two C g q0 q1 x0 x1 n0 n1 row rows H s0 s1) (L : Lay g.B q0.S q0.T q1.S q1.T g.G) (W : s'.WF n0) (k2 : But q0.S H H2) (D : DialIs C H2 q0.p q0.a q0.b s') (k3 : But q0.T H2 H3) (D2 : LDial H3 q0.d q0.e q0.f s') :
    Two C g q0 q1 x0 x1 n0 n1 row rows H3 s' s1 := by
  have k : ∀ x o, H x = some o → x ∉ q0.S → x ∉ q0.T → H3 x = some o := fun x o e h1 h2 => k3 _ _ (k2 _ _ e h1) h2
  have kg : ∀ x ∈ g.G, ∀ o, H x = some o → H3 x = some o := fun x hx o e => k x o e (L.gS0 x hx) (L.gT0 x hx)
  exact ⟨(t.B.butA k2 L.bS0).butA k3 L.bT0, kg _ (by simp [G5.G]) _ t.ro, kg _ (by simp [G5.G]) _ t.di, kg _ (by simp [G5.G]) _ t.du, kg _ (by simp [G5.G]) _ t.r, kg _ (by simp [G5.G]) _ t.rl,
    ⟨D.butA k3 L.st, D2, W, t.Q0.n8⟩, (t.Q1.but k2 L.ss.symm L.s0t1.symm).but k3 L.s1t0 L.tt.symm⟩
theorem Two.ask1 {s' : DS} (t : Two C g q0 q1 x0 x1 n0 n1 row rows H s0 s1) (L : Lay g.B q0.S q0.T q1.S q1.T g.G) (W : s'.WF n1) (k2 : But q1.S H H2) (D : DialIs C H2 q1.p q1.a q1.b s') (k3 : But q1.T H2 H3) (D2 : LDial H3 q1.d q1.e q1.f s') :
    Two C g q0 q1 x0 x1 n0 n1 row rows H3 s0 s' := by
  have k : ∀ x o, H x = some o → x ∉ q1.S → x ∉ q1.T → H3 x = some o := fun x o e h1 h2 => k3 _ _ (k2 _ _ e h1) h2
  have kg : ∀ x ∈ g.G, ∀ o, H x = some o → H3 x = some o := fun x hx o e => k x o e (L.gS1 x hx) (L.gT1 x hx)
  exact ⟨(t.B.butA k2 L.bS1).butA k3 L.bT1, kg _ (by simp [G5.G]) _ t.ro, kg _ (by simp [G5.G]) _ t.di, kg _ (by simp [G5.G]) _ t.du, kg _ (by simp [G5.G]) _ t.r, kg _ (by simp [G5.G]) _ t.rl,
    (t.Q0.but k2 L.ss L.s1t0.symm).but k3 L.s0t1 L.tt, ⟨D.butA k3 L.s1t1, D2, W, t.Q1.n8⟩⟩
end
theorem apart_cons {x : Addr} {xs ys : List Addr} (h : x ∉ ys) (k : Apart xs ys) : Apart (x :: xs) ys := fun y hy => (List.mem_cons.mp hy).elim (fun e => e ▸ h) (k y)
theorem apart_nil {ys : List Addr} : Apart [] ys := fun _ h => by cases h
theorem Known.but {S : List Addr} {H H' : Hp} {xs : List Addr} (h : Known H xs) (k : But S H H') (hS : Known H' S) : Known H' xs := fun x hx z => by
  by_cases hm : x ∈ S
  · exact hS x hm z
  · cases e : H x with
    | none => exact h x hx e
    | some o =>
      rw [k _ _ e hm] at z
      cases z
theorem known_one {H : Hp} {x : Addr} {o : HO} (e : H x = some o) : Known H [x] := fun y hy => by
  have : y = x := by simpa using hy
  rw [this]
  exact kn e
theorem Apart.l {xs ys zs : List Addr} (h : Apart xs (ys ++ zs)) : Apart xs ys := fun x hx z => h x hx (List.mem_append_left _ z)
theorem Apart.r {xs ys zs : List Addr} (h : Apart xs (ys ++ zs)) : Apart xs zs := fun x hx z => h x hx (List.mem_append_right _ z)
theorem off_l {x : Addr} {ys zs : List Addr} (h : x ∉ ys ++ zs) : x ∉ ys := fun z => h (List.mem_append_left _ z)
theorem off_r {x : Addr} {ys zs : List Addr} (h : x ∉ ys ++ zs) : x ∉ zs := fun z => h (List.mem_append_right _ z)
theorem lay_of {B S0 S1 T0 T1 : List Addr} {ro di du r rl : Addr} (h0 : Apart [ro] B) (h1 : Apart S0 ([ro] ++ B)) (h2 : Apart S1 (S0 ++ ([ro] ++ B))) (h3 : di ∉ S1 ++ (S0 ++ ([ro] ++ B))) (h4 : Apart T0 ([di] ++ (S1 ++ (S0 ++ ([ro] ++ B)))))
    (h5 : Apart T1 (T0 ++ ([di] ++ (S1 ++ (S0 ++ ([ro] ++ B)))))) (h6 : du ∉ T1 ++ (T0 ++ ([di] ++ (S1 ++ (S0 ++ ([ro] ++ B)))))) (h7 : r ∉ [du] ++ (T1 ++ (T0 ++ ([di] ++ (S1 ++ (S0 ++ ([ro] ++ B)))))))
    (h8 : rl ∉ [r] ++ ([du] ++ (T1 ++ (T0 ++ ([di] ++ (S1 ++ (S0 ++ ([ro] ++ B)))))))) : Lay B S0 T0 S1 T1 [ro, di, du, r, rl] := by
  have g : ∀ {X : List Addr}, ro ∉ X → di ∉ X → du ∉ X → r ∉ X → rl ∉ X → Apart [ro, di, du, r, rl] X := fun a b c d e => apart_cons a (apart_cons b (apart_cons c (apart_cons d (apart_cons e apart_nil))))
  have one : ∀ {x : Addr} {X : List Addr}, Apart X [x] → x ∉ X := fun h z => h _ z (by simp)
  have m7 := off_r h7
  have m8 := off_r (off_r h8)
  refine ⟨g (h0 ro (by simp)) ?_ ?_ ?_ ?_, g ?_ ?_ ?_ ?_ ?_, g ?_ ?_ ?_ ?_ ?_, g ?_ ?_ ?_ ?_ ?_, g ?_ ?_ ?_ ?_ ?_, h1.r.symm, h4.r.r.r.r.symm, h2.r.r.symm, h5.r.r.r.r.r.symm, h4.r.r.l.symm, h2.l.symm, h5.r.r.r.l.symm, h4.r.l.symm, h5.l.symm, h5.r.r.l.symm⟩
  · exact off_r (off_r (off_r h3))
  · exact off_r (off_r (off_r (off_r (off_r (off_r h6)))))
  · exact off_r (off_r (off_r (off_r (off_r (off_r m7)))))
  · exact off_r (off_r (off_r (off_r (off_r (off_r m8)))))
  · exact one h1.l
  · exact off_l (off_r h3)
  · exact off_l (off_r (off_r (off_r (off_r h6))))
  · exact off_l (off_r (off_r (off_r (off_r m7))))
  · exact off_l (off_r (off_r (off_r (off_r m8))))
  · exact one h4.r.r.r.l
  · exact one h4.l
  · exact off_l (off_r h6)
  · exact off_l (off_r m7)
  · exact off_l (off_r m8)
  · exact one h2.r.l
  · exact off_l h3
  · exact off_l (off_r (off_r (off_r h6)))
  · exact off_l (off_r (off_r (off_r m7)))
  · exact off_l (off_r (off_r (off_r m8)))
  · exact one h5.r.r.r.r.l
  · exact one h5.r.l
  · exact off_l h6
  · exact off_l m7
  · exact off_l m8
theorem apart_sub {xs ys xs' ys' : List Addr} (h : Apart xs ys) (h1 : ∀ x ∈ xs', x ∈ xs) (h2 : ∀ y ∈ ys', y ∈ ys) : Apart xs' ys' := fun x hx hy => h x (h1 x hx) (h2 x hy)
end CK

/-! The law. -/
namespace CK
open PySem PySem.Spec PyProof.Rows L2 CKX
theorem rep_il (k : Nat) (row : List Int) : (List.replicate k (il row)).flatten = il (List.replicate k row).flatten := by
  show (List.replicate k (row.map V.int)).flatten = (List.replicate k row).flatten.map V.int
  rw [List.map_flatten, List.map_replicate]
section
variable {P : Program} {w : World} {K : PySem.W.Frag} {mg : Str → Option Value} {base : Heap}
theorem sc_law : FnScope ["_law_script", "_law_box", "_law_rooms", "_law_dials", "_law_dues", "_law_row_here", "_law_page", "_law_side", "_law_out", "_law_found", "_law_anew", "_law_due", "_law_handed", "_law_again"] ["_law_script"] (defScope (top 27)) := ⟨rfl, rfl, rfl, by decide +kernel, rfl, by decide +kernel, by decide +kernel⟩
theorem ok_law (T : Prog K mg) (Z : Errs P K mg) {f : Addr} {fd : FuncData} (F : FunD K "law" "law" (defArgs (top 27)) (defBody (top 27)) (defScope (top 27)) [] [] f fd) : FnOk P w K mg base CX0 7 f fd ["_law_script"] (spLaw K) := by
  have G_law_begun := ok_law_begun (P := P) (w := w) (base := base) T
  have G_law_row := ok_law_row (P := P) (w := w) (base := base) T
  have G_law_dial := ok_law_dial (P := P) (w := w) (base := base) T
  have G_Dial := ok_Dial_init (P := P) (w := w) (base := base) T
  have G_law_told := ok_law_told (P := P) (w := w) (base := base) T Z
  have G_law_ask := ok_law_ask (P := P) (w := w) (base := base) T
  have G_told := ok_told (P := P) (w := w) (base := base) T
  have G_law_take := ok_law_take (P := P) (w := w) (base := base) T
  have G_law_alike := ok_alike (P := P) (w := w) (base := base) T 5
  have G_law_is := ok_law_is (P := P) (w := w) (base := base) T
  refine F.ok sc_law (fun vs H Q E h => ?len) (fun cdv A outer s H vs Q E hr h => ?body)
  case len =>
    obtain ⟨a, ns, rfl, _⟩ := h
    rfl
  case body =>
    have hr_law_begun : Room 1 _ := hr.mono (by decide)
    have hr_law_row : Room 2 _ := hr.mono (by decide)
    have hr_law_dial : Room 1 _ := hr.mono (by decide)
    have hr_law_told : Room 4 _ := hr.mono (by decide)
    have hr_law_ask : Room 1 _ := hr.mono (by decide)
    have hr_told : Room 4 _ := hr.mono (by decide)
    have hr_law_take : Room 1 _ := hr.mono (by decide)
    have hr_law_alike : Room 5 _ := hr.mono (by decide)
    have hr_law_is : Room 6 _ := hr.mono (by decide)
    have hu := hu_of hr
    obtain ⟨a, ns, rfl, hS, hl63, k⟩ := h
    refine ⟨_, PSs.nox (pss_cons (ps_set (i := 1) sc_law.nd rfl (Or.inl rfl) (pe_call G_law_begun hr_law_begun (by rfl) T.law_begun.g T.law_begun.fn.kp T.law_begun.bd .nil pass0 (pa_cons (pv 0) pa_nil)))
        (pss_cons (ps_set (i := 2) sc_law.nd rfl (Or.inl rfl) (pe_lst (pa_cons (pe_op op_add pe_int (pe_call G_law_take hr_law_take (by rfl) T.law_take.g T.law_take.fn.kp T.law_take.bd .nil pass0 (pa_cons (pv 1) (pa_cons pe_int pa_nil)))) (pa_cons (pe_op op_add pe_int (pe_call G_law_take hr_law_take (by rfl) T.law_take.g T.law_take.fn.kp T.law_take.bd .nil pass0 (pa_cons (pv 1) (pa_cons pe_int pa_nil)))) pa_nil))))
        (pss_cons (ps_set (i := 3) sc_law.nd rfl (Or.inl rfl) (pe_lst (pa_cons (pe_make T.Dial.mkr G_Dial (hr.mono (by decide)) (by rfl) T.Dial.g T.Dial.bI .nil pass0 (pa_cons (pe_ix ix_list (pv 2) pe_int (fun _ _ => rfl)) pa_nil)) (pa_cons (pe_make T.Dial.mkr G_Dial (hr.mono (by decide)) (by rfl) T.Dial.g T.Dial.bI .nil pass0 (pa_cons (pe_ix ix_list (pv 2) pe_int (fun _ _ => rfl)) pa_nil)) pa_nil))))
        (pss_cons (ps_set (i := 4) sc_law.nd rfl (Or.inl rfl) (pe_lst (pa_cons (pe_call G_law_dial hr_law_dial (by rfl) T.law_dial.g T.law_dial.fn.kp T.law_dial.bd .nil pass0 (pa_cons (pe_ix ix_list (pv 2) pe_int (fun _ _ => rfl)) pa_nil)) (pa_cons (pe_call G_law_dial hr_law_dial (by rfl) T.law_dial.g T.law_dial.fn.kp T.law_dial.bd .nil pass0 (pa_cons (pe_ix ix_list (pv 2) pe_int (fun _ _ => rfl)) pa_nil)) pa_nil))))
        (pss_cons (ps_set (i := 5) sc_law.nd rfl (Or.inl rfl) (pe_call G_law_row hr_law_row (by rfl) T.law_row.g T.law_row.fn.kp T.law_row.bd .nil pass0 (pa_cons (pv 1) (pa_cons pe_int pa_nil))))
        (pss_cons (ps_for PassesOwn.never rfl (pi_list (pe_op op_rep (pv 5) (pe_ix ix_list (pe_lst (pa_cons pe_int (pa_cons pe_int (pa_cons pe_int pa_nil)))) (pe_call G_law_take hr_law_take (by rfl) T.law_take.g T.law_take.fn.kp T.law_take.bd .nil pass0 (pa_cons (pv 1) (pa_cons pe_int pa_nil))) (fun _ _ => rfl)))) (pg_name (i := 6) sc_law.nd rfl (Or.inl rfl))
        (pss_cons (ps_set (i := 7) sc_law.nd rfl (Or.inl rfl) (pe_op op_fdiv (pe_call G_law_take hr_law_take (by rfl) T.law_take.g T.law_take.fn.kp T.law_take.bd .nil pass0 (pa_cons (pv 1) (pa_cons pe_int pa_nil))) pe_int))
        (pss_cons (ps_set (i := 8) sc_law.nd rfl (Or.inl rfl) (pe_ix ix_list (pe_lst (pa_cons (pe_un un_neg pe_int) (pa_cons pe_int (pa_cons (pe_op op_pow pe_int pe_int) pa_nil)))) (pe_call G_law_take hr_law_take (by rfl) T.law_take.g T.law_take.fn.kp T.law_take.bd .nil pass0 (pa_cons (pv 1) (pa_cons pe_int pa_nil))) (fun _ _ => rfl)))
        (C8.pss_cut (ps_if (PW.pt (pw_and (pt_cmpR op_eq (pe_call G_law_take hr_law_take (by rfl) T.law_take.g T.law_take.fn.kp T.law_take.bd .nil pass0 (pa_cons (pv 1) (pa_cons pe_int pa_nil))) pe_int (nomark _)) (pw_and1 (pt_not (pt_val (pe_call G_law_alike hr_law_alike (by rfl) T.law_alike.g T.law_alike.fn.kp T.law_alike.bd .nil pass0 (pa_cons (pe_call G_law_told hr_law_told (by rfl) T.law_told.g T.law_told.fn.kp T.law_told.bd .nil pass0 (pa_cons (pe_ix ix_list (pv 3) (pv 7) (fun _ _ => rfl)) (pa_cons (pv 8) pa_nil))) (pa_cons (pe_tup (pa_cons pe_str (pa_cons pe_int pa_nil))) pa_nil))))))))
        (pss_one (ps_ret pe_bl))
        pss_nil)
        (pss_cons (ps_set (i := 9) sc_law.nd rfl (Or.inl rfl) (pe_call G_law_told hr_law_told (by rfl) T.law_told.g T.law_told.fn.kp T.law_told.bd .nil pass0 (pa_cons (pe_ix ix_list (pv 3) (pv 7) (fun _ _ => rfl)) (pa_cons (pv 6) pa_nil))))
        (pss_cons (ps_if (pt_not (pt_val (pe_call G_law_alike hr_law_alike (by rfl) T.law_alike.g T.law_alike.fn.kp T.law_alike.bd .nil pass0 (pa_cons (pv 9) (pa_cons (pe_call G_law_ask hr_law_ask (by rfl) T.law_ask.g T.law_ask.fn.kp T.law_ask.bd .nil pass0 (pa_cons (pe_ix ix_list (pv 4) (pv 7) (fun _ _ => rfl)) (pa_cons (pv 6) pa_nil))) pa_nil)))))
        (pss_one (ps_ret pe_bl))
        pss_nil)
        (pss_cons (ps_expr (pe_bm PySem.F.plainAttrs_list PySem.F.slot_list_append PySem.F.type_list_append mt_append (pe_ix ix_tup (pv 9) pe_int (fun _ _ => rfl)) (pa_cons pe_int pa_nil)))
        (pss_one (ps_if (PW.pt (pw_or (pt_not (pt_val (pe_call G_law_is hr_law_is (by rfl) T.law_is.g T.law_is.fn.kp T.law_is.bd .nil pass0 (pa_cons (pe_ix ix_list (pv 3) pe_int (fun _ _ => rfl)) (pa_cons (pe_ix ix_list (pv 4) pe_int (fun _ _ => rfl)) pa_nil))))) (pw_or1 (pt_not (pt_val (pe_call G_law_is hr_law_is (by rfl) T.law_is.g T.law_is.fn.kp T.law_is.bd .nil pass0 (pa_cons (pe_ix ix_list (pv 3) pe_int (fun _ _ => rfl)) (pa_cons (pe_ix ix_list (pv 4) pe_int (fun _ _ => rfl)) pa_nil))))))))
        (pss_one (ps_ret pe_bl))
        pss_nil)))))))))
        (pss_cons (ps_set (i := 10) sc_law.nd rfl (Or.inr rfl) (pe_call G_law_dial hr_law_dial (by rfl) T.law_dial.g T.law_dial.fn.kp T.law_dial.bd .nil pass0 (pa_cons (pe_ix ix_list (pv 2) pe_int (fun _ _ => rfl)) pa_nil)))
        (pss_cons (ps_setLc (i := 11) (own := [("_law_page", 6)]) (g := gName 6) rfl sc_law.nd rfl rfl (sw_true rfl rfl rfl (by decide +kernel)) ((pi_list (pv 5))) (blkOk_by (own := [("_law_page", 6)]) (N := ["_law_script", "_law_box", "_law_rooms", "_law_dials", "_law_dues", "_law_row_here", "_law_page", "_law_side", "_law_out", "_law_found", "_law_anew", "_law_due", "_law_handed", "_law_again"]) (sc := defScope (top 27)) (by decide +kernel)) (fun _ _ _ _ _ => (by exact (pg_name (i := 6) sc_law.nd rfl (Or.inl rfl)))) (fun _ _ _ _ _ => (by exact pts_nil)) (fun _ _ _ _ _ => (by exact (pe_call G_law_ask hr_law_ask (by rfl) T.law_ask.g T.law_ask.fn.kp T.law_ask.bd .nil pass0 (pa_cons (pv 10) (pa_cons (pv 6) pa_nil))))))
        (pss_cons (ps_set (i := 12) sc_law.nd rfl (Or.inl rfl) (pe_callTy call_list_of (by rfl) T.list_ (by decide +kernel) (pa_cons (pv 5) pa_nil)))
        (pss_cons (ps_for PassesOwn.never rfl (pi_range1 (by rfl) T.range (pa_cons pe_int pa_nil)) (pg_name (i := 13) sc_law.nd rfl (Or.inl rfl))
        (pss_cons (ps_set (i := 9) sc_law.nd rfl (Or.inl rfl) (pe_call G_told hr_told (by rfl) T.told.g T.told.fn.kp T.told.bd .nil pass0 (pa_cons (pe_ix ix_list (pv 2) pe_int (fun _ _ => rfl)) (pa_cons (pv 12) pa_nil))))
        (pss_cons (ps_if (PW.pt (pw_or (pt_not (pt_val (pe_call G_law_alike hr_law_alike (by rfl) T.law_alike.g T.law_alike.fn.kp T.law_alike.bd .nil pass0 (pa_cons (pv 9) (pa_cons (pv 11) pa_nil))))) (pw_or1 (pt_cmpR (op_neD hr.units) (pv 12) (pv 5) (nomark _)))))
        (pss_one (ps_ret pe_bl))
        pss_nil)
        (pss_one (ps_expr (pe_bm PySem.F.plainAttrs_list PySem.F.slot_list_append PySem.F.type_list_append mt_append (pv 9) (pa_cons (pe_tup pa_nil) pa_nil)))))))
        (pss_one (ps_ret pe_bl)))))))))))), ?_⟩
    -- box = begun(script); rooms = [1 + take(box, 8), 1 + take(box, 3)]
    refine ⟨_, rfl, a, ns, rfl, hS, hl63, fun b l H1 hb hl s1 B1 => ?_⟩
    refine ⟨_, rfl, b, l, 8, rfl, B1, by decide, by decide, fun r0 H2 r00 r01 k2 B2 => ⟨_, _, rfl, rfl, ?_⟩⟩
    refine ⟨_, rfl, b, l, 3, rfl, B2, by decide, by decide, fun r1 H3 r10 r11 k3 B3 => ⟨_, _, rfl, rfl, szd rfl, fun ro hro => ?_⟩⟩
    have s3 := Same.new (o := .lst [.int (1 + r0), .int (1 + r1)]) hro
    generalize hH4 : upd H3 ro (.lst [.int (1 + r0), .int (1 + r1)]) = H4 at *
    have ro4 : H4 ro = some (.lst [.int (1 + r0), .int (1 + r1)]) := by rw [← hH4]; exact upd_same
    have B4 := B3.same s3
    have roB : Apart [ro] [b, l] := apart_new (known_B B3) (by simpa using hro)
    -- dials = [Dial(rooms[0]), Dial(rooms[1])]
    refine ⟨_, rfl, ro, _, _, V.int (1 + r0), rfl, rfl, SqL.of ro4, atI_nat (j := 0) rfl, fun p0 dx0 np0 ndx0 _ => ?_⟩
    refine ⟨p0, dx0, 1 + r0, rfl, upd_same, by omega, by omega, fun a0 b0 H5 ha0 hb0 D05 k5 => ⟨rfl, ?_⟩⟩
    have s5 := made_same np0 ndx0 k5
    have n5 := made_new np0 ndx0 ha0 hb0
    have ro5 := s5 _ _ ro4
    refine ⟨_, rfl, ro, _, _, V.int (1 + r1), rfl, rfl, SqL.of ro5, atI_nat (j := 1) rfl, fun p1 dx1 np1 ndx1 _ => ?_⟩
    refine ⟨p1, dx1, 1 + r1, rfl, upd_same, by omega, by omega, fun a1 b1 H6 ha1 hb1 D16 k6 => ⟨rfl, szd rfl, fun di hdi => ?_⟩⟩
    have s6 := made_same np1 ndx1 k6
    have n6 := made_new np1 ndx1 ha1 hb1
    have ro6 := s6 _ _ ro5
    have D06 := D05.same s6
    have s7 := Same.new (o := .lst [.ref p0, .ref p1]) hdi
    generalize hH7 : upd H6 di (.lst [.ref p0, .ref p1]) = H7 at *
    have di7 : H7 di = some (.lst [.ref p0, .ref p1]) := by rw [← hH7]; exact upd_same
    have ro7 := s7 _ _ ro6
    -- dues = [dial(rooms[0]), dial(rooms[1])]
    refine ⟨_, rfl, ro, _, _, V.int (1 + r0), rfl, rfl, SqL.of ro7, atI_nat (j := 0) rfl, 1 + r0, rfl, by omega, by omega, fun d0 e0 f0 H8 hd0 he0 hf0 L08 s8 => ?_⟩
    refine ⟨_, rfl, ro, _, _, V.int (1 + r1), rfl, rfl, SqL.of (s8 _ _ ro7), atI_nat (j := 1) rfl, 1 + r1, rfl, by omega, by omega, fun d1 e1 f1 H9 hd1 he1 hf1 L19 s9 => ⟨szd rfl, fun du hdu => ?_⟩⟩
    have s10 := Same.new (o := .lst [.ref d0, .ref d1]) hdu
    generalize hH10 : upd H9 du (.lst [.ref d0, .ref d1]) = H10 at *
    have du10 : H10 du = some (.lst [.ref d0, .ref d1]) := by rw [← hH10]; exact upd_same
    -- row_here = row(box, 100)
    have B10 := B4.same ((((s5.trans s6).trans s7).trans s8).trans (s9.trans s10))
    refine ⟨_, rfl, b, l, 100, rfl, B10, by decide, by decide, fun row r H11 hr11 hrow hlen k11 hrr B11 => ?_⟩
    have hR : RowOk row := ⟨by omega, hrow⟩
    -- for page in row_here * [1, 1, 4][take(box, 3)]
    have c10 := s5.trans (s6.trans (s7.trans (s8.trans (s9.trans s10))))
    refine ⟨_, rfl, szd rfl, fun m hm => ⟨_, rfl, b, l, 3, rfl, B11.same (Same.new hm), by decide, by decide, fun r2 H12 r20 r21 k12 B12 => ?_⟩⟩
    have mB : m ∉ [b, l] := (known_B B11).off hm
    obtain ⟨v, hv, hat⟩ := il_menu (xs := [1, 1, 4]) (r := r2) r20 r21
    have v14 : 1 ≤ v ∧ v ≤ 4 := by
      simp at hv
      omega
    have rB : r ∉ [b, l] := (known_B B10).off hr11
    have hr12 : H12 r = some (.lst (il row)) := k12 _ _ (Same.new hm _ _ hrr) rB
    refine ⟨m, _, _, _, rfl, rfl, SqL.of (k12 _ _ upd_same mB), hat, ?_⟩
    refine ⟨r, v, _, rfl, rfl, hr12, by omega, by omega, sz (by
      rw [il_len]
      have h1 := hR.1
      have h2 : v.toNat ≤ 4 := by omega
      exact Nat.le_trans (Nat.mul_le_mul h1 h2) (by decide)), fun rl hrl => ?_⟩
    rw [rep_il]
    generalize hrows : (List.replicate v.toNat row).flatten = rows
    have hpages : ∀ p ∈ rows, 0 ≤ p ∧ p < 12 := fun p hp => by
      rw [← hrows] at hp
      obtain ⟨xs, h1, h2⟩ := List.mem_flatten.mp hp
      rw [List.eq_of_mem_replicate h1] at h2
      exact hrow p h2
    -- all these stand apart
    have K4 : Known H4 ([ro] ++ [b, l]) := (known_one ro4).app (known_B B4)
    have A5 := apart_new K4 n5
    have K5 := (known_S D05).app (K4.same s5)
    have A6 := apart_new K5 n6
    have K6 := (known_S D16).app (K5.same s6)
    have K7 := (known_one di7).app (K6.same s7)
    have di6 := K6.off hdi
    have A8 : Apart [d0, e0, f0] _ := apart_new K7 (by simp [hd0, he0, hf0])
    have K8 := (known_T L08).app (K7.same s8)
    have A9 : Apart [d1, e1, f1] _ := apart_new K8 (by simp [hd1, he1, hf1])
    have K9 := (known_T L19).app (K8.same s9)
    have du9 := K9.off hdu
    have K10 := (known_one du10).app (K9.same s10)
    have r10' := K10.off hr11
    have K11 := (known_one hrr).app (K10.but k11 (known_B B11))
    have K12 := (K11.same (Same.new (o := .lst (il [1, 1, 4])) hm)).but k12 (known_B B12)
    have rl12 := K12.off hrl
    have lay : Lay [b, l] [p0, a0, b0] [d0, e0, f0] [p1, a1, b1] [d1, e1, f1] [ro, di, du, r, rl] := lay_of roB A5 A6 di6 A8 A9 du9 r10' rl12
    let g : G5 := ⟨b, l, ro, di, du, r, rl⟩
    let q0 : Q6 := ⟨p0, a0, b0, d0, e0, f0⟩
    let q1 : Q6 := ⟨p1, a1, b1, d1, e1, f1⟩
    have L : Lay g.B q0.S q0.T q1.S q1.T g.G := lay
    have k13 : But [b, l] H10 (upd H12 rl (.lst (il rows))) := (k11.trans ((But.of (Same.new hm)).trans k12)).trans (But.of (Same.new hrl))
    have c7 := (s7.trans s8).trans (s9.trans s10)
    have oro : ro ∉ [b, l] := lay.gB ro (by simp)
    have odi : di ∉ [b, l] := lay.gB di (by simp)
    have odu : du ∉ [b, l] := lay.gB du (by simp)
    have t0 : Two T.Dial.C g q0 q1 (1 + r0) (1 + r1) (1 + r0).toNat (1 + r1).toNat row rows (upd H12 rl (.lst (il rows))) (DS.new (1 + r0).toNat) (DS.new (1 + r1).toNat) :=
      ⟨B12.same (Same.new hrl), k13 _ _ (c10 _ _ ro4) oro, k13 _ _ (((s8.trans s9).trans s10) _ _ di7) odi, k13 _ _ du10 odu, Same.new hrl _ _ hr12, upd_same,
        ⟨(D06.same c7).butA k13 lay.bS0.symm, (L08.same (s9.trans s10)).butA k13 lay.bT0.symm, DS.new_wf (by omega), by omega⟩,
        ⟨(D16.same c7).butA k13 lay.bS1.symm, (L19.same s10).butA k13 lay.bT1.symm, DS.new_wf (by omega), by omega⟩⟩
    refine ⟨rl, rfl, ⟨_, SqL.of upd_same⟩, for_list (K := K) (a := rl) (xs := il rows) (fun i σ H' => ∃ (v6 v7 v8 v9 : Option V) (s0 s1 : DS), σ = [some (.ref a), some (.ref b), some (.ref ro), some (.ref di), some (.ref du), some (.ref r), v6, v7, v8, v9, none, none, none, none] ∧
      Two T.Dial.C g q0 q1 (1 + r0) (1 + r1) (1 + r0).toNat (1 + r1).toNat row rows H' s0 s1) ⟨_, _, _, _, _, _, rfl, t0⟩ (fun i σ H' _ q => ?_) ?_ ?_⟩
    · obtain ⟨_, _, _, _, _, _, _, t⟩ := q
      exact SqL.of t.rl
    · rintro i x σ H14 hx ⟨v6, v7, v8, v9, s0, s1, rfl, t⟩
      obtain ⟨pg, hpg, rfl⟩ := il_get hx
      have hp := hpages pg (List.mem_of_getElem? hpg)
      -- side = take(box, 4) // 3
      refine ⟨_, rfl, b, l, 4, rfl, t.B, by decide, by decide, fun r4 H15 r40 r41 k15 B15 => ⟨_, _, rfl, rfl, ⟨by decide, by decide⟩, ?_⟩⟩
      have t15 := t.box L k15 B15
      have hside : r4 / 3 = 0 ∨ r4 / 3 = 1 := by omega
      -- out = [-1, 12, 10 ** 40][take(box, 3)]
      refine ⟨_, rfl, _, _, rfl, rfl, ⟨by decide, by decide, by decide⟩, szd rfl, fun ol hol => ⟨_, rfl, b, l, 3, rfl, B15.same (Same.new hol), by decide, by decide, fun r3 H17 r30 r31 k17 B17 => ?_⟩⟩
      have t17 := (t15.same (Same.new hol)).box L k17 B17
      have olB : ol ∉ [b, l] := (known_B B15).off hol
      obtain ⟨out, hout, hato⟩ := il_menu (xs := [-1, 12, 10 ^ (40 : Int).toNat]) (r := r3) r30 r31
      have hbad : ¬ (0 ≤ out ∧ out < 12) := by
        intro z
        have e40 : (10 : Int) ^ (40 : Int).toNat = 10000000000000000000000000000000000000000 := by decide +kernel
        rw [e40] at hout
        simp at hout
        omega
      refine ⟨ol, _, _, _, rfl, rfl, SqL.of (k17 _ _ upd_same olB), hato, ?_⟩
      refine ⟨fun σ' H' => σ' = [some (.ref a), some (.ref b), some (.ref ro), some (.ref di), some (.ref du), some (.ref r), some (.int pg), some (.int (r4 / 3)), some (.int out), v9, none, none, none, none] ∧ Two T.Dial.C g q0 q1 (1 + r0) (1 + r1) (1 + r0).toNat (1 + r1).toNat row rows H' s0 s1, ?_, ?_⟩
      · -- now and then asked for no page
        refine ⟨_, rfl, b, l, 9, rfl, B17, by decide, by decide, fun r9 H18 r90 r91 k18 B18 => ⟨rfl, _, rfl, ?_⟩⟩
        have t18 := t17.box L k18 B18
        refine ite2 (fun _ => ?_) (fun _ => ⟨rfl, t18⟩)
        rcases hside with h0 | h0
        · skip
          refine ⟨_, rfl, _, rfl, di, _, _, V.ref q0.p, rfl, rfl, SqL.of t18.di, (by rw [h0]; exact atI_nat (j := 0) rfl), _, rfl, q0.p, q0.a, q0.b, _, _, out, rfl, t18.Q0.D, t18.Q0.W, t18.Q0.n8, fun _ tt H19 htt ett s19 => ?_, fun z1 z2 => absurd ⟨z1, z2⟩ hbad⟩
          refine ⟨szd rfl, fun t2 ht2 => ?_⟩
          have s20 := Same.new (o := .tup [.str "BadRow", .int 0]) ht2
          refine ⟨_, _, .tuple [.str "BadRow", .int 0], rfl, .tup (SqT.of (s20 _ _ ett)) (.cons (.str _) (.cons (.int _) .nil)), .tup (SqT.of upd_same) (.cons (.str _) (.cons (.int _) .nil)), by show max 0 (max 0 0) + 1 < 5; decide, ⟨by show 2 ≤ 1000; decide, trivial, trivial, trivial⟩, _, rfl, ?_⟩
          exact ifF rfl ⟨rfl, t18.same (s19.trans s20)⟩
        · skip
          refine ⟨_, rfl, _, rfl, di, _, _, V.ref q1.p, rfl, rfl, SqL.of t18.di, (by rw [h0]; exact atI_nat (j := 1) rfl), _, rfl, q1.p, q1.a, q1.b, _, _, out, rfl, t18.Q1.D, t18.Q1.W, t18.Q1.n8, fun _ tt H19 htt ett s19 => ?_, fun z1 z2 => absurd ⟨z1, z2⟩ hbad⟩
          refine ⟨szd rfl, fun t2 ht2 => ?_⟩
          have s20 := Same.new (o := .tup [.str "BadRow", .int 0]) ht2
          refine ⟨_, _, .tuple [.str "BadRow", .int 0], rfl, .tup (SqT.of (s20 _ _ ett)) (.cons (.str _) (.cons (.int _) .nil)), .tup (SqT.of upd_same) (.cons (.str _) (.cons (.int _) .nil)), by show max 0 (max 0 0) + 1 < 5; decide, ⟨by show 2 ≤ 1000; decide, trivial, trivial, trivial⟩, _, rfl, ?_⟩
          exact ifF rfl ⟨rfl, t18.same (s19.trans s20)⟩
      · rintro σ' H18 ⟨rfl, t18⟩
        -- found = told(dials[side], page), as the law's own ask tells; told lists may be changed; both dials tell all
        rcases hside with h0 | h0
        · skip
          refine ⟨_, rfl, _, rfl, di, _, _, V.ref q0.p, rfl, rfl, SqL.of t18.di, (by rw [h0]; exact atI_nat (j := 0) rfl), _, rfl, q0.p, q0.a, q0.b, _, _, pg, rfl, t18.Q0.D, t18.Q0.W, t18.Q0.n8, fun z => absurd hp z, fun _ _ tt ll H19 htt hll ntl ett ell D19 k19 => ?_⟩
          have du19 := k19 _ _ t18.du (L.gS0 du (by simp [G5.G, g]))
          have L19 := t18.Q0.L.butA k19 L.st.symm
          refine ⟨_, rfl, _, rfl, _, rfl, du, _, _, V.ref q0.d, rfl, rfl, SqL.of du19, (by rw [h0]; exact atI_nat (j := 0) rfl), _, rfl, q0.d, q0.e, q0.f, _, _, pg, rfl, L19, t18.Q0.W, t18.Q0.n8, fun t2 l2 H20 ht2 hl2 n2 et2 el2 L20 k20 => ?_⟩
          have ett20 := k20 _ _ ett (t18.Q0.kT.off htt)
          have ell20 := k20 _ _ ell (t18.Q0.kT.off hll)
          have short := tells_len t18.Q0.W t18.Q0.n8 pg
          refine ⟨_, _, pdT (s0.tells pg), rfl, dp_t ett20 ell20, dp_t et2 el2, by rw [dep_t]; decide, small_t (by omega), _, rfl, ifF rfl ?_⟩
          have t20 := t18.ask0 L (DS.ask_wf (p := pg) t18.Q0.W) k19 D19 k20 L20
          refine ⟨_, rfl, tt, _, _, V.ref ll, rfl, rfl, SqT.of ett20, atI_nat (j := 2) rfl, .inl ⟨rfl, _, SqL.of ell20⟩, ll, _, _, rfl, rfl, ell20, szl (by rw [List.length_map]; omega), ?_⟩
          have t21 := t18.free (o := .lst (NL (s0.tells pg).2.2 ++ [V.int 0])) t20 hll
          refine ⟨_, rfl, di, _, _, V.ref q0.p, rfl, rfl, SqL.of t21.di, atI_nat (j := 0) rfl, _, rfl, du, _, _, V.ref q0.d, rfl, rfl, SqL.of t21.du, atI_nat (j := 0) rfl, q0.p, q0.a, q0.b, q0.d, q0.e, q0.f, _, _, rfl, t21.Q0.D, t21.Q0.L, t21.Q0.W, t21.Q0.n8, fun H22 s22 => ⟨_, rfl, ?_⟩⟩
          have t22 := t21.same s22
          refine iteF ⟨_, rfl, di, _, _, V.ref q1.p, rfl, rfl, SqL.of t22.di, atI_nat (j := 1) rfl, _, rfl, du, _, _, V.ref q1.d, rfl, rfl, SqL.of t22.du, atI_nat (j := 1) rfl, q1.p, q1.a, q1.b, q1.d, q1.e, q1.f, _, _, rfl, t22.Q1.D, t22.Q1.L, t22.Q1.W, t22.Q1.n8, fun H23 s23 => ⟨_, rfl, ?_⟩⟩
          exact iteF ⟨_, _, _, _, _, _, rfl, t22.same s23⟩
        · skip
          refine ⟨_, rfl, _, rfl, di, _, _, V.ref q1.p, rfl, rfl, SqL.of t18.di, (by rw [h0]; exact atI_nat (j := 1) rfl), _, rfl, q1.p, q1.a, q1.b, _, _, pg, rfl, t18.Q1.D, t18.Q1.W, t18.Q1.n8, fun z => absurd hp z, fun _ _ tt ll H19 htt hll ntl ett ell D19 k19 => ?_⟩
          have du19 := k19 _ _ t18.du (L.gS1 du (by simp [G5.G, g]))
          have L19 := t18.Q1.L.butA k19 L.s1t1.symm
          refine ⟨_, rfl, _, rfl, _, rfl, du, _, _, V.ref q1.d, rfl, rfl, SqL.of du19, (by rw [h0]; exact atI_nat (j := 1) rfl), _, rfl, q1.d, q1.e, q1.f, _, _, pg, rfl, L19, t18.Q1.W, t18.Q1.n8, fun t2 l2 H20 ht2 hl2 n2 et2 el2 L20 k20 => ?_⟩
          have ett20 := k20 _ _ ett (t18.Q1.kT.off htt)
          have ell20 := k20 _ _ ell (t18.Q1.kT.off hll)
          have short := tells_len t18.Q1.W t18.Q1.n8 pg
          refine ⟨_, _, pdT (s1.tells pg), rfl, dp_t ett20 ell20, dp_t et2 el2, by rw [dep_t]; decide, small_t (by omega), _, rfl, ifF rfl ?_⟩
          have t20 := t18.ask1 L (DS.ask_wf (p := pg) t18.Q1.W) k19 D19 k20 L20
          refine ⟨_, rfl, tt, _, _, V.ref ll, rfl, rfl, SqT.of ett20, atI_nat (j := 2) rfl, .inl ⟨rfl, _, SqL.of ell20⟩, ll, _, _, rfl, rfl, ell20, szl (by rw [List.length_map]; omega), ?_⟩
          have t21 := t18.free (o := .lst (NL (s1.tells pg).2.2 ++ [V.int 0])) t20 hll
          refine ⟨_, rfl, di, _, _, V.ref q0.p, rfl, rfl, SqL.of t21.di, atI_nat (j := 0) rfl, _, rfl, du, _, _, V.ref q0.d, rfl, rfl, SqL.of t21.du, atI_nat (j := 0) rfl, q0.p, q0.a, q0.b, q0.d, q0.e, q0.f, _, _, rfl, t21.Q0.D, t21.Q0.L, t21.Q0.W, t21.Q0.n8, fun H22 s22 => ⟨_, rfl, ?_⟩⟩
          have t22 := t21.same s22
          refine iteF ⟨_, rfl, di, _, _, V.ref q1.p, rfl, rfl, SqL.of t22.di, atI_nat (j := 1) rfl, _, rfl, du, _, _, V.ref q1.d, rfl, rfl, SqL.of t22.du, atI_nat (j := 1) rfl, q1.p, q1.a, q1.b, q1.d, q1.e, q1.f, _, _, rfl, t22.Q1.D, t22.Q1.L, t22.Q1.W, t22.Q1.n8, fun H23 s23 => ⟨_, rfl, ?_⟩⟩
          exact iteF ⟨_, _, _, _, _, _, rfl, t22.same s23⟩
    · rintro σ H14 ⟨v6, v7, v8, v9, s0, s1, rfl, t⟩
      have hr1 := hR.1
      have x08 : (1 + r0).toNat ≤ 8 := by omega
      have W0 : (DS.new (1 + r0).toNat).WF (1 + r0).toNat := DS.new_wf (by omega)
      -- anew = dial(rooms[0]); due = [ask(anew, page) for page in row_here]
      refine ⟨_, rfl, ro, _, _, V.int (1 + r0), rfl, rfl, SqL.of t.ro, atI_nat (j := 0) rfl, 1 + r0, rfl, by omega, by omega, fun d e f H15 hd he hf L15 s15 => ?_⟩
      have hr15 := s15 _ _ t.r
      refine ⟨_, rfl, r, rfl, ⟨_, SqL.of hr15⟩, fun D hD => ?_⟩
      have DT : D ∉ [d, e, f] := (known_T L15).off hD
      have hDn : H14 D = none := Same.back s15 hD
      have dn : ∀ {c : Addr} {o : HO}, H14 c = some o → c ∉ [d, e, f] := fun {c o} q => by
        have z1 := ne_fresh q hd
        have z2 := ne_fresh q he
        have z3 := ne_fresh q hf
        simp [z1, z2, z3]
      refine lc_list (K := K) (a := r) (xs := il row) (fun i H' => ∃ as : List Addr, H' D = some (.lst (as.map V.ref)) ∧ LDial H' d e f (afterL (DS.new (1 + r0).toNat) (row.take i)) ∧ Same H14 H' ∧ TellsAt [D, d, e, f] H14 H' as (tellsL (DS.new (1 + r0).toNat) (row.take i)) ∧ as.length = i) ?_ ?_ ?_ ?_
      · exact ⟨[], upd_same, L15.same (Same.new hD), s15.trans (Same.new hD), ⟨rfl, fun i a x h => by simp at h⟩, rfl⟩
      · rintro i H' _ ⟨as, _, _, q, _⟩
        exact SqL.of (q _ _ t.r)
      · rintro i x H16 hx ⟨as, hD16, L16, s16, t16, hl16⟩
        obtain ⟨pg, hpg, rfl⟩ := il_get hx
        have hi : i < row.length := (List.getElem?_eq_some_iff.mp hpg).1
        refine ⟨rfl, _, rfl, _, rfl, d, e, f, _, (1 + r0).toNat, pg, rfl, L16, afterL_wf W0 _, x08, fun tt ll H17 htt hll ntl ett ell L17 k17 => ?_⟩
        have hD17 : H17 D = some (.lst (as.map V.ref)) := k17 _ _ hD16 DT
        have s17 : Same H14 H17 := fun c o q => k17 _ _ (s16 _ _ q) (dn q)
        have tD : tt ≠ D := Ne.symm (ne_fresh hD16 htt)
        have lD : ll ≠ D := Ne.symm (ne_fresh hD16 hll)
        have tT := (known_T L16).off htt
        have lT := (known_T L16).off hll
        have e6 := Same.put (o := .lst (as.map V.ref ++ [.ref tt])) s17 hDn
        refine ⟨_, hD17, szl (by rw [List.length_map, hl16]; omega), as ++ [tt], ?_, ?_, e6, ?_, by simp [hl16]⟩
        · rw [upd_same, List.map_append]
          rfl
        · rw [take_snoc hpg, afterL_snoc]
          exact L17.butA (S := [D]) (But.put (by simp)) (apart_one DT)
        · rw [take_snoc hpg, tellsL_snoc]
          have tS : tt ∉ [D, d, e, f] := fun z => (List.mem_cons.mp z).elim tD tT
          have lS : ll ∉ [D, d, e, f] := fun z => (List.mem_cons.mp z).elim lD lT
          exact ((t16.but k17 (fun x hx => List.mem_cons_of_mem _ hx)).snoc (Same.back s16 htt) tS (Same.back s16 hll) lS ntl ett ell).but (S' := [D]) (But.put (by simp)) (by simp)
      · rintro H18 ⟨as, hD18, _, s18, t18, _⟩
        rw [List.take_of_length_le (by simp)] at t18
        -- handed = list(row_here)
        refine ⟨_, rfl, r, _, rfl, .inl (SqL.of (s18 _ _ t.r)), fun ha hha => ?_⟩
        have s19 := Same.new (o := .lst (il row)) hha
        refine ⟨2, rfl, by decide, by decide, for_range (lo := 0) (n := ((2 : Int)).toNat) (fun i σ H' => ∃ v6 v9 v13 : Option V, σ = [some (.ref a), some (.ref b), some (.ref ro), some (.ref di), some (.ref du), some (.ref r), v6, v7, v8, v9, some (.ref d), some (.ref D), some (.ref ha), v13] ∧ Same (upd H18 ha (.lst (il row))) H') ⟨_, _, _, rfl, Same.refl _⟩ ?_ ?_⟩
        · rintro i σ H20 hi ⟨v6, v9, v13, rfl, s20⟩
          have c20 := (s18.trans s19).trans s20
          have hh20 := s20 _ _ upd_same
          -- found = told(rooms[0], handed)
          refine ⟨_, rfl, ro, _, _, V.int (1 + r0), rfl, rfl, SqL.of (c20 _ _ t.ro), atI_nat (j := 0) rfl, _, rfl, 1 + r0, ha, row, rfl, by omega, by omega, SqL.of hh20, hR, fun fo as2 H21 hfo s21 efo t21 => ?_⟩
          have hD21 := s21 _ _ ((s19.trans s20) _ _ hD18)
          have t18' := t18.but (S' := []) (But.of ((s19.trans s20).trans s21)) (by simp)
          refine ⟨_, rfl, _, rfl, _, _, .list ((tellsL (DS.new (1 + r0).toNat) row).map pdT), rfl, .lst (SqL.of efo) t21.dp, .lst (SqL.of hD21) t18'.dp, dep_tells _, small_tells x08 W0 hr1, _, rfl, ?_⟩
          refine iteF ⟨_, rfl, _, rfl, pd row, pd row, dp_il (SqL.of (s21 _ _ hh20)), dp_il (SqL.of (s21 _ _ (c20 _ _ t.r))), shaped_il _, shaped_il _, _, rfl, ?_⟩
          rw [eqv_il]
          refine ifF (by simp) ?_
          -- found.append(())
          have las : as2.length ≤ 100 := by
            have q := t21.len
            rw [tellsL_len] at q
            omega
          refine ⟨_, rfl, .inl ⟨rfl, _, SqL.of efo⟩, szd rfl, fun et het => ?_⟩
          have s22 := Same.new (o := .tup []) het
          refine ⟨fo, _, _, rfl, rfl, s22 _ _ efo, szl (by rw [List.length_map]; omega), ?_⟩
          exact ⟨_, _, _, rfl, Same.put ((s20.trans s21).trans s22) (Same.back s20 hfo)⟩
        · rintro σ H' ⟨v6, v9, v13, rfl, _⟩
          exact k H'
end
end CK

/-! The head's look at the errors' classes. -/
namespace CK
open PySem PySem.Spec PyProof.Rows L2 CKX
/-! ### the text of BadRow's __init__ as it stands -/
abbrev FnY : Type := Option (Str × Str × Arguments × FuncBody × Scope × Addr × Addr)
def fnY (K : PySem.W.Frag) : FnY := match K.lookup (He.ma K (He.ga K "BadRow") "__init__") with
  | some ⟨_, _, .func fd, _⟩ => some (fd.name, fd.qualname, fd.params, fd.body, fd.scope, fd.globals, fd.builtins)
  | _ => none
def valY : FnY := some ("__init__", "BadRow.__init__", iA, .stmts iB, iS, mainGlobals, builtinsNs)
/-- what else is known of the def at f, of the class at C, in the program's file -/
def initB (K : PySem.W.Frag) (C : Addr) (file : Str) (f : Addr) : Bool := match K.lookup f with
  | some ⟨_, _, .func fd, _⟩ => decide (fd.defaults = .none) && (decide (fd.kwdefaults = .none) && (match fd.code, fd.closure with
    | .ref cda, [(x, cc)] => decide (x = "__class__") && (PySem.W.codeIn K (.ref cda) "BadRow.__init__" && ((match K.lookup cda with
      | some ⟨_, _, .fields vs, _⟩ => (match vs[2]? with
        | some (Value.str z _) => file == z
        | _ => false)
      | _ => false) && (match K.lookup cc with
      | some ⟨_, _, .cell (some (Value.ref D)), _⟩ => decide (D = C)
      | _ => false)))
    | _, _ => false))
  | _ => false
theorem init_ok {K : PySem.W.Frag} {C : Addr} {file : Str} (e : fnY K = valY) (h : initB K C file (He.ma K (He.ga K "BadRow") "__init__") = true) : ∃ (cc cda : Addr),
    (∃ (oc : Value) (od : Option Addr) (doc pm : Value) (an : Option Addr) (ct : Value) (osl : Array (Option Value)),
      K.lookup (He.ma K (He.ga K "BadRow") "__init__") = some ⟨oc, od, .func (PySem.W.ksFn "__init__" "BadRow.__init__" iA iB iS .none .none doc pm an (.ref cda) ct cc), osl⟩ ∧ PySem.W.codeIn K (.ref cda) "BadRow.__init__" = true) ∧
    (∃ (ccl : Value) (cdd : Option Addr) (vs : Array Value) (ccs : Array (Option Value)) (z : Str) (tf : Tok), K.lookup cda = some ⟨ccl, cdd, .fields vs, ccs⟩ ∧ vs[2]? = some (.str z tf) ∧ (file == z) = true) ∧
    (∃ (cl : Value) (cld : Option Addr) (csl : Array (Option Value)), K.lookup cc = some ⟨cl, cld, .cell (some (.ref C)), csl⟩) := by
  unfold fnY at e
  unfold initB at h
  cases q : K.lookup (He.ma K (He.ga K "BadRow") "__init__") with
  | none => rw [q] at h; cases h
  | some o =>
    obtain ⟨oc, od, dt, osl⟩ := o
    rw [q] at h e
    cases dt with
    | func fd =>
      obtain ⟨n1, n2, n3, n4, n5, n6, n7, n8, n9, n10, n11, n12, n13, n14, n15⟩ := fd
      have e2 : (some (n1, n2, n3, n4, n5, n6, n15) : FnY) = valY := e
      unfold valY at e2
      simp only [Option.some.injEq, Prod.mk.injEq] at e2
      obtain ⟨h1, h2, h3, h4, h5, h6, h7⟩ := e2
      subst h1 h2 h3 h4 h5 h6 h7
      obtain ⟨d1, h⟩ := He.ba h
      obtain ⟨d2, h⟩ := He.ba h
      have z1 : n8 = Value.none := of_decide_eq_true d1
      have z2 : n9 = Value.none := of_decide_eq_true d2
      subst z1 z2
      cases n13 with
      | ref cda =>
        cases n7 with
        | nil => cases h
        | cons c r =>
          cases r with
          | cons _ _ => cases h
          | nil =>
            obtain ⟨x, cc⟩ := c
            obtain ⟨hx, h⟩ := He.ba h
            obtain ⟨hc, h⟩ := He.ba h
            obtain ⟨hf, hd⟩ := He.ba h
            have zx : x = "__class__" := of_decide_eq_true hx
            subst zx
            refine ⟨cc, cda, ⟨oc, od, n10, n11, n12, n14, osl, rfl, hc⟩, ?_, ?_⟩
            · cases q2 : K.lookup cda with
              | none => rw [q2] at hf; cases hf
              | some o2 =>
                obtain ⟨ccl, cdd, dt2, ccs⟩ := o2
                rw [q2] at hf
                cases dt2 with
                | fields vs =>
                  have hf : (match vs[2]? with
                    | some (Value.str z _) => file == z
                    | _ => false) = true := hf
                  cases q3 : vs[2]? with
                  | none => rw [q3] at hf; cases hf
                  | some u =>
                    rw [q3] at hf
                    cases u with
                    | str z tf => exact ⟨ccl, cdd, vs, ccs, z, tf, rfl, q3, hf⟩
                    | _ => cases hf
                | _ => cases hf
            · cases q2 : K.lookup cc with
              | none => rw [q2] at hd; cases hd
              | some o2 =>
                obtain ⟨cl, cld, dt2, csl⟩ := o2
                rw [q2] at hd
                cases dt2 with
                | cell v =>
                  cases v with
                  | none => cases hd
                  | some u =>
                    cases u with
                    | ref D =>
                      have zd : D = C := of_decide_eq_true hd
                      subst zd
                      exact ⟨cl, cld, csl, rfl⟩
                    | _ => cases hd
                | _ => cases hd
      | _ => cases n7 <;> cases h
    | _ => cases h
/-! ### the class object -/
def clsB (K : PySem.W.Frag) (C : Addr) : Bool := match K.lookup C with
  | some ⟨.type t, _, .cls cd, sl⟩ => decide (t = "type") && (cd.hasDict && (!cd.hasDel && ((match cd.mro with
    | .ref D :: bm => decide (D = C) && (HandSPX.refsVE bm && decide (PySem.W.alongIn K "__init__" bm = some (some (.builtin "ValueError.__init__"))))
    | _ => false) && (match sl.toList with
    | [_, _, _, _, some (.builtin n), _] => decide (n = "ValueError.__new__")
    | _ => false))))
  | _ => false
theorem cls_ok {K : PySem.W.Frag} {C : Addr} (h : clsB K C = true) : ∃ nm q N bs bm sn sub ab col dd k0 k1 k2 k3 k5, K.lookup C = some (excClassObj nm q C N bs bm true sn sub ab col dd k0 k1 k2 k3 k5 "ValueError.__new__") ∧ HandSPX.refsVE bm = true ∧ PySem.W.alongIn K "__init__" bm = some (some (.builtin "ValueError.__init__")) := by
  unfold clsB at h
  cases q : K.lookup C with
  | none => rw [q] at h; cases h
  | some o =>
    obtain ⟨oc, od, dt, osl⟩ := o
    rw [q] at h
    cases oc with
    | type t =>
      cases dt with
      | cls cd =>
        obtain ⟨nm, bs, mro, N, qn, hd, sn, sub, ab, col, del⟩ := cd
        obtain ⟨h1, h⟩ := He.ba h
        obtain ⟨h2, h⟩ := He.ba h
        obtain ⟨h3, h⟩ := He.ba h
        obtain ⟨h4, h5⟩ := He.ba h
        have e1 : t = "type" := of_decide_eq_true h1
        have e2 : hd = true := h2
        have e3 : del = false := by
          have z : (!del) = true := h3
          cases del with
          | false => rfl
          | true => cases z
        subst e1 e2 e3
        obtain ⟨sl⟩ := osl
        cases mro with
        | nil => cases h4
        | cons c bm =>
          cases c with
          | ref D =>
            obtain ⟨g1, h4⟩ := He.ba h4
            obtain ⟨g2, g3⟩ := He.ba h4
            have z1 : D = C := of_decide_eq_true g1
            subst z1
            match sl, h5 with
            | [k0, k1, k2, k3, some (.builtin n), k5], h5 =>
              have z5 : n = "ValueError.__new__" := of_decide_eq_true h5
              subst z5
              exact ⟨nm, qn, N, bs, bm, sn, sub, ab, col, od, k0, k1, k2, k3, k5, rfl, g2, of_decide_eq_true g3⟩
          | _ => cases h4
      | _ => cases h
    | _ => cases dt <;> cases h
/-! ### all the errors -/
def excB (K : PySem.W.Frag) (D : Addr) : Bool := He.eqO (PySem.W.findIn K (.ref D) "__getattribute__") (some (some (.builtin "BaseException.__getattribute__"))) && (He.eqO (PySem.W.findIn K (.ref D) "__getattr__") (some none) && (decide (PySem.W.subIn K (.ref D) (.type "BaseException") = some true) && (PySem.W.hasDictIn K D &&
  (He.eqO (PySem.W.findIn K (.ref D) "__class__") (some (some (.builtin "object.__class__"))) && (He.eqO (PySem.W.specialIn K (.builtin "object.__class__") "__get__") (some (some (.builtin "getset_descriptor.__get__"))) && (decide (PySem.W.takesIn K (.builtin "object.__class__") = some true) && decide (PySem.W.mroIn K D (.type "object") = some true)))))))
theorem excB_ok {K : PySem.W.Frag} {D : Addr} (h : excB K D = true) : ExcC K D := by
  obtain ⟨h1, h⟩ := He.ba h
  obtain ⟨h2, h⟩ := He.ba h
  obtain ⟨h3, h⟩ := He.ba h
  obtain ⟨h4, h⟩ := He.ba h
  obtain ⟨h5, h⟩ := He.ba h
  obtain ⟨h6, h⟩ := He.ba h
  obtain ⟨h7, h8⟩ := He.ba h
  exact ⟨He.eqO_ok h1, He.eqO_ok h2, of_decide_eq_true h3, h4, He.eqO_ok h5, He.eqO_ok h6, of_decide_eq_true h7, of_decide_eq_true h8⟩
def isErrB (K : PySem.W.Frag) (pe c0 c1 c2 c3 D : Addr) (i : Nat) : Bool := excB K D && (decide (PySem.W.kitOne K (.ref D) (.ref c0) = some (decide (i = 0))) && (decide (PySem.W.kitOne K (.ref D) (.ref c1) = some (decide (i = 1))) && (decide (PySem.W.kitOne K (.ref D) (.ref c2) = some (decide (i = 2))) &&
  (decide (PySem.W.kitOne K (.ref D) (.ref c3) = some (decide (i = 3))) && (decide (PySem.W.kitOne K (.ref D) (.type "ValueError") = some true) && decide (PySem.W.exmOne K (.ref D) (.ref pe) = some true))))))
theorem isErrB_ok {K : PySem.W.Frag} {pe c0 c1 c2 c3 D : Addr} {i : Nat} (h : isErrB K pe c0 c1 c2 c3 D i = true) : IsErr K pe c0 c1 c2 c3 D i := by
  obtain ⟨h1, h⟩ := He.ba h
  obtain ⟨h2, h⟩ := He.ba h
  obtain ⟨h3, h⟩ := He.ba h
  obtain ⟨h4, h⟩ := He.ba h
  obtain ⟨h5, h⟩ := He.ba h
  obtain ⟨h6, h7⟩ := He.ba h
  exact ⟨excB_ok h1, of_decide_eq_true h2, of_decide_eq_true h3, of_decide_eq_true h4, of_decide_eq_true h5, of_decide_eq_true h6, of_decide_eq_true h7⟩
def rowB (K : PySem.W.Frag) (C : Addr) : Bool := He.eqO (PySem.W.findIn K (.ref C) "__setattr__") (some (some (.builtin "object.__setattr__"))) && (He.eqO (PySem.W.findIn K (.ref C) "place") (some none) && (He.eqO (PySem.W.findIn K (.ref C) "__init__") (some (some (.ref (He.ma K C "__init__")))) &&
  (decide (PySem.W.typeIn K (.ref (He.ma K C "__init__")) = some (.type "function")) && (PySem.W.keepIn K (.ref C) && (decide (PySem.W.typeIn K (.ref C) = some (.type "type")) && (decide (PySem.W.subIn K (.ref C) (.type "ValueError") = some true) && He.eqO (PySem.W.nsIn K cStatics "thirdparty.any") (some none)))))))
def faE : List He.Fa := [.free "super", .free "ValueError", .glo "PageError", .glo "BadRooms", .glo "BadRow", .glo "BadRule", .glo "TooMany", .exc "BadRooms", .exc "BadRule", .exc "TooMany"]
def errB (K : PySem.W.Frag) (file : Str) : Bool := (faE.all fun f => f.ok K) && (clsB K (He.ga K "BadRow") && (rowB K (He.ga K "BadRow") && (initB K (He.ga K "BadRow") file (He.ma K (He.ga K "BadRow") "__init__") &&
  (isErrB K (He.ga K "PageError") (He.ga K "BadRooms") (He.ga K "BadRow") (He.ga K "BadRule") (He.ga K "TooMany") (He.ga K "BadRooms") 0 && (isErrB K (He.ga K "PageError") (He.ga K "BadRooms") (He.ga K "BadRow") (He.ga K "BadRule") (He.ga K "TooMany") (He.ga K "BadRow") 1 &&
  (isErrB K (He.ga K "PageError") (He.ga K "BadRooms") (He.ga K "BadRow") (He.ga K "BadRule") (He.ga K "TooMany") (He.ga K "BadRule") 2 && isErrB K (He.ga K "PageError") (He.ga K "BadRooms") (He.ga K "BadRow") (He.ga K "BadRule") (He.ga K "TooMany") (He.ga K "TooMany") 3))))))
theorem plain_ok {K : PySem.W.Frag} {x : Str} (h : (He.Fa.exc x).ok K = true) : PlainErr K (He.ga K x) := by
  obtain ⟨h1, h2, _, h4⟩ := He.exc_ok h
  exact ⟨h1, h2, h4⟩
theorem errs {p : Program} {K : PySem.W.Frag} {h : Heap} {mg : Str → Option Value} (X : K.In h) (G : h.Ns mainGlobals mg) (e : fnY K = valY) (c : errB K p.main.file = true) (top : (p.main.scope.names.lookup ("super" : Str)).isSome = false) : Nonempty (Errs p K mg) := by
  obtain ⟨c1, c⟩ := He.ba c
  obtain ⟨c2, c⟩ := He.ba c
  obtain ⟨c3, c⟩ := He.ba c
  obtain ⟨c4, c⟩ := He.ba c
  obtain ⟨c5, c⟩ := He.ba c
  obtain ⟨c6, c⟩ := He.ba c
  obtain ⟨c7, c8⟩ := He.ba c
  have fact : ∀ f ∈ faE, f.ok K = true := fun f hf => List.all_eq_true.mp c1 f hf
  obtain ⟨b1, c3⟩ := He.ba c3
  obtain ⟨b2, c3⟩ := He.ba c3
  obtain ⟨b3, c3⟩ := He.ba c3
  obtain ⟨b4, c3⟩ := He.ba c3
  obtain ⟨b5, c3⟩ := He.ba c3
  obtain ⟨b6, c3⟩ := He.ba c3
  obtain ⟨b7, b8⟩ := He.ba c3
  obtain ⟨cc, cda, f1, f2, f3⟩ := init_ok e c4
  have i1 := isErrB_ok c6
  have br : BrTxt p K mg (He.ga K "BadRow") (He.ma K (He.ga K "BadRow") "__init__") cc cda :=
    { gC := He.glo_ok X G (fact (.glo "BadRow") (by simp [faE])), gS := He.free_ok X G (fact (.free "super") (by simp [faE])), cls := cls_ok c2, sa := He.eqO_ok b1, ga := i1.ec.hg, gg := i1.ec.hk, noN := He.eqO_ok b2, iC := He.eqO_ok b3, tC := of_decide_eq_true b4,
      kC := b5, exC := i1.ec.hs, tyC := of_decide_eq_true b6, hdC := i1.ec.hd, subB := of_decide_eq_true b7, opq := He.eqO_ok b8, fn := f1, code := f2, cell := f3, top := top }
  exact ⟨⟨_, _, _, _, _, _, _, _, He.glo_ok X G (fact (.glo "PageError") (by simp [faE])), He.glo_ok X G (fact (.glo "BadRooms") (by simp [faE])), He.glo_ok X G (fact (.glo "BadRule") (by simp [faE])), He.glo_ok X G (fact (.glo "TooMany") (by simp [faE])),
    He.free_ok X G (fact (.free "ValueError") (by simp [faE])), br, isErrB_ok c5, i1, isErrB_ok c7, isErrB_ok c8, plain_ok (fact (.exc "BadRooms") (by simp [faE])), plain_ok (fact (.exc "BadRule") (by simp [faE])), plain_ok (fact (.exc "TooMany") (by simp [faE]))⟩⟩
/-! ### the head's look, with these -/
abbrev AlY : Type := He.AlT × (Bool × FnY)
def frY (n : Nat) (g : Addr → Option Obj) : PySem.W.Frag := He.frG g (cStatics :: He.asD g n)
def obsY (n : Nat) (fa : List He.Fa) (fn : List He.DefD) (ts : List He.Tab) (xt : PySem.W.Frag → Bool) (g : Addr → Option Obj) : AlY := (He.obsT fa fn ts (frY n g), (xt (frY n g), fnY (frY n g)))
def hookY (n : Nat) (fa : List He.Fa) (fn : List He.DefD) (ts : List He.Tab) (xt : PySem.W.Frag → Bool) : PySem.W.Hook where
  α := AlY
  obs := fun s => obsY n fa fn ts xt s.heap.get?
  val := fun w => (He.valT fn ts w, (true, valY))
  says := fun w h => ∃ K : PySem.W.Frag, K.In h ∧ He.SaysT fa fn ts w K ∧ xt K = true ∧ fnY K = valY
  of := fun _ _ e => ⟨_, He.frG_in, congrArg Prod.fst e, congrArg (fun z => z.2.1) e, congrArg (fun z => z.2.2) e⟩
  keeps := fun _ _ _ ⟨K, hK, c⟩ k => ⟨K, PySem.W.Frag.In.keeps hK k, c⟩
theorem obsY_eq {n : Nat} {fa : List He.Fa} {fn : List He.DefD} {ts : List He.Tab} {xt : PySem.W.Frag → Bool} {g : Addr → Option Obj} {s : Shared} (h : ∀ a, g a = s.heap.get? a) : obsY n fa fn ts xt g = (hookY n fa fn ts xt).obs s := by
  have e : g = s.heap.get? := funext h
  rw [e] <;> rfl
end CK

namespace CK
open PySem PySem.Spec PyProof.Rows L2
/-! ### the head: facts by names, one run of the top -/
def fn : List He.DefD := [
  ⟨("check_rooms", none), "check_rooms", "check_rooms", defArgs (top 10), defBody (top 10), defScope (top 10), [], []⟩,
  ⟨("is_page", none), "is_page", "is_page", defArgs (top 11), defBody (top 11), defScope (top 11), [], []⟩,
  ⟨("check_page", none), "check_page", "check_page", defArgs (top 12), defBody (top 12), defScope (top 12), [], []⟩,
  ⟨("check_row", none), "check_row", "check_row", defArgs (top 13), defBody (top 13), defScope (top 13), [], []⟩,
  ⟨("told", none), "told", "told", defArgs (top 16), defBody (top 16), defScope (top 16), [], []⟩,
  ⟨("_law_begun", none), "_law_begun", "_law_begun", defArgs (top 18), defBody (top 18), defScope (top 18), [], []⟩,
  ⟨("_law_take", none), "_law_take", "_law_take", defArgs (top 19), defBody (top 19), defScope (top 19), [], []⟩,
  ⟨("_law_alike", none), "_law_alike", "_law_alike", defArgs (top 20), defBody (top 20), defScope (top 20), [], []⟩,
  ⟨("_law_class", none), "_law_class", "_law_class", defArgs (top 21), defBody (top 21), defScope (top 21), [], []⟩,
  ⟨("_law_row", none), "_law_row", "_law_row", defArgs (top 22), defBody (top 22), defScope (top 22), [], []⟩,
  ⟨("_law_dial", none), "_law_dial", "_law_dial", defArgs (top 23), defBody (top 23), defScope (top 23), [], []⟩,
  ⟨("_law_ask", none), "_law_ask", "_law_ask", defArgs (top 24), defBody (top 24), defScope (top 24), [], []⟩,
  ⟨("_law_told", none), "_law_told", "_law_told", defArgs (top 25), defBody (top 25), defScope (top 25), [], []⟩,
  ⟨("_law_is", none), "_law_is", "_law_is", defArgs (top 26), defBody (top 26), defScope (top 26), [], []⟩,
  ⟨("law", none), "law", "law", defArgs (top 27), defBody (top 27), defScope (top 27), [], []⟩,
  ⟨("Dial", some "__init__"), "__init__", "Dial.__init__", defArgs (inClass (top 15) 0), defBody (inClass (top 15) 0), defScope (inClass (top 15) 0), [], []⟩,
  ⟨("Dial", some "ask"), "ask", "Dial.ask", defArgs (inClass (top 15) 1), defBody (inClass (top 15) 1), defScope (inClass (top 15) 1), [], []⟩,
  ⟨("Dial", some "pages"), "pages", "Dial.pages", defArgs (inClass (top 15) 2), defBody (inClass (top 15) 2), defScope (inClass (top 15) 2), [], []⟩,
  ⟨("Dial", some "looked"), "looked", "Dial.looked", defArgs (inClass (top 15) 3), defBody (inClass (top 15) 3), defScope (inClass (top 15) 3), [], []⟩,
  ⟨("Dial", some "points"), "points", "Dial.points", defArgs (inClass (top 15) 4), defBody (inClass (top 15) 4), defScope (inClass (top 15) 4), [], []⟩,
  ⟨("Dial", some "lacked"), "lacked", "Dial.lacked", defArgs (inClass (top 15) 5), defBody (inClass (top 15) 5), defScope (inClass (top 15) 5), [], []⟩,
  ⟨("Dial", some "_pass_marked"), "_pass_marked", "Dial._pass_marked", defArgs (inClass (top 15) 6), defBody (inClass (top 15) 6), defScope (inClass (top 15) 6), [], []⟩,
  ⟨("Dial", some "_exchange"), "_exchange", "Dial._exchange", defArgs (inClass (top 15) 7), defBody (inClass (top 15) 7), defScope (inClass (top 15) 7), [], []⟩,
  ⟨("Dial", some "_go_on"), "_go_on", "Dial._go_on", defArgs (inClass (top 15) 8), defBody (inClass (top 15) 8), defScope (inClass (top 15) 8), [], []⟩]
def fa : List He.Fa := [
  .glo "check_rooms", .glo "is_page", .glo "check_page", .glo "check_row", .glo "told", .glo "_law_begun", .glo "_law_take", .glo "_law_alike", .glo "_law_class", .glo "_law_row", .glo "_law_dial", .glo "_law_ask", .glo "_law_told", .glo "_law_is", .glo "law", .cls "Dial", .glo "Dial", .noat "Dial" "_hand", .noat "Dial" "_held", .noat "Dial" "_lacks", .noat "Dial" "_marks", .meth "Dial" "__init__", .meth "Dial" "ask", .meth "Dial" "pages", .meth "Dial" "looked", .meth "Dial" "points", .meth "Dial" "lacked", .meth "Dial" "_pass_marked", .meth "Dial" "_exchange", .meth "Dial" "_go_on", .mkr "Dial", .int "MOST_ROOMS" 8, .int "PAGES" 12, .int "MOST_ASKS" 100, .free "bool", .free "enumerate", .free "int", .free "isinstance", .free "len", .free "list", .free "min", .free "range", .free "str", .free "tuple"]
abbrev R : PySem.W.OpenRow := PySem.W.OpenLaw.row PySem.Challenge.rw_clockhand_k02_the_hand
def xt (K : PySem.W.Frag) : Bool := errB K R.prog.main.file
theorem mkProg {K : PySem.W.Frag} {h : Heap} {mg : Str → Option Value} (X : K.In h) (G : h.Ns mainGlobals mg) (c : He.SaysD fa fn K) (cx : xt K = true) : Nonempty (Prog K mg) := by
  obtain ⟨_, F0⟩ := c.def_ 0 rfl
  obtain ⟨_, F1⟩ := c.def_ 1 rfl
  obtain ⟨_, F2⟩ := c.def_ 2 rfl
  obtain ⟨_, F3⟩ := c.def_ 3 rfl
  obtain ⟨_, F4⟩ := c.def_ 4 rfl
  obtain ⟨_, F5⟩ := c.def_ 5 rfl
  obtain ⟨_, F6⟩ := c.def_ 6 rfl
  obtain ⟨_, F7⟩ := c.def_ 7 rfl
  obtain ⟨_, F8⟩ := c.def_ 8 rfl
  obtain ⟨_, F9⟩ := c.def_ 9 rfl
  obtain ⟨_, F10⟩ := c.def_ 10 rfl
  obtain ⟨_, F11⟩ := c.def_ 11 rfl
  obtain ⟨_, F12⟩ := c.def_ 12 rfl
  obtain ⟨_, F13⟩ := c.def_ 13 rfl
  obtain ⟨_, F15⟩ := c.def_ 15 rfl
  obtain ⟨_, F16⟩ := c.def_ 16 rfl
  obtain ⟨_, F17⟩ := c.def_ 17 rfl
  obtain ⟨_, F18⟩ := c.def_ 18 rfl
  obtain ⟨_, F19⟩ := c.def_ 19 rfl
  obtain ⟨_, F20⟩ := c.def_ 20 rfl
  obtain ⟨_, F21⟩ := c.def_ 21 rfl
  obtain ⟨_, F22⟩ := c.def_ 22 rfl
  obtain ⟨_, F23⟩ := c.def_ 23 rfl
  obtain ⟨t_MOST_ROOMS, i_MOST_ROOMS⟩ := He.int_ok X G (c.fact 31 rfl)
  obtain ⟨t_PAGES, i_PAGES⟩ := He.int_ok X G (c.fact 32 rfl)
  obtain ⟨t_MOST_ASKS, i_MOST_ASKS⟩ := He.int_ok X G (c.fact 33 rfl)
  exact ⟨{
    check_rooms := ⟨_, _, F0, (FunD.bindsN F0 fun _ _ _ _ _ _ us hl => match us, hl with | [_], _ => rfl), He.glo_ok X G (c.fact 0 rfl)⟩,
    is_page := ⟨_, _, F1, (FunD.bindsN F1 fun _ _ _ _ _ _ us hl => match us, hl with | [_], _ => rfl), He.glo_ok X G (c.fact 1 rfl)⟩,
    check_page := ⟨_, _, F2, (FunD.bindsN F2 fun _ _ _ _ _ _ us hl => match us, hl with | [_], _ => rfl), He.glo_ok X G (c.fact 2 rfl)⟩,
    check_row := ⟨_, _, F3, (FunD.bindsN F3 fun _ _ _ _ _ _ us hl => match us, hl with | [_], _ => rfl), He.glo_ok X G (c.fact 3 rfl)⟩,
    told := ⟨_, _, F4, (FunD.bindsN F4 fun _ _ _ _ _ _ us hl => match us, hl with | [_, _], _ => rfl), He.glo_ok X G (c.fact 4 rfl)⟩,
    law_begun := ⟨_, _, F5, (FunD.bindsN F5 fun _ _ _ _ _ _ us hl => match us, hl with | [_], _ => rfl), He.glo_ok X G (c.fact 5 rfl)⟩,
    law_take := ⟨_, _, F6, (FunD.bindsN F6 fun _ _ _ _ _ _ us hl => match us, hl with | [_, _], _ => rfl), He.glo_ok X G (c.fact 6 rfl)⟩,
    law_alike := ⟨_, _, F7, (FunD.bindsN F7 fun _ _ _ _ _ _ us hl => match us, hl with | [_, _], _ => rfl), He.glo_ok X G (c.fact 7 rfl)⟩,
    law_class := ⟨_, _, F8, (FunD.bindsN F8 fun _ _ _ _ _ _ us hl => match us, hl with | [_], _ => rfl), He.glo_ok X G (c.fact 8 rfl)⟩,
    law_row := ⟨_, _, F9, (FunD.bindsN F9 fun _ _ _ _ _ _ us hl => match us, hl with | [_, _], _ => rfl), He.glo_ok X G (c.fact 9 rfl)⟩,
    law_dial := ⟨_, _, F10, (FunD.bindsN F10 fun _ _ _ _ _ _ us hl => match us, hl with | [_], _ => rfl), He.glo_ok X G (c.fact 10 rfl)⟩,
    law_ask := ⟨_, _, F11, (FunD.bindsN F11 fun _ _ _ _ _ _ us hl => match us, hl with | [_, _], _ => rfl), He.glo_ok X G (c.fact 11 rfl)⟩,
    law_told := ⟨_, _, F12, (FunD.bindsN F12 fun _ _ _ _ _ _ us hl => match us, hl with | [_, _], _ => rfl), He.glo_ok X G (c.fact 12 rfl)⟩,
    law_is := ⟨_, _, F13, (FunD.bindsN F13 fun _ _ _ _ _ _ us hl => match us, hl with | [_, _], _ => rfl), He.glo_ok X G (c.fact 13 rfl)⟩,
    Dial := { C := _, cl := He.cls_ok (c.fact 15 rfl), g := He.glo_ok X G (c.fact 16 rfl), n_hand := He.noat_ok (c.fact 17 rfl), n_held := He.noat_ok (c.fact 18 rfl), n_lacks := He.noat_ok (c.fact 19 rfl), n_marks := He.noat_ok (c.fact 20 rfl), init := ⟨_, _, F15, (FunD.bindsN F15 fun _ _ _ _ _ _ us hl => match us, hl with | [_, _], _ => rfl), He.meth_ok (c.fact 21 rfl)⟩, ask := ⟨_, _, F16, (FunD.bindsN F16 fun _ _ _ _ _ _ us hl => match us, hl with | [_, _], _ => rfl), He.meth_ok (c.fact 22 rfl)⟩, pages := ⟨_, _, F17, (FunD.bindsN F17 fun _ _ _ _ _ _ us hl => match us, hl with | [_], _ => rfl), He.meth_ok (c.fact 23 rfl)⟩, looked := ⟨_, _, F18, (FunD.bindsN F18 fun _ _ _ _ _ _ us hl => match us, hl with | [_], _ => rfl), He.meth_ok (c.fact 24 rfl)⟩, points := ⟨_, _, F19, (FunD.bindsN F19 fun _ _ _ _ _ _ us hl => match us, hl with | [_], _ => rfl), He.meth_ok (c.fact 25 rfl)⟩, lacked := ⟨_, _, F20, (FunD.bindsN F20 fun _ _ _ _ _ _ us hl => match us, hl with | [_], _ => rfl), He.meth_ok (c.fact 26 rfl)⟩, pass_marked := ⟨_, _, F21, (FunD.bindsN F21 fun _ _ _ _ _ _ us hl => match us, hl with | [_], _ => rfl), He.meth_ok (c.fact 27 rfl)⟩, exchange := ⟨_, _, F22, (FunD.bindsN F22 fun _ _ _ _ _ _ us hl => match us, hl with | [_, _], _ => rfl), He.meth_ok (c.fact 28 rfl)⟩, go_on := ⟨_, _, F23, (FunD.bindsN F23 fun _ _ _ _ _ _ us hl => match us, hl with | [_], _ => rfl), He.meth_ok (c.fact 29 rfl)⟩, mkr := He.mkr_ok (c.fact 30 rfl), bI := (FunD.bindsN F15 fun _ _ _ _ _ _ us hl => match us, hl with | [_, _], _ => rfl) },
    t_MOST_ROOMS := t_MOST_ROOMS, g_MOST_ROOMS := i_MOST_ROOMS,
    t_PAGES := t_PAGES, g_PAGES := i_PAGES,
    t_MOST_ASKS := t_MOST_ASKS, g_MOST_ASKS := i_MOST_ASKS,
    bool_ := He.free_ok X G (c.fact 34 rfl),
    enumerate := He.free_ok X G (c.fact 35 rfl),
    int_ := He.free_ok X G (c.fact 36 rfl),
    isinstance := He.free_ok X G (c.fact 37 rfl),
    len := He.free_ok X G (c.fact 38 rfl),
    list_ := He.free_ok X G (c.fact 39 rfl),
    min := He.free_ok X G (c.fact 40 rfl),
    range := He.free_ok X G (c.fact 41 rfl),
    str_ := He.free_ok X G (c.fact 42 rfl),
    tuple_ := He.free_ok X G (c.fact 43 rfl) }⟩

def ts : List He.Tab := []
abbrev hk : PySem.W.Hook := hookY 5 fa fn ts xt
def ob (s : PySem.W.SharedT) : AlY := obsY 5 fa fn ts xt (HandSHeadRun.getT s)
theorem ob_eq (s : PySem.W.SharedT) : ob s = hk.obs s.abs := obsY_eq (HandSHeadRun.getT_eq s)
theorem run (w : World) : HandSHeadRun.RunEq R (PySem.W.view R.prog [27]) hk ob 4000 ["__name__", "PageError", "BadRooms", "BadRow", "BadRule", "TooMany", "MOST_ROOMS", "PAGES", "MOST_ASKS", "check_rooms", "is_page", "check_page", "check_row", "Dial", "told", "_law_begun", "_law_take", "_law_alike", "_law_class", "_law_row", "_law_dial", "_law_ask", "_law_told", "_law_is"] w := by
  refine PySem.W.byRow2 "special-get-raises" (P := fun w => HandSHeadRun.RunEq R (PySem.W.view R.prog [27]) hk ob 4000 ["__name__", "PageError", "BadRooms", "BadRow", "BadRule", "TooMany", "MOST_ROOMS", "PAGES", "MOST_ASKS", "check_rooms", "is_page", "check_page", "check_row", "Dial", "told", "_law_begun", "_law_take", "_law_alike", "_law_class", "_law_row", "_law_dial", "_law_ask", "_law_told", "_law_is"] w) (fun w => ?_) (fun w => ?_) w
  all_goals
    intro os
    kernel_rfl
end CK

namespace CK
open PySem PySem.Spec PyProof.Rows L2
theorem facts {w : World} {K : PySem.W.Frag} {h : Heap} {mg : Str → Option Value} {f : Addr} (X : K.In h) (G : h.Ns mainGlobals mg) (hfa : mg ("law" : Str) = some (.ref f)) (c : He.SaysT fa fn ts w K) (cx : xt K = true) (cy : fnY K = valY) :
    ∃ fd : FuncData, (∀ (s : Shared) (v : Value), BindsTo s fd ⟨[v], []⟩ [("_law_script", v)]) ∧ ∀ base : Heap, K.In base → base.Ns mainGlobals mg → FnOk R.prog w K mg base CX0 7 f fd ["_law_script"] (spLaw K) := by
  obtain ⟨T⟩ := mkProg X G c.d cx
  obtain ⟨Z⟩ := errs (p := R.prog) X G cy cx (by decide +kernel)
  obtain ⟨fd, F⟩ := c.d.def_ 14 rfl
  have e := hfa.symm.trans (He.glo_ok X G (c.d.fact 14 rfl))
  cases e
  have b := FunD.bindsA (ps := ["_law_script"]) F fun _ _ _ _ _ _ us hl => match us, hl with | [_], _ => rfl
  exact ⟨fd, fun s v => b s [v] rfl, fun base _ _ => ok_law T  Z F⟩
end CK
open PySem PySem.W PySem.Calls PyProof.Rows
set_option maxRecDepth 100000 in
set_option maxHeartbeats 0 in
theorem PySem.Challenge.cw_clockhand_k02_the_hand_holds : PySem.Challenge.rw_clockhand_k02_the_hand.Holds := by
  w_on; o_law
  refine HandSHeadRun.head_any (r := OpenLaw.row PySem.Challenge.rw_clockhand_k02_the_hand) (q := view (OpenLaw.row PySem.Challenge.rw_clockhand_k02_the_hand).prog [27]) (H := CK.hk) (ob := CK.ob) (M := 4000) (loose := ["__name__", "PageError", "BadRooms", "BadRow", "BadRule", "TooMany", "MOST_ROOMS", "PAGES", "MOST_ASKS", "check_rooms", "is_page", "check_page", "check_row", "Dial", "told", "_law_begun", "_law_take", "_law_alike", "_law_class", "_law_row", "_law_dial", "_law_ask", "_law_told", "_law_is"]) (d := HandSHeadRun.topDef (OpenLaw.row PySem.Challenge.rw_clockhand_k02_the_hand).prog 27) (kwd := []) CK.ob_eq
    (by kernel_rfl) (fun s => by kernel_rfl) CK.run (by kernel_rfl) (by kernel_rfl) (by kernel_rfl) (by rfl) (by first | assumption | decide +kernel) (by decide +kernel) ⟨rfl, rfl, rfl, rfl, rfl, by decide +kernel⟩ ?hw ?hc
  case hw => w_witness2
  case hc =>
    refine L2.walk_ofE (l := PySem.Challenge.rw_clockhand_k02_the_hand) (n := 63) (k := 7) (x := "_law_script") (CX := L2.CX0) rfl (by decide) (by kernel_rfl) ⟨rfl, by decide, by decide⟩ ?F (fun _ _ _ _ z => z)
    intro w mg fa h Y G hmg0
    obtain ⟨K, KX, c, cx, cy⟩ := Y
    have hmg : mg ("law" : PySem.Str) = some (.ref fa) := by
      have e : (HandSHeadRun.topDef (OpenLaw.row PySem.Challenge.rw_clockhand_k02_the_hand).prog 27).name = ("law" : PySem.Str) := by kernel_rfl
      rw [← e]
      exact hmg0
    obtain ⟨fd, hb, hF⟩ := CK.facts (w := w) KX G hmg c cx cy
    exact ⟨K, fd, CK.spLaw K, KX, hb, fun H a ns hl _ hS => ⟨a, ns, rfl, hS, hl, fun _ => rfl⟩, hF⟩
