import PyProof.Rows.All
import Wide.All
import OpenK.AllK
import Wide.FinOn
import KE.KStateDown
import Lean
import HandS.ForMost
import HandS.SortInts
import HandS.SetFor
import HandS.Wide
import HandS.Defaults
import HandS.IsInst
import HandS.CallLocal
import HandS.More
import HandS.Codes
import HandS.Sort
import HandS.Head0
import HandS.Head1
import HandS.Head2
import HandS.HeadEnd
import HandS.HeadHook1
import HandS.HeadHook2
import HandS.HeadHook3
import HandS.Walk
import PySem.Challenge.RW_clockhand_k04_the_best_goes
set_option Elab.async false
set_option linter.all false
set_option maxRecDepth 100000
set_option maxHeartbeats 0
/-! Clockhand: the shared ground of its laws: where a def stands, heaps, the box of the draws. -/
namespace CK
open PySem PySem.Spec PyProof.Rows L2
def top (i : Nat) : Stmt := PySem.Challenge.pw_clockhand_k04_the_best_goes.main.body.getD i (.Pass ⟨0, 0, 0, 0⟩)

/-- a def of the text, behind the top -/
structure DAt (K : PySem.W.Frag) (mg : Str → Option Value) (x : Str) (st : Stmt) (ps : List Str) where
  f : Addr
  fd : FuncData
  fn : FunD K x x (defArgs st) (defBody st) (defScope st) [] [] f fd
  bd : Binds K fd ps []
  g : mg x = some (.ref f)
/-- a method of the class at C -/
structure MAt (K : PySem.W.Frag) (C : Addr) (x q : Str) (st : Stmt) (ps : List Str) where
  f : Addr
  fd : FuncData
  fn : FunD K x q (defArgs st) (defBody st) (defScope st) [] [] f fd
  bd : Binds K fd ps []
  me : Meth K C x f

/-! ### the head's look, by one more Bool -/
def obsX (n : Nat) (fa : List He.Fa) (fn : List He.DefD) (ts : List He.Tab) (xt : PySem.W.Frag → Bool) (g : Addr → Option Obj) : He.AlT × Bool := (He.obsTG n fa fn ts g, xt (He.frG g (He.asD g n)))
def hookX (n : Nat) (fa : List He.Fa) (fn : List He.DefD) (ts : List He.Tab) (xt : PySem.W.Frag → Bool) : PySem.W.Hook where
  α := He.AlT × Bool
  obs := fun s => obsX n fa fn ts xt s.heap.get?
  val := fun w => (He.valT fn ts w, true)
  says := fun w h => ∃ K : PySem.W.Frag, K.In h ∧ He.SaysT fa fn ts w K ∧ xt K = true
  of := fun _ _ e => ⟨_, He.frG_in, congrArg Prod.fst e, congrArg Prod.snd e⟩
  keeps := fun _ _ _ ⟨K, hK, c⟩ k => ⟨K, PySem.W.Frag.In.keeps hK k, c⟩
theorem obsX_eq {n : Nat} {fa : List He.Fa} {fn : List He.DefD} {ts : List He.Tab} {xt : PySem.W.Frag → Bool} {g : Addr → Option Obj} {s : Shared} (h : ∀ a, g a = s.heap.get? a) : obsX n fa fn ts xt g = (hookX n fa fn ts xt).obs s := by
  have e : g = s.heap.get? := funext h
  rw [e] <;> rfl
/-! ### where all stands behind the top -/
structure Prog (K : PySem.W.Frag) (mg : Str → Option Value) where
  check_rooms : DAt K mg "check_rooms" (top 8) ["rooms"]
  is_page : DAt K mg "is_page" (top 9) ["page"]
  check_row : DAt K mg "check_row" (top 10) ["row"]
  find_spells : DAt K mg "find_spells" (top 12) ["row"]
  best : DAt K mg "best" (top 14) ["rooms", "row"]
  find_best : DAt K mg "find_best" (top 15) ["rooms", "row"]
  farthest : DAt K mg "_farthest" (top 16) ["there"]
  law_begun : DAt K mg "_law_begun" (top 18) ["_law_script"]
  law_take : DAt K mg "_law_take" (top 19) ["_law_box", "_law_many"]
  law_alike : DAt K mg "_law_alike" (top 20) ["_law_found", "_law_due"]
  law_row : DAt K mg "_law_row" (top 21) ["_law_box", "_law_most"]
  law_best : DAt K mg "_law_best" (top 22) ["_law_rooms", "_law_row_here"]
  t_MOST_ROOMS : Tok
  g_MOST_ROOMS : mg "MOST_ROOMS" = some (.int 8 t_MOST_ROOMS)
  t_PAGES : Tok
  g_PAGES : mg "PAGES" = some (.int 12 t_PAGES)
  t_MOST_ASKS : Tok
  g_MOST_ASKS : mg "MOST_ASKS" = some (.int 100 t_MOST_ASKS)
  bool_ : mg "bool" = none
  dict_ : mg "dict" = none
  enumerate : mg "enumerate" = none
  int_ : mg "int" = none
  isinstance : mg "isinstance" = none
  len : mg "len" = none
  list_ : mg "list" = none
  max : mg "max" = none
  min : mg "min" = none
  range : mg "range" = none
  sorted : mg "sorted" = none
  str_ : mg "str" = none
  tuple_ : mg "tuple" = none

/-! ### heaps -/
/-- all that H knows stands in H' as it stood, but for what stands at the places S -/
def But (S : List Addr) (H H' : Hp) : Prop := ∀ b o, H b = some o → b ∉ S → H' b = some o
theorem But.refl (S : List Addr) (H : Hp) : But S H H := fun _ _ h _ => h
theorem But.trans {S : List Addr} {H H1 H2 : Hp} (a : But S H H1) (b : But S H1 H2) : But S H H2 := fun c o h n => b c o (a c o h n) n
theorem But.mono {S T : List Addr} {H H1 : Hp} (a : But S H H1) (h : ∀ x, x ∈ S → x ∈ T) : But T H H1 := fun c o e n => a c o e fun z => n (h c z)
theorem But.same {H H1 : Hp} (a : But [] H H1) : Same H H1 := fun c o e => a c o e (by simp)
theorem But.of {S : List Addr} {H H1 : Hp} (a : Same H H1) : But S H H1 := fun c o e _ => a c o e
theorem But.new {S : List Addr} {H : Hp} {p : Addr} {o : HO} (h : H p = none) : But S H (upd H p o) := fun b u e _ => by
  rw [upd_ne (ne_of_none e h)]
  exact e
theorem But.put {S : List Addr} {H : Hp} {p : Addr} {o : HO} (h : p ∈ S) : But S H (upd H p o) := fun b u e n => by
  rw [upd_ne (fun z => n (by rw [z]; exact h))]
  exact e
/-- a place that H did not know may change -/
theorem But.free {S : List Addr} {p : Addr} {H H' : Hp} (a : But (p :: S) H H') (h : H p = none) : But S H H' := fun b o e n => a b o e fun z => by
  rcases List.mem_cons.mp z with z | z
  · rw [z, h] at e
    cases e
  · exact n z
theorem But.at {S : List Addr} {H H' : Hp} (a : But S H H') {b : Addr} {o : HO} (e : H b = some o) (n : b ∉ S := by first | assumption | simp) : H' b = some o := a b o e n
/-- what is new behind was free ahead, if it isn't of S -/
theorem But.back {S : List Addr} {H H' : Hp} (a : But S H H') {p : Addr} (h : H' p = none) (n : p ∉ S) : H p = none := by
  cases e : H p with
  | none => rfl
  | some o => rw [a p o e n] at h; cases h
theorem Same.new {H : Hp} {p : Addr} {o : HO} (h : H p = none) : Same H (upd H p o) := fun b u e => by
  rw [upd_ne (ne_of_none e h)]
  exact e
theorem Same.back {H H' : Hp} (a : Same H H') {p : Addr} (h : H' p = none) : H p = none := by
  cases e : H p with
  | none => rfl
  | some o => rw [a p o e] at h; cases h
theorem Same.put {H H' : Hp} {p : Addr} {o : HO} (a : Same H H') (h : H p = none) : Same H (upd H' p o) := fun b u e => by
  rw [upd_ne (ne_of_none e h)]
  exact a b u e
theorem ne_fresh {H : Hp} {a b : Addr} {o : HO} (h : H a = some o) (h' : H b = none) : a ≠ b := ne_of_none h h'

/-! ### lists of ints -/
abbrev il (ns : List Int) : List V := ns.map V.int
theorem il_at {ns : List Int} {j : Nat} {n : Int} (h : ns[j]? = some n) : (il ns)[j]? = some (V.int n) := by
  rw [List.getElem?_map, h]
  rfl
theorem il_set {ns : List Int} {j : Nat} {n : Int} : (il ns).set j (V.int n) = il (ns.set j n) := by
  show (ns.map V.int).set j (V.int n) = (ns.set j n).map V.int
  rw [List.map_set]
theorem il_get {ns : List Int} {j : Nat} {y : V} (h : (il ns)[j]? = some y) : ∃ n, ns[j]? = some n ∧ y = V.int n := by
  rw [List.getElem?_map] at h
  cases e : ns[j]? with
  | none => rw [e] at h; cases h
  | some n => rw [e] at h; exact ⟨n, rfl, (Option.some.inj h).symm⟩
theorem il_snoc {ns : List Int} {n : Int} : il ns ++ [V.int n] = il (ns ++ [n]) := by
  show ns.map V.int ++ [V.int n] = (ns ++ [n]).map V.int
  rw [List.map_append]
  rfl
theorem il_app {ns ms : List Int} : il ns ++ il ms = il (ns ++ ms) := by
  show ns.map V.int ++ ms.map V.int = (ns ++ ms).map V.int
  rw [List.map_append]
theorem il_len {ns : List Int} : (il ns).length = ns.length := List.length_map _
theorem flat_il (ns : List Int) : (il ns).all flatV = true := by
  rw [List.all_eq_true]
  intro x hx
  obtain ⟨n, _, rfl⟩ := List.mem_map.mp hx
  rfl
theorem inV_il (n : Int) (ns : List Int) : inV (V.int n) (il ns) = decide (n ∈ ns) := by
  induction ns with
  | nil => rfl
  | cons a r ih =>
    show (eqV (V.int a) (V.int n) || inV (V.int n) (il r)) = _
    rw [ih]
    have e : eqV (V.int a) (V.int n) = decide (a = n) := by
      first
        | rfl
        | (simp [eqV])
    rw [e]
    by_cases h : a = n
    · simp [h]
    · have h2 : ¬ n = a := fun z => h z.symm
      simp [h, h2]
/-! ### data that is read -/
def pd (ns : List Int) : PyData := .list (ns.map PyData.int)
theorem dp_all (K : PySem.W.Frag) (H : Hp) : ∀ ns : List Int, DpAll K H (il ns) (ns.map PyData.int)
  | [] => .nil
  | _ :: r => .cons (.int _) (dp_all K H r)
theorem dp_il {K : PySem.W.Frag} {H : Hp} {a : Addr} {ns : List Int} (h : SqL K H a (il ns)) : Dp K H (.ref a) (pd ns) := .lst h (dp_all K H ns)
theorem eqv_pd : ∀ a b : List Int, PyData.eqvAll (a.map PyData.int) (b.map PyData.int) = decide (a = b)
  | [], [] => rfl
  | [], _ :: _ => rfl
  | _ :: _, [] => rfl
  | x :: r, y :: s => by
    show ((x == y) && PyData.eqvAll (r.map PyData.int) (s.map PyData.int)) = _
    rw [eqv_pd r s]
    by_cases h : x = y
    · by_cases h2 : r = s
      · simp [h, h2]
      · simp [h, h2]
    · simp [h]
theorem eqv_il (a b : List Int) : PyData.eqv (pd a) (pd b) = decide (a = b) := eqv_pd a b
theorem lay_il : ∀ a : List Int, PyData.canLayAll0 (a.map PyData.int) = true
  | [] => rfl
  | _ :: r => by
    show (true && PyData.canLayAll0 (r.map PyData.int)) = true
    rw [lay_il r]
    rfl
theorem dep_il : ∀ a : List Int, PyData.depthAll (a.map PyData.int) = 0
  | [] => rfl
  | _ :: r => by
    show max 0 (PyData.depthAll (r.map PyData.int)) = 0
    rw [dep_il r]
    rfl
theorem shaped_il (a : List Int) : SeqAt.shaped (pd a) = true := by
  unfold SeqAt.shaped pd
  rw [Bool.and_eq_true]
  constructor
  · show PyData.canLayAll0 _ = true
    exact lay_il a
  · apply decide_eq_true
    show PyData.depthAll _ + 1 ≤ 64
    rw [dep_il a]
    decide
theorem sz {n : Nat} (h : n ≤ 100000) : n ≤ sizeLine := Nat.le_trans h (by decide)
theorem szl {n : Nat} (h : n < 100000) : n < sizeLine := Nat.lt_of_lt_of_le h (by decide)

theorem ixn {n : Nat} {i : Int} {j : Nat} (e : i = (j : Int)) (h : j < n) : ixN n i = some j := by
  unfold ixN
  rw [if_pos (by omega), if_pos (by omega), e]
  rfl
theorem seq_ix {n : Nat} {i : Int} {j : Nat} (e : i = (j : Int)) (h : j < n) : seqIndex? i n = some j := (ixN_seq (ixn e h)).1
theorem szd {n : Nat} (h : Nat.ble n 1000 = true) : n ≤ sizeLine := Nat.le_trans (Nat.le_of_ble_eq_true h) (by decide)
theorem il_menu {xs : List Int} {r : Int} (h0 : 0 ≤ r) (h1 : r < xs.length) : ∃ v, v ∈ xs ∧ atI (il xs) r = some (V.int v) := by
  obtain ⟨j, rfl⟩ : ∃ j : Nat, r = (j : Int) := ⟨r.toNat, by omega⟩
  have hj : j < xs.length := by omega
  exact ⟨xs[j], List.getElem_mem hj, atI_nat (il_at (List.getElem?_eq_getElem hj))⟩
theorem il_last {xs : List Int} (h : xs ≠ []) : ∃ v, v ∈ xs ∧ atI (il xs) (-1) = some (V.int v) := by
  obtain ⟨ys, y, rfl⟩ : ∃ ys y, xs = ys ++ [y] := ⟨xs.dropLast, xs.getLast h, (List.dropLast_concat_getLast h).symm⟩
  refine ⟨y, by simp, ?_⟩
  rw [← il_snoc]
  exact atI_last _ _
theorem ifT {c : Bool} {A B : Prop} (e : c = true) (h : A) : if c = true then A else B := by
  rw [if_pos e]
  exact h
theorem ifF {c : Bool} {A B : Prop} (e : c = false) (h : B) : if c = true then A else B := by
  rw [e]
  exact iteF h
theorem int0 {a b : Int} (h : a < b) : a < b := h
/-! ### the box of the draws -/
/-- the box at b: the numbers left, in the list at l, and a number by which draws go on -/
structure BoxAt (H : Hp) (b l : Addr) : Prop where
  ne : b ≠ l
  ex : ∃ (ns : List Int) (z : Int), H b = some (.lst [.ref l, .int z]) ∧ H l = some (.lst (il ns)) ∧ 0 ≤ z ∧ z < 2147483647
theorem BoxAt.but {S : List Addr} {H H' : Hp} {b l : Addr} (B : BoxAt H b l) (k : But S H H') (hb : b ∉ S) (hl : l ∉ S) : BoxAt H' b l := by
  obtain ⟨ns, z, h1, h2, h3⟩ := B.ex
  exact ⟨B.ne, ns, z, k _ _ h1 hb, k _ _ h2 hl, h3⟩
theorem BoxAt.same {H H' : Hp} {b l : Addr} (B : BoxAt H b l) (k : Same H H') : BoxAt H' b l := by
  obtain ⟨ns, z, h1, h2, h3⟩ := B.ex
  exact ⟨B.ne, ns, z, k _ _ h1, k _ _ h2, h3⟩

/-! ### the promises of the draws -/
/-- a new box over the script's ints -/
def spBegun (K : PySem.W.Frag) : Sp := fun vs H Q _ => ∃ (a : Addr) (ns : List Int), vs = [.ref a] ∧ SqL K H a (il ns) ∧ ns.length ≤ 63 ∧
  ∀ (b l : Addr) (H' : Hp), H b = none → H l = none → Same H H' → BoxAt H' b l → Q (.ref b) H'
/-- a draw: some number below m, and the box is still one -/
def spTake : Sp := fun vs H Q _ => ∃ (b l : Addr) (m : Int), vs = [.ref b, .int m] ∧ BoxAt H b l ∧ 0 < m ∧ m < 1000000000 ∧
  ∀ (r : Int) (H' : Hp), 0 ≤ r → r < m → But [b, l] H H' → BoxAt H' b l → Q (.int r) H'
/-- a row: asks for pages below twelve, at most as many as asked for -/
def spRow : Sp := fun vs H Q _ => ∃ (b l : Addr) (m : Int), vs = [.ref b, .int m] ∧ BoxAt H b l ∧ 0 ≤ m ∧ m ≤ 100 ∧
  ∀ (row : List Int) (r : Addr) (H' : Hp), H r = none → (∀ p ∈ row, 0 ≤ p ∧ p < 12) → (row.length : Int) ≤ m → But [b, l] H H' → H' r = some (.lst (il row)) → BoxAt H' b l → Q (.ref r) H'
end CK

namespace CK
open PySem PySem.Spec PyProof.Rows L2
section
variable {P : Program} {w : World} {K : PySem.W.Frag} {mg : Str → Option Value} {base : Heap}
/-! ### a draw -/
theorem sc_law_take : FnScope ["_law_box", "_law_many", "_law_number"] ["_law_box", "_law_many"] (defScope (top 19)) := ⟨rfl, rfl, rfl, by decide +kernel, rfl, by decide +kernel, by decide +kernel⟩
theorem ok_law_take (T : Prog K mg) : FnOk P w K mg base CX0 1 T.law_take.f T.law_take.fd ["_law_box", "_law_many"] spTake := by
  refine T.law_take.fn.ok sc_law_take (fun vs H Q E h => ?len) (fun cdv A outer s H vs Q E hr h => ?body)
  case len =>
    obtain ⟨b, l, m, rfl, _⟩ := h
    rfl
  case body =>
    have hu := hu_of hr
    obtain ⟨b, l, m, rfl, B, m0, m1, k⟩ := h
    refine ⟨_, PSs.nox (pss_cons (ps_if (pt_cmpR (op_eqD hr.units) (pe_ix ix_list (pv 0) pe_int (fun _ _ => rfl)) (pe_lst pa_nil) (nomark _))
        (pss_cons (ps_asg (pe_op op_mod (pe_op op_mul (pe_ix ix_list (pv 0) pe_int (fun _ _ => rfl)) pe_int) pe_int) (pg_sub (pv 0) pe_int set_list))
        (pss_one (ps_ret (pe_op op_mod (pe_op op_fdiv (pe_ix ix_list (pv 0) pe_int (fun _ _ => rfl)) pe_int) (pv 1)))))
        pss_nil)
        (pss_cons (ps_set (i := 2) sc_law_take.nd rfl (Or.inl rfl) (pe_ix ix_list (pe_ix ix_list (pv 0) pe_int (fun _ _ => rfl)) pe_int (fun _ _ => rfl)))
        (pss_cons (ps_asg (pe_op op_fdiv (pv 2) (pv 1)) (pg_sub (pe_ix ix_list (pv 0) pe_int (fun _ _ => rfl)) pe_int set_list))
        (pss_cons (ps_if (PW.pt (pw_or (pt_cmpR op_eq (pe_ix ix_list (pe_ix ix_list (pv 0) pe_int (fun _ _ => rfl)) pe_int (fun _ _ => rfl)) pe_int (nomark _)) (pw_or1 (pt_cmpR op_eq (pe_ix ix_list (pe_ix ix_list (pv 0) pe_int (fun _ _ => rfl)) pe_int (fun _ _ => rfl)) (pe_un un_neg pe_int) (nomark _)))))
        (pss_one (ps_expr (pe_bm PySem.F.plainAttrs_list PySem.F.slot_list_pop PySem.F.type_list_pop mt_popAt (pe_ix ix_list (pv 0) pe_int (fun _ _ => rfl)) (pa_cons pe_int pa_nil))))
        pss_nil)
        (pss_one (ps_ret (pe_op op_mod (pv 2) (pv 1)))))))), ?_⟩
    have B0 := B
    obtain ⟨ns, z, hb, hl, z0, z1⟩ := B.ex
    -- if box[0] == []
    refine ⟨_, rfl, b, _, _, _, rfl, rfl, SqL.of hb, atI_nat (j := 0) rfl, by decide, fun e he => ?_⟩
    have eb : b ≠ e := ne_fresh hb he
    have el : l ≠ e := ne_fresh hl he
    have s1 : But [b, l] H (upd H e (.lst [])) := But.new he
    have hb1 : upd H e (.lst []) b = some (.lst [.ref l, .int z]) := by rw [upd_ne eb]; exact hb
    have hl1 : upd H e (.lst []) l = some (.lst (il ns)) := by rw [upd_ne el]; exact hl
    refine ⟨pd ns, pd [], dp_il (SqL.of hl1), dp_il (ns := []) (SqL.of upd_same), shaped_il _, shaped_il _, _, rfl, ?_⟩
    rw [eqv_il]
    refine ite2 (fun hn => ?_) (fun hn => ?_)
    · -- box[1] = box[1] * 48271 % 2147483647; return box[1] // 7 % many
      refine ⟨_, rfl, b, _, _, _, rfl, rfl, SqL.of hb1, atI_nat (j := 1) rfl, _, _, rfl, rfl, .inl ⟨by omega, by omega⟩, _, _, rfl, rfl, int0 (by decide), ?_⟩
      refine ⟨_, rfl, b, _, 1, 1, rfl, rfl, hb1, rfl, ?_⟩
      refine ⟨_, rfl, b, _, _, _, rfl, rfl, SqL.of upd_same, atI_nat (j := 1) rfl, _, _, rfl, rfl, ⟨by decide, by decide⟩, _, rfl, _, _, rfl, rfl, m0, ?_⟩
      refine k _ _ (Int.emod_nonneg _ (by omega)) (Int.emod_lt_of_pos _ m0) (s1.trans (But.put (by simp))) ⟨B.ne, ns, _, upd_same, ?_, Int.emod_nonneg _ (by decide), Int.emod_lt_of_pos _ (by decide)⟩
      rw [upd_ne (Ne.symm B.ne)]
      exact hl1
    · -- number = box[0][0]
      obtain ⟨n, r, rfl⟩ : ∃ n r, ns = n :: r := by
        cases ns with
        | nil => exact absurd (by simp) hn
        | cons n r => exact ⟨n, r, rfl⟩
      refine ⟨_, rfl, b, _, _, _, rfl, rfl, SqL.of hb1, atI_nat (j := 0) rfl, l, _, _, _, rfl, rfl, SqL.of hl1, atI_nat (j := 0) rfl, ?_⟩
      -- box[0][0] = number // many
      refine ⟨_, rfl, _, rfl, _, _, rfl, rfl, ⟨m0, by omega⟩, ?_⟩
      refine ⟨_, rfl, b, _, _, _, rfl, rfl, SqL.of hb1, atI_nat (j := 0) rfl, l, _, 0, 0, rfl, rfl, hl1, ixn rfl (by simp), ?_⟩
      have hb2 : ∀ o, upd (upd H e (.lst [])) l o b = some (.lst [.ref l, .int z]) := fun o => by rw [upd_ne B.ne]; exact hb1
      have hl2 : upd (upd H e (.lst [])) l (.lst ((il (n :: r)).set 0 (.int (n / m)))) l = some (.lst (il ((n / m) :: r))) := upd_same
      have s2 : But [b, l] H (upd (upd H e (.lst [])) l (.lst ((il (n :: r)).set 0 (.int (n / m))))) := s1.trans (But.put (by simp))
      have r0 : 0 ≤ n % m := Int.emod_nonneg _ (by omega)
      have r1 : n % m < m := Int.emod_lt_of_pos _ m0
      -- if box[0][0] == 0 or box[0][0] == -1
      refine ⟨_, rfl, b, _, _, _, rfl, rfl, SqL.of (hb2 _), atI_nat (j := 0) rfl, l, _, _, _, rfl, rfl, SqL.of hl2, atI_nat (j := 0) rfl, rfl, _, rfl, ?_⟩
      have pop : ∀ (σ : L2.St), ∀ D : Ends, σ[0]? = some (some (.ref b)) → (∀ H', But [b, l] H H' → BoxAt H' b l → D.nx σ H') → tDrop (tBM K "list" rPopAt (tOp (rIxL K) (tVar 0) (tC (.int 0))) (tCons (tC (.int 0)) tNil)) D σ (upd (upd H e (.lst [])) l (.lst ((il (n :: r)).set 0 (.int (n / m))))) := by
        intro σ D hσ hD
        refine ⟨_, hσ, b, _, _, _, rfl, rfl, SqL.of (hb2 _), atI_nat (j := 0) rfl, .inl ⟨rfl, _, SqL.of hl2⟩, l, _, 0, 0, _, rfl, rfl, hl2, by decide, by decide, seq_ix rfl (by simp), rfl, ?_⟩
        refine hD _ (s2.trans (But.put (by simp))) ⟨B.ne, r, z, ?_, upd_same, z0, z1⟩
        rw [upd_ne B.ne]
        exact hb2 _
      have out : ∀ H', But [b, l] H H' → BoxAt H' b l → tRet (tOp (rI (fun _ j => 0 < j) fun i j => V.int (i % j)) (tVar 2) (tVar 1)) { nx := fun _ H' => Q .non H', rt := Q } [some (.ref b), some (.int m), some (.int n)] H' := fun H' k1 B1 => by
        refine ⟨_, rfl, _, rfl, _, _, rfl, rfl, m0, ?_⟩
        exact k _ _ r0 r1 k1 B1
      refine ite2 (fun _ => iteT (pop _ _ rfl out)) (fun _ => ?_)
      refine ⟨_, rfl, b, _, _, _, rfl, rfl, SqL.of (hb2 _), atI_nat (j := 0) rfl, l, _, _, _, rfl, rfl, SqL.of hl2, atI_nat (j := 0) rfl, _, rfl, rfl, _, rfl, ?_⟩
      refine ite2 (fun _ => pop _ _ rfl out) (fun _ => ?_)
      exact out _ s2 ⟨B.ne, _, z, hb2 _, hl2, z0, z1⟩
/-! ### the box -/
theorem sc_law_begun : FnScope ["_law_script", "_law_stirred", "_law_cell"] ["_law_script"] (defScope (top 18)) := ⟨rfl, rfl, rfl, by decide +kernel, rfl, by decide +kernel, by decide +kernel⟩
theorem ok_law_begun (T : Prog K mg) : FnOk P w K mg base CX0 1 T.law_begun.f T.law_begun.fd ["_law_script"] (spBegun K) := by
  refine T.law_begun.fn.ok sc_law_begun (fun vs H Q E h => ?len) (fun cdv A outer s H vs Q E hr h => ?body)
  case len =>
    obtain ⟨a, ns, rfl, _⟩ := h
    rfl
  case body =>
    have hu := hu_of hr
    obtain ⟨a, ns, rfl, hS, hlen, k⟩ := h
    refine ⟨_, PSs.nox (pss_cons (ps_set (i := 1) sc_law_begun.nd rfl (Or.inl rfl) pe_int)
        (pss_cons (ps_for PassesOwn.never rfl (pi_list (pv 0)) (pg_name (i := 2) sc_law_begun.nd rfl (Or.inl rfl))
        (pss_one (ps_set (i := 1) sc_law_begun.nd rfl (Or.inl rfl) (pe_op op_mod (pe_op op_add (pe_op op_add (pe_op op_mul (pv 1) pe_int) (pe_op op_mul (pv 2) pe_int)) pe_int) pe_int))))
        (pss_one (ps_ret (pe_lst (pa_cons (pe_callTy call_list_of (by rfl) T.list_ (by decide +kernel) (pa_cons (pv 0) pa_nil)) (pa_cons (pe_op op_mul (pv 1) (pe_callTy call_int1 (by rfl) T.int_ (by decide +kernel) (pa_cons (pe_cmpR op_gt (pe_callB call_len_seq (by rfl) T.len PySem.boot_len (pa_cons (pv 0) pa_nil)) pe_int (nomark _)) pa_nil))) pa_nil))))))), ?_⟩
    refine ⟨_, rfl, a, rfl, ⟨_, hS⟩, for_list (K := K) (a := a) (xs := il ns) (fun i σ H2 => ∃ (z : Int) (v : Option V), σ = [some (.ref a), some (.int z), v] ∧ H2 = H ∧ 0 ≤ z ∧ z < 2147483647)
      ⟨0, none, rfl, rfl, by decide, by decide⟩ (fun i σ H2 _ ⟨_, _, _, e, _⟩ => by rw [e]; exact hS) ?_ ?_⟩
    · rintro i y σ H2 hi ⟨z, v, rfl, rfl, z0, z1⟩
      obtain ⟨n, _, rfl⟩ := il_get hi
      refine ⟨_, rfl, _, _, rfl, rfl, .inl ⟨by omega, by omega⟩, _, rfl, _, _, rfl, rfl, .inr ⟨by omega, by omega⟩, _, _, rfl, rfl, _, _, rfl, rfl, _, _, rfl, rfl, int0 (by decide), ?_⟩
      exact ⟨_, _, rfl, rfl, Int.emod_nonneg _ (by decide), Int.emod_lt_of_pos _ (by decide)⟩
    · rintro σ H2 ⟨z, v, rfl, rfl, z0, z1⟩
      refine ⟨_, rfl, a, _, rfl, .inl hS, fun l hl => ?_⟩
      have s1 : Same H2 (upd H2 l (.lst (il ns))) := Same.new hl
      refine ⟨_, rfl, _, rfl, a, _, rfl, .inl (s1.seq hS), _, _, rfl, rfl, .inr ⟨_, rfl, _, _, rfl, rfl, .inl ⟨by omega, by omega⟩, ?_⟩⟩
      refine ⟨szd rfl, fun b hb => ?_⟩
      have lb : l ≠ b := ne_fresh (H := upd H2 l (.lst (il ns))) upd_same hb
      have hl2 : upd (upd H2 l (.lst (il ns))) b (.lst [V.ref l, V.int (z * (if decide ((2 : Int) < ((il ns).length : Int)) = true then 1 else 0))]) l = some (.lst (il ns)) := by
        rw [upd_ne lb]
        exact upd_same
      refine k b l _ (Same.back s1 hb) hl (s1.trans (Same.new hb)) ⟨Ne.symm lb, ns, _, upd_same, hl2, ?_, ?_⟩
      · by_cases h2 : decide ((2 : Int) < ((il ns).length : Int)) = true
        · rw [if_pos h2]; omega
        · rw [if_neg h2]; omega
      · by_cases h2 : decide ((2 : Int) < ((il ns).length : Int)) = true
        · rw [if_pos h2]; omega
        · rw [if_neg h2]; omega
/-! ### a row -/
theorem sc_law_row : FnScope ["_law_box", "_law_most", "_law_pages", "_law_found", "_law_way", "_law_turn", "_law_page"] ["_law_box", "_law_most"] (defScope (top 21)) := ⟨rfl, rfl, rfl, by decide +kernel, rfl, by decide +kernel, by decide +kernel⟩
theorem ok_law_row (T : Prog K mg) : FnOk P w K mg base CX0 2 T.law_row.f T.law_row.fd ["_law_box", "_law_most"] spRow := by
  have G_law_take := ok_law_take (P := P) (w := w) (base := base) T
  refine T.law_row.fn.ok sc_law_row (fun vs H Q E h => ?len) (fun cdv A outer s H vs Q E hr h => ?body)
  case len =>
    obtain ⟨b, l, m, rfl, _⟩ := h
    rfl
  case body =>
    have hr_law_take : Room 1 _ := hr.mono (by decide)
    have hu := hu_of hr
    obtain ⟨b, l, m, rfl, B, m0, m1, k⟩ := h
    refine ⟨_, PSs.nox (pss_cons (ps_set (i := 2) sc_law_row.nd rfl (Or.inl rfl) (pe_op op_add pe_int (pe_call G_law_take hr_law_take (by rfl) T.law_take.g T.law_take.fn.kp T.law_take.bd .nil pass0 (pa_cons (pv 0) (pa_cons (pe_ix ix_list (pe_lst (pa_cons pe_int (pa_cons pe_int (pa_cons pe_int pa_nil)))) (pe_call G_law_take hr_law_take (by rfl) T.law_take.g T.law_take.fn.kp T.law_take.bd .nil pass0 (pa_cons (pv 0) (pa_cons pe_int pa_nil))) (fun _ _ => rfl)) pa_nil)))))
        (pss_cons (ps_set (i := 3) sc_law_row.nd rfl (Or.inl rfl) (pe_lst pa_nil))
        (pss_cons (ps_set (i := 4) sc_law_row.nd rfl (Or.inl rfl) (pe_call G_law_take hr_law_take (by rfl) T.law_take.g T.law_take.fn.kp T.law_take.bd .nil pass0 (pa_cons (pv 0) (pa_cons pe_int pa_nil))))
        (pss_cons (ps_for PassesOwn.never rfl (pi_range1 (by rfl) T.range (pa_cons (pe_call G_law_take hr_law_take (by rfl) T.law_take.g T.law_take.fn.kp T.law_take.bd .nil pass0 (pa_cons (pv 0) (pa_cons (pe_op op_add (pv 1) pe_int) pa_nil))) pa_nil)) (pg_name (i := 5) sc_law_row.nd rfl (Or.inl rfl))
        (pss_cons (ps_set (i := 6) sc_law_row.nd rfl (Or.inl rfl) (pe_call G_law_take hr_law_take (by rfl) T.law_take.g T.law_take.fn.kp T.law_take.bd .nil pass0 (pa_cons (pv 0) (pa_cons (pv 2) pa_nil))))
        (C8.pss_cut (ps_if (PW.pt (pw_and (pt_cmpR op_eq (pv 4) pe_int (nomark _)) (pw_and (pt_cmpR (op_neD hr.units) (pv 3) (pe_lst pa_nil) (nomark _)) (pw_and1 (pt_cmpR op_gt (pe_call G_law_take hr_law_take (by rfl) T.law_take.g T.law_take.fn.kp T.law_take.bd .nil pass0 (pa_cons (pv 0) (pa_cons pe_int pa_nil))) pe_int (nomark _))))))
        (pss_one (ps_set (i := 6) sc_law_row.nd rfl (Or.inl rfl) (pe_ix ix_list (pv 3) (pe_op op_sub (pe_op op_sub (pe_callB call_len_seq (by rfl) T.len PySem.boot_len (pa_cons (pv 3) pa_nil)) pe_int) (pe_call G_law_take hr_law_take (by rfl) T.law_take.g T.law_take.fn.kp T.law_take.bd .nil pass0 (pa_cons (pv 0) (pa_cons (pe_callB (call_min2 rfl) (by rfl) T.min (by decide +kernel) (pa_cons pe_int (pa_cons (pe_callB call_len_seq (by rfl) T.len PySem.boot_len (pa_cons (pv 3) pa_nil)) pa_nil))) pa_nil)))) (fun _ _ => rfl))))
        pss_nil)
        (C8.pss_cut (ps_if (PW.pt (pw_and (pt_cmpR op_eq (pv 4) pe_int (nomark _)) (pw_and1 (pt_cmpR op_gt (pe_call G_law_take hr_law_take (by rfl) T.law_take.g T.law_take.fn.kp T.law_take.bd .nil pass0 (pa_cons (pv 0) (pa_cons pe_int pa_nil))) pe_int (nomark _)))))
        (pss_one (ps_set (i := 6) sc_law_row.nd rfl (Or.inl rfl) (pe_op op_mod (pv 5) (pv 2))))
        pss_nil)
        (C8.pss_cut (ps_if (PW.pt (pw_and (pt_cmpR op_eq (pv 4) pe_int (nomark _)) (pw_and (pt_cmpR (op_neD hr.units) (pv 3) (pe_lst pa_nil) (nomark _)) (pw_and1 (pt_cmpR op_gt (pe_call G_law_take hr_law_take (by rfl) T.law_take.g T.law_take.fn.kp T.law_take.bd .nil pass0 (pa_cons (pv 0) (pa_cons pe_int pa_nil))) pe_int (nomark _))))))
        (pss_one (ps_set (i := 6) sc_law_row.nd rfl (Or.inl rfl) (pe_op op_mod (pe_op op_add (pe_op op_add (pe_ix ix_list (pv 3) (pe_un un_neg pe_int) (fun _ _ => rfl)) pe_int) (pe_call G_law_take hr_law_take (by rfl) T.law_take.g T.law_take.fn.kp T.law_take.bd .nil pass0 (pa_cons (pv 0) (pa_cons pe_int pa_nil)))) (pv 2))))
        pss_nil)
        (pss_one (ps_expr (pe_bm PySem.F.plainAttrs_list PySem.F.slot_list_append PySem.F.type_list_append mt_append (pv 3) (pa_cons (pv 6) pa_nil)))))))))
        (pss_one (ps_ret (pv 3))))))), ?_⟩
    -- pages = 1 + take(box, [4, 6, 12][take(box, 3)])
    refine ⟨_, rfl, ⟨szd rfl, fun e he => ?_⟩⟩
    have eb : b ≠ e := by obtain ⟨_, _, h1, _⟩ := B.ex; exact ne_fresh h1 he
    have el : l ≠ e := by obtain ⟨_, _, _, h1, _⟩ := B.ex; exact ne_fresh h1 he
    have s1 : But [b, l] H (upd H e (.lst (il [4, 6, 12]))) := But.new he
    refine ⟨_, rfl, b, l, 3, rfl, B.same (Same.new he), by decide, by decide, fun r H1 r0 r1 k1 B1 => ?_⟩
    have he1 : H1 e = some (.lst (il [4, 6, 12])) := k1 e _ upd_same (by simp [Ne.symm eb, Ne.symm el])
    obtain ⟨v, hv, hat⟩ := il_menu (xs := [4, 6, 12]) r0 r1
    have v0 : 0 < v ∧ v ≤ 12 := by simp at hv; omega
    refine ⟨e, _, _, _, rfl, rfl, SqL.of he1, hat, b, l, v, rfl, B1, v0.1, by omega, fun pg H2 p0 p1 k2 B2 => ?_⟩
    have k02 : But [b, l] H H2 := (s1.trans k1).trans k2
    refine ⟨_, _, rfl, rfl, ?_⟩
    have pgs0 : 0 < 1 + pg ∧ 1 + pg ≤ 12 := by omega
    -- found = []; way = take(box, 4)
    refine ⟨szd rfl, fun f hf => ?_⟩
    have hfH : H f = none := k02.back hf (by
      obtain ⟨_, _, h1, h2, _⟩ := B2.ex
      have := ne_fresh h1 hf
      have := ne_fresh h2 hf
      simp only [List.mem_cons, List.not_mem_nil, or_false, not_or]
      exact ⟨Ne.symm ‹b ≠ f›, Ne.symm ‹l ≠ f›⟩)
    have fb : f ≠ b := by obtain ⟨_, _, h1, _⟩ := B2.ex; exact Ne.symm (ne_fresh h1 hf)
    have fl : f ≠ l := by obtain ⟨_, _, _, h1, _⟩ := B2.ex; exact Ne.symm (ne_fresh h1 hf)
    have fS : f ∉ [b, l] := by simp [fb, fl]
    refine ⟨_, rfl, b, l, 4, rfl, B2.same (Same.new hf), by decide, by decide, fun way H3 w0 w1 k3 B3 => ?_⟩
    -- for turn in range(take(box, most + 1))
    refine ⟨_, rfl, _, rfl, _, _, rfl, rfl, b, l, _, rfl, B3, by omega, by omega, fun j H4 j0 j1 k4 B4 => ?_⟩
    have hf4 : H4 f = some (.lst (il [])) := k4 f _ (k3 f _ upd_same fS) fS
    have k04 : But [b, l] H H4 := ((k02.trans (But.new hf)).trans k3).trans k4
    refine ⟨_, rfl, by omega, by omega, for_range (lo := 0) (n := j.toNat) (fun i σ H' => ∃ (row : List Int) (v5 v6 : Option V), σ = [some (.ref b), some (.int m), some (.int (1 + pg)), some (.ref f), some (.int way), v5, v6] ∧
      H' f = some (.lst (il row)) ∧ BoxAt H' b l ∧ But [b, l] H H' ∧ row.length = i ∧ ∀ p ∈ row, 0 ≤ p ∧ p < (1 + pg)) ⟨[], _, _, rfl, hf4, B4, k04, rfl, by simp⟩ ?_ ?_⟩
    · rintro i σ H5 hi ⟨row, v5, v6, rfl, hf5, B5, k05, hlen, hrow⟩
      -- page = take(box, pages)
      refine ⟨_, rfl, _, rfl, b, l, _, rfl, B5, pgs0.1, by omega, fun pg1 H6 q0 q1 k6 B6 => ?_⟩
      -- what stands between the ifs
      let S : L2.Hp → Prop := fun H' => H' f = some (.lst (il row)) ∧ BoxAt H' b l ∧ But [b, l] H H'
      let M : L2.St → Hp → Prop := fun σ' H' => ∃ p : Int, σ' = [some (.ref b), some (.int m), some (.int (1 + pg)), some (.ref f), some (.int way), some (.int (0 + (i : Int))), some (.int p)] ∧ S H' ∧ 0 ≤ p ∧ p < 1 + pg
      have sNew : ∀ {H' : Hp} {e : Addr} {o : HO}, S H' → H' e = none → S (upd H' e o) := fun {H' e o} h he => ⟨by rw [upd_ne (ne_fresh h.1 he)]; exact h.1, h.2.1.same (Same.new he), h.2.2.trans (But.new he)⟩
      have sTake : ∀ {H' H'' : Hp}, S H' → But [b, l] H' H'' → BoxAt H'' b l → S H'' := fun h k B => ⟨k f _ h.1 fS, B, h.2.2.trans k⟩
      have sM : ∀ {H' : Hp} {p : Int}, S H' → 0 ≤ p → p < 1 + pg → M [some (.ref b), some (.int m), some (.int (1 + pg)), some (.ref f), some (.int way), some (.int (0 + (i : Int))), some (.int p)] H' := fun h p0 p1 => ⟨_, rfl, h, p0, p1⟩
      have s6 : S H6 := ⟨k6 f _ hf5 fS, B6, k05.trans k6⟩
      refine ⟨M, ?_, ?_⟩
      · -- way == 1 and found != [] and take(box, 3) > 0
        refine ⟨_, rfl, rfl, _, rfl, ?_⟩
        refine ite2 (fun _ => ?_) (fun _ => iteF (sM s6 q0 q1))
        refine ⟨_, rfl, szd rfl, fun e he => ?_⟩
        have s7 := sNew (o := .lst []) s6 he
        refine ⟨pd row, pd [], dp_il (SqL.of s7.1), dp_il (ns := []) (SqL.of upd_same), shaped_il _, shaped_il _, _, rfl, ?_⟩
        rw [eqv_il]
        by_cases hr0 : row = []
        · exact ifF (by simp [hr0]) (iteF (sM s7 q0 q1))
        refine ifT (by simp [hr0]) ?_
        have hpos : 0 < row.length := List.length_pos_iff.mpr hr0
        refine ⟨_, rfl, b, l, 3, rfl, s7.2.1, by decide, by decide, fun c H8 c0 c1 k8 B8 => ?_⟩
        have s8 := sTake s7 k8 B8
        refine ⟨_, _, rfl, rfl, _, rfl, ?_⟩
        refine ite2 (fun _ => ?_) (fun _ => sM s8 q0 q1)
        refine ⟨_, rfl, _, rfl, f, _, rfl, .inl (SqL.of s8.1), _, _, rfl, rfl, _, rfl, _, rfl, f, _, rfl, .inl (SqL.of s8.1), _, _, rfl, b, l, _, rfl, B8, ?_, ?_, fun u H9 u0 u1 k9 B9 => ?_⟩
        · rw [il_len]; split <;> omega
        · rw [il_len]; split <;> omega
        have s9 := sTake s8 k9 B9
        rw [il_len] at u1
        have hat : ∃ v, v ∈ row ∧ atI (il row) ((((il row).length : Int) - 1) - u) = some (V.int v) := by
          rw [il_len]
          refine il_menu ?_ ?_
          · split at u1 <;> omega
          · omega
        obtain ⟨v, hv, hat⟩ := hat
        refine ⟨_, _, rfl, rfl, f, _, _, _, rfl, rfl, SqL.of s9.1, hat, ?_⟩
        exact sM s9 (hrow v hv).1 (hrow v hv).2
      · rintro σ' H7 ⟨p, rfl, s7, p0, p1⟩
        refine ⟨M, ?_, ?_⟩
        · -- way == 2 and take(box, 5) > 0
          refine ⟨_, rfl, rfl, _, rfl, ?_⟩
          refine ite2 (fun _ => ?_) (fun _ => iteF (sM s7 p0 p1))
          refine ⟨_, rfl, b, l, 5, rfl, s7.2.1, by decide, by decide, fun c H8 c0 c1 k8 B8 => ?_⟩
          have s8 := sTake s7 k8 B8
          refine ⟨_, _, rfl, rfl, _, rfl, ?_⟩
          refine ite2 (fun _ => ?_) (fun _ => sM s8 p0 p1)
          refine ⟨_, rfl, _, rfl, _, _, rfl, rfl, pgs0.1, ?_⟩
          exact sM s8 (Int.emod_nonneg _ (by omega)) (Int.emod_lt_of_pos _ pgs0.1)
        · rintro σ' H7 ⟨p, rfl, s7, p0, p1⟩
          refine ⟨M, ?_, ?_⟩
          · -- way == 3 and found != [] and take(box, 3) > 0
            refine ⟨_, rfl, rfl, _, rfl, ?_⟩
            refine ite2 (fun _ => ?_) (fun _ => iteF (sM s7 p0 p1))
            refine ⟨_, rfl, szd rfl, fun e he => ?_⟩
            have s8 := sNew (o := .lst []) s7 he
            refine ⟨pd row, pd [], dp_il (SqL.of s8.1), dp_il (ns := []) (SqL.of upd_same), shaped_il _, shaped_il _, _, rfl, ?_⟩
            rw [eqv_il]
            by_cases hr0 : row = []
            · exact ifF (by simp [hr0]) (iteF (sM s8 p0 p1))
            refine ifT (by simp [hr0]) ?_
            refine ⟨_, rfl, b, l, 3, rfl, s8.2.1, by decide, by decide, fun c H9 c0 c1 k9 B9 => ?_⟩
            have s9 := sTake s8 k9 B9
            refine ⟨_, _, rfl, rfl, _, rfl, ?_⟩
            refine ite2 (fun _ => ?_) (fun _ => sM s9 p0 p1)
            obtain ⟨v, hv, hat⟩ := il_last hr0
            refine ⟨_, rfl, _, rfl, f, _, _, _, rfl, rfl, SqL.of s9.1, hat, _, _, rfl, rfl, _, rfl, b, l, 2, rfl, B9, by decide, by decide, fun u H10 u0 u1 k10 B10 => ?_⟩
            have s10 := sTake s9 k10 B10
            refine ⟨_, _, rfl, rfl, _, rfl, _, _, rfl, rfl, pgs0.1, ?_⟩
            exact sM s10 (Int.emod_nonneg _ (by omega)) (Int.emod_lt_of_pos _ pgs0.1)
          · -- found.append(page)
            rintro σ' H8 ⟨p, rfl, s8, p0, p1⟩
            refine ⟨_, rfl, .inl ⟨rfl, _, SqL.of s8.1⟩, _, rfl, f, _, _, rfl, rfl, s8.1, szl (by rw [il_len]; omega), ?_⟩
            refine ⟨row ++ [p], _, _, rfl, ?_, s8.2.1.but (S := [f]) (But.put (by simp)) (by simp [Ne.symm fb]) (by simp [Ne.symm fl]), ?_, by simp [hlen], ?_⟩
            · rw [upd_same, il_snoc]
            · intro c o hc hn
              rw [upd_ne (ne_fresh hc hfH)]
              exact s8.2.2 c o hc hn
            · intro x hx
              rcases List.mem_append.mp hx with hx | hx
              · exact hrow x hx
              · rw [List.mem_singleton.mp hx]
                exact ⟨p0, p1⟩
    · rintro σ H' ⟨row, v5, v6, rfl, hf', B', k', hlen, hrow⟩
      exact ⟨_, rfl, k row f H' hfH (fun p hp => by have := hrow p hp; omega) (by omega) k' hf' B'⟩
end
end CK

namespace CK
open PySem PySem.Spec PyProof.Rows L2
/-! ### two things that read as the same data are alike -/
mutual
/-- no list of it is longer than a thousand -/
def smallD : PyData → Prop
  | .list ds => ds.length ≤ 1000 ∧ smallAll ds
  | .tuple ds => ds.length ≤ 1000 ∧ smallAll ds
  | _ => True
def smallAll : List PyData → Prop
  | [] => True
  | d :: ds => smallD d ∧ smallAll ds
end
theorem small_at : ∀ {ds : List PyData} {i : Nat} {d : PyData}, smallAll ds → ds[i]? = some d → smallD d
  | [], _, _, _, h => by simp at h
  | a :: r, 0, d, s, h => by
    have e : a = d := Option.some.inj h
    rw [← e]
    exact s.1
  | a :: r, i + 1, d, s, h => small_at (ds := r) (i := i) s.2 h
def spAlike (K : PySem.W.Frag) (n : Nat) : Sp := fun vs H Q _ => ∃ (x y : V) (d : PyData), vs = [x, y] ∧ Dp K H x d ∧ Dp K H y d ∧ d.depth < n ∧ smallD d ∧ Q (.bl true) H
theorem dpAll_len {K : PySem.W.Frag} {H : Hp} : ∀ {xs : List V} {ds : List PyData}, DpAll K H xs ds → xs.length = ds.length
  | _, _, .nil => rfl
  | _, _, .cons _ t => congrArg Nat.succ (dpAll_len t)
theorem dpAll_at {K : PySem.W.Frag} {H : Hp} : ∀ {xs : List V} {ds : List PyData} {i : Nat}, DpAll K H xs ds → i < ds.length → ∃ x d, xs[i]? = some x ∧ ds[i]? = some d ∧ Dp K H x d
  | _, _, _, .nil, h => absurd h (Nat.not_lt_zero _)
  | x :: _, d :: _, 0, .cons a _, _ => ⟨x, d, rfl, rfl, a⟩
  | _ :: xs, _ :: ds, i + 1, .cons _ t, h => by
    obtain ⟨x, d, e1, e2, e3⟩ := dpAll_at (i := i) t (Nat.lt_of_succ_lt_succ h)
    exact ⟨x, d, e1, e2, e3⟩
theorem dep_at : ∀ {ds : List PyData} {i : Nat} {d : PyData}, ds[i]? = some d → d.depth ≤ PyData.depthAll ds
  | [], _, _, h => by simp at h
  | a :: r, 0, d, h => by
    have e : a = d := Option.some.inj h
    rw [← e]
    exact Nat.le_max_left _ _
  | a :: r, i + 1, d, h => Nat.le_trans (dep_at (ds := r) (i := i) h) (Nat.le_max_right _ _)
theorem ty_list {K : PySem.W.Frag} {H : Hp} {a : Addr} {xs : List V} (h : SqL K H a xs) : TyX K H (.ref a) (.type "list") := by
  rcases h with (h | ⟨o, h⟩) | ⟨o, its, n, hk, hc, _⟩
  · exact .base (.lst h)
  · exact .base (.frz h)
  · exact .kList hk hc
theorem ty_tup {K : PySem.W.Frag} {H : Hp} {a : Addr} {xs : List V} (h : SqT K H a xs) : TyX K H (.ref a) (.type "tuple") := by
  rcases h with (h | ⟨o, h⟩) | ⟨o, its, n, hk, hc, _⟩
  · exact .base (.tup h)
  · exact .fTuple h
  · exact .kTuple hk hc
section
variable {P : Program} {w : World} {K : PySem.W.Frag} {mg : Str → Option Value} {base : Heap}
theorem sc_law_alike : FnScope ["_law_found", "_law_due", "_law_k"] ["_law_found", "_law_due"] (defScope (top 20)) := ⟨rfl, rfl, rfl, by decide +kernel, rfl, by decide +kernel, by decide +kernel⟩
theorem ok_law_alike (T : Prog K mg) (n : Nat) (G_law_alike : FnOk P w K mg base CX0 n T.law_alike.f T.law_alike.fd ["_law_found", "_law_due"] (spAlike K n)) : FnOk P w K mg base CX0 (n + 1) T.law_alike.f T.law_alike.fd ["_law_found", "_law_due"] (spAlike K (n + 1)) := by
  refine T.law_alike.fn.ok sc_law_alike (fun vs H Q E h => ?len) (fun cdv A outer s H vs Q E hr h => ?body)
  case len =>
    obtain ⟨x, y, d, rfl, _⟩ := h
    rfl
  case body =>
    have hu := hu_of hr
    have hr_law_alike : Room n _ := hr
    obtain ⟨x, y, d, rfl, dx, dy, hn, hsm, k⟩ := h
    refine ⟨_, PSs.nox (pss_cons (ps_if (pt_cmpR op_isN (pv 1) pe_non (nomark _))
        (pss_one (ps_ret (pe_cmpR op_isN (pv 0) pe_non (nomark _))))
        pss_nil)
        (pss_cons (ps_if (pt_val (pe_callB call_isi (by rfl) T.isinstance (by decide +kernel) (pa_cons (pv 1) (pa_cons (pe_bltn (v := L2.V.ty "bool") (by rfl) T.bool_ (by decide +kernel) rfl) pa_nil))))
        (pss_one (ps_ret (pe_and (pe_callB call_isi (by rfl) T.isinstance (by decide +kernel) (pa_cons (pv 0) (pa_cons (pe_bltn (v := L2.V.ty "bool") (by rfl) T.bool_ (by decide +kernel) rfl) pa_nil))) (pe_one (pe_cmpR op_eq (pv 0) (pv 1) (nomark _))))))
        pss_nil)
        (pss_cons (ps_if (pt_val (pe_callB call_isi (by rfl) T.isinstance (by decide +kernel) (pa_cons (pv 1) (pa_cons (pe_bltn (v := L2.V.ty "int") (by rfl) T.int_ (by decide +kernel) rfl) pa_nil))))
        (pss_one (ps_ret (pe_and (pe_callB call_isi (by rfl) T.isinstance (by decide +kernel) (pa_cons (pv 0) (pa_cons (pe_bltn (v := L2.V.ty "int") (by rfl) T.int_ (by decide +kernel) rfl) pa_nil))) (pe_and (pe_not (pe_callB call_isi (by rfl) T.isinstance (by decide +kernel) (pa_cons (pv 0) (pa_cons (pe_bltn (v := L2.V.ty "bool") (by rfl) T.bool_ (by decide +kernel) rfl) pa_nil)))) (pe_one (pe_cmpR op_eq (pv 0) (pv 1) (nomark _)))))))
        pss_nil)
        (pss_cons (ps_if (pt_val (pe_callB call_isi (by rfl) T.isinstance (by decide +kernel) (pa_cons (pv 1) (pa_cons (pe_bltn (v := L2.V.ty "str") (by rfl) T.str_ (by decide +kernel) rfl) pa_nil))))
        (pss_one (ps_ret (pe_and (pe_callB call_isi (by rfl) T.isinstance (by decide +kernel) (pa_cons (pv 0) (pa_cons (pe_bltn (v := L2.V.ty "str") (by rfl) T.str_ (by decide +kernel) rfl) pa_nil))) (pe_one (pe_cmpR op_eq (pv 0) (pv 1) (nomark _))))))
        pss_nil)
        (pss_cons (ps_if (PW.pt (pw_or (pt_cmpR op_ne (pe_callB call_isi (by rfl) T.isinstance (by decide +kernel) (pa_cons (pv 1) (pa_cons (pe_bltn (v := L2.V.ty "tuple") (by rfl) T.tuple_ (by decide +kernel) rfl) pa_nil))) (pe_callB call_isi (by rfl) T.isinstance (by decide +kernel) (pa_cons (pv 0) (pa_cons (pe_bltn (v := L2.V.ty "tuple") (by rfl) T.tuple_ (by decide +kernel) rfl) pa_nil))) (nomark _)) (pw_or1 (pt_cmpR op_ne (pe_callB call_isi (by rfl) T.isinstance (by decide +kernel) (pa_cons (pv 1) (pa_cons (pe_bltn (v := L2.V.ty "list") (by rfl) T.list_ (by decide +kernel) rfl) pa_nil))) (pe_callB call_isi (by rfl) T.isinstance (by decide +kernel) (pa_cons (pv 0) (pa_cons (pe_bltn (v := L2.V.ty "list") (by rfl) T.list_ (by decide +kernel) rfl) pa_nil))) (nomark _)))))
        (pss_one (ps_ret pe_bl))
        pss_nil)
        (pss_cons (ps_if (pt_cmpR op_ne (pe_callB call_len_seq (by rfl) T.len PySem.boot_len (pa_cons (pv 0) pa_nil)) (pe_callB call_len_seq (by rfl) T.len PySem.boot_len (pa_cons (pv 1) pa_nil)) (nomark _))
        (pss_one (ps_ret pe_bl))
        pss_nil)
        (pss_cons (ps_for PassesOwn.never rfl (pi_range1 (by rfl) T.range (pa_cons (pe_callB call_len_seq (by rfl) T.len PySem.boot_len (pa_cons (pv 1) pa_nil)) pa_nil)) (pg_name (i := 2) sc_law_alike.nd rfl (Or.inl rfl))
        (pss_one (ps_if (pt_not (pt_val (pe_call G_law_alike hr_law_alike (by rfl) T.law_alike.g T.law_alike.fn.kp T.law_alike.bd .nil pass0 (pa_cons (pe_ix ix_seq (pv 0) (pv 2) (fun _ _ => rfl)) (pa_cons (pe_ix ix_seq (pv 1) (pv 2) (fun _ _ => rfl)) pa_nil)))))
        (pss_one (ps_ret pe_bl))
        pss_nil)))
        (pss_one (ps_ret pe_bl))))))))), ?_⟩
    refine ⟨_, rfl, rfl, _, rfl, ?_⟩
    cases dy with
    | non =>
      cases dx
      exact ifT rfl ⟨_, rfl, rfl, k⟩
    | bl c =>
      cases dx
      refine ifF rfl ⟨_, rfl, _, _, _, _, _, rfl, .ty _, .base (.bl _), kit_ty (by decide +kernel), _, rfl, iteT ?_⟩
      refine ⟨_, rfl, _, _, _, _, _, rfl, .ty _, .base (.bl _), kit_ty (by decide +kernel), _, rfl, iteT ?_⟩
      refine ⟨_, rfl, _, rfl, rfl, ?_⟩
      rw [decide_eq_true rfl]
      exact k
    | int i =>
      cases dx
      refine ifF rfl ⟨_, rfl, _, _, _, _, _, rfl, .ty _, .base (.int _), kit_ty (by decide +kernel), _, rfl, iteF ?_⟩
      refine ⟨_, rfl, _, _, _, _, _, rfl, .ty _, .base (.int _), kit_ty (by decide +kernel), _, rfl, iteT ?_⟩
      refine ⟨_, rfl, _, _, _, _, _, rfl, .ty _, .base (.int _), kit_ty (by decide +kernel), _, rfl, iteT ?_⟩
      refine ⟨_, rfl, _, _, _, _, _, rfl, .ty _, .base (.int _), kit_ty (r := false) (by decide +kernel), _, rfl, _, rfl, iteT ?_⟩
      refine ⟨_, rfl, _, rfl, rfl, ?_⟩
      rw [decide_eq_true rfl]
      exact k
    | str z =>
      cases dx
      refine ifF rfl ⟨_, rfl, _, _, _, _, _, rfl, .ty _, .base (.str _), kit_ty (by decide +kernel), _, rfl, iteF ?_⟩
      refine ⟨_, rfl, _, _, _, _, _, rfl, .ty _, .base (.str _), kit_ty (by decide +kernel), _, rfl, iteF ?_⟩
      refine ⟨_, rfl, _, _, _, _, _, rfl, .ty _, .base (.str _), kit_ty (by decide +kernel), _, rfl, iteT ?_⟩
      refine ⟨_, rfl, _, _, _, _, _, rfl, .ty _, .base (.str _), kit_ty (by decide +kernel), _, rfl, iteT ?_⟩
      refine ⟨_, rfl, _, rfl, rfl, ?_⟩
      rw [decide_eq_true rfl]
      exact k
    | @lst a xs ds ha hall =>
      cases dx with
      | @lst a' xs' _ ha' hall' =>
      refine ifF rfl ⟨_, rfl, _, _, _, _, _, rfl, .ty _, ty_list ha, kit_ty (by decide +kernel), _, rfl, iteF ?_⟩
      refine ⟨_, rfl, _, _, _, _, _, rfl, .ty _, ty_list ha, kit_ty (by decide +kernel), _, rfl, iteF ?_⟩
      refine ⟨_, rfl, _, _, _, _, _, rfl, .ty _, ty_list ha, kit_ty (by decide +kernel), _, rfl, iteF ?_⟩
      refine ⟨_, rfl, _, _, _, _, _, rfl, .ty _, ty_list ha, kit_ty (r := false) (by decide +kernel), _, rfl, _, _, _, _, _, rfl, .ty _, ty_list ha', kit_ty (r := false) (by decide +kernel), rfl, _, rfl, ?_⟩
      refine ifF rfl ⟨_, rfl, _, _, _, _, _, rfl, .ty _, ty_list ha, kit_ty (r := true) (by decide +kernel), _, rfl, _, _, _, _, _, rfl, .ty _, ty_list ha', kit_ty (r := true) (by decide +kernel), rfl, _, rfl, ?_⟩
      refine ifF rfl ?_
      have e1 := dpAll_len hall
      have e2 := dpAll_len hall'
      have hs1 : ds.length ≤ 1000 := hsm.1
      refine ⟨_, rfl, _, _, rfl, .inl ha', _, rfl, _, _, rfl, .inl ha, rfl, _, rfl, ?_⟩
      refine ifF (by rw [e1, e2]; simp) ?_
      refine ⟨_, rfl, _, _, rfl, .inl ha, _, rfl, by omega, by omega, ?_⟩
      refine for_range (lo := 0) (n := ((xs.length : Int)).toNat) (fun i σ H' => ∃ v, σ = [some (.ref a'), some (.ref a), v] ∧ H' = H) ⟨_, rfl, rfl⟩ ?_ ?_
      · rintro i σ H' hi ⟨v, rfl, rfl⟩
        have hi' : i < ds.length := by omega
        obtain ⟨x1, d1, f1, f2, f3⟩ := dpAll_at hall hi'
        obtain ⟨x2, d2, g1, g2, g3⟩ := dpAll_at hall' hi'
        have ed : d2 = d1 := Option.some.inj (g2.symm.trans f2)
        subst ed
        have hat1 : atI xs (0 + (i : Int)) = some x1 := by rw [Int.zero_add]; exact atI_nat f1
        have hat2 : atI xs' (0 + (i : Int)) = some x2 := by rw [Int.zero_add]; exact atI_nat g1
        have hdep : d2.depth < n := by
          have h1 := dep_at f2
          have h2 : PyData.depthAll ds + 1 < n + 1 := hn
          omega
        refine ⟨_, rfl, _, rfl, .inl ⟨_, _, _, _, rfl, rfl, ha', hat2, _, rfl, _, rfl, .inl ⟨_, _, _, _, rfl, rfl, ha, hat1, ?_⟩⟩⟩
        refine ⟨_, _, d2, rfl, g3, f3, hdep, small_at hsm.2 f2, _, rfl, ?_⟩
        exact iteF ⟨_, rfl, rfl⟩
      · rintro σ H' ⟨v, rfl, rfl⟩
        exact k
    | @tup a xs ds ha hall =>
      cases dx with
      | @tup a' xs' _ ha' hall' =>
      refine ifF rfl ⟨_, rfl, _, _, _, _, _, rfl, .ty _, ty_tup ha, kit_ty (by decide +kernel), _, rfl, iteF ?_⟩
      refine ⟨_, rfl, _, _, _, _, _, rfl, .ty _, ty_tup ha, kit_ty (by decide +kernel), _, rfl, iteF ?_⟩
      refine ⟨_, rfl, _, _, _, _, _, rfl, .ty _, ty_tup ha, kit_ty (by decide +kernel), _, rfl, iteF ?_⟩
      refine ⟨_, rfl, _, _, _, _, _, rfl, .ty _, ty_tup ha, kit_ty (r := true) (by decide +kernel), _, rfl, _, _, _, _, _, rfl, .ty _, ty_tup ha', kit_ty (r := true) (by decide +kernel), rfl, _, rfl, ?_⟩
      refine ifF rfl ⟨_, rfl, _, _, _, _, _, rfl, .ty _, ty_tup ha, kit_ty (r := false) (by decide +kernel), _, rfl, _, _, _, _, _, rfl, .ty _, ty_tup ha', kit_ty (r := false) (by decide +kernel), rfl, _, rfl, ?_⟩
      refine ifF rfl ?_
      have e1 := dpAll_len hall
      have e2 := dpAll_len hall'
      have hs1 : ds.length ≤ 1000 := hsm.1
      refine ⟨_, rfl, _, _, rfl, .inr ha', _, rfl, _, _, rfl, .inr ha, rfl, _, rfl, ?_⟩
      refine ifF (by rw [e1, e2]; simp) ?_
      refine ⟨_, rfl, _, _, rfl, .inr ha, _, rfl, by omega, by omega, ?_⟩
      refine for_range (lo := 0) (n := ((xs.length : Int)).toNat) (fun i σ H' => ∃ v, σ = [some (.ref a'), some (.ref a), v] ∧ H' = H) ⟨_, rfl, rfl⟩ ?_ ?_
      · rintro i σ H' hi ⟨v, rfl, rfl⟩
        have hi' : i < ds.length := by omega
        obtain ⟨x1, d1, f1, f2, f3⟩ := dpAll_at hall hi'
        obtain ⟨x2, d2, g1, g2, g3⟩ := dpAll_at hall' hi'
        have ed : d2 = d1 := Option.some.inj (g2.symm.trans f2)
        subst ed
        have hat1 : atI xs (0 + (i : Int)) = some x1 := by rw [Int.zero_add]; exact atI_nat f1
        have hat2 : atI xs' (0 + (i : Int)) = some x2 := by rw [Int.zero_add]; exact atI_nat g1
        have hdep : d2.depth < n := by
          have h1 := dep_at f2
          have h2 : PyData.depthAll ds + 1 < n + 1 := hn
          omega
        refine ⟨_, rfl, _, rfl, .inr (.inl ⟨_, _, _, _, rfl, rfl, ha', hat2, _, rfl, _, rfl, .inr (.inl ⟨_, _, _, _, rfl, rfl, ha, hat1, ?_⟩)⟩)⟩
        refine ⟨_, _, d2, rfl, g3, f3, hdep, small_at hsm.2 f2, _, rfl, ?_⟩
        exact iteF ⟨_, rfl, rfl⟩
      · rintro σ H' ⟨v, rfl, rfl⟩
        exact k
/-- so of any depth, by its levels -/
theorem ok_alike (T : Prog K mg) : ∀ n : Nat, FnOk P w K mg base CX0 n T.law_alike.f T.law_alike.fd ["_law_found", "_law_due"] (spAlike K n)
  | 0 => ⟨fun vs H Q E ⟨x, y, d, e, _⟩ => by rw [e]; rfl, fun A outer s H args us vs Q E _ _ _ _ ⟨x, y, d, _, _, _, h, _⟩ => absurd h (Nat.not_lt_zero _)⟩
  | n + 1 => ok_law_alike T n (ok_alike T n)
end
end CK

/-! The dial as plain data, and what an ask does to it. -/
namespace CK
structure DS where
  held : List (Option Int)
  marks : List Bool
  hand : Nat
  lacks : Nat
structure DS.WF (s : DS) (n : Nat) : Prop where
  h : s.held.length = n
  m : s.marks.length = n
  n : s.hand < n
def DS.new (n : Nat) : DS := ⟨List.replicate n none, List.replicate n false, 0, 0⟩
/-- the hand past the marked rooms: so many rounds at most -/
def passF : Nat → List Bool → Nat → List Bool × Nat × List Nat
  | 0, m, h => (m, h, [])
  | k + 1, m, h => if m[h]? = some true then
      let r := passF k (m.set h false) ((h + 1) % m.length)
      (r.1, r.2.1, h :: r.2.2)
    else (m, h, [])
def DS.pass (s : DS) : List Bool × Nat × List Nat := passF (s.marks.count true) s.marks s.hand
def DS.lack (s : DS) (p : Int) : DS :=
  ⟨s.held.set s.pass.2.1 (some p), s.pass.1.set s.pass.2.1 true, (s.pass.2.1 + 1) % s.held.length, s.lacks + 1⟩
def DS.hit (s : DS) (p : Int) : DS := { s with marks := s.marks.set (s.held.idxOf (some p)) true }
def DS.ask (s : DS) (p : Int) : DS := if some p ∈ s.held then s.hit p else s.lack p
/-- what an ask tells -/
def DS.tells (s : DS) (p : Int) : Bool × Option Int × List Nat :=
  if some p ∈ s.held then (false, none, []) else (true, (s.held[s.pass.2.1]?).getD none, s.pass.2.2)
def afterL (s : DS) (row : List Int) : DS := row.foldl DS.ask s
def tellsL : DS → List Int → List (Bool × Option Int × List Nat)
  | _, [] => []
  | s, p :: r => s.tells p :: tellsL (s.ask p) r
theorem afterL_snoc (s : DS) (xs : List Int) (p : Int) : afterL s (xs ++ [p]) = (afterL s xs).ask p := by
  unfold afterL
  rw [List.foldl_append]
  rfl
theorem tellsL_snoc : ∀ (s : DS) (xs : List Int) (p : Int), tellsL s (xs ++ [p]) = tellsL s xs ++ [(afterL s xs).tells p]
  | _, [], _ => rfl
  | s, x :: r, p => congrArg (s.tells x :: ·) (tellsL_snoc (s.ask x) r p)
theorem tellsL_len : ∀ (s : DS) (xs : List Int), (tellsL s xs).length = xs.length
  | _, [] => rfl
  | s, x :: r => congrArg Nat.succ (tellsL_len (s.ask x) r)
/-- the places of what is true -/
def placesT : Nat → List Bool → List Nat
  | _, [] => []
  | i, b :: r => if b = true then i :: placesT (i + 1) r else placesT (i + 1) r
theorem placesT_snoc : ∀ (i : Nat) (xs : List Bool) (b : Bool), placesT i (xs ++ [b]) = placesT i xs ++ (if b = true then [i + xs.length] else [])
  | i, [], b => by
    show (if b = true then i :: [] else []) = [] ++ _
    rfl
  | i, x :: r, b => by
    show (if x = true then i :: placesT (i + 1) (r ++ [b]) else placesT (i + 1) (r ++ [b])) = (if x = true then i :: placesT (i + 1) r else placesT (i + 1) r) ++ _
    rw [placesT_snoc (i + 1) r b]
    have e : i + 1 + r.length = i + (x :: r).length := by simp; omega
    rw [e]
    by_cases h : x = true
    · rw [if_pos h, if_pos h]; rfl
    · rw [if_neg h, if_neg h]
theorem placesT_le : ∀ (i : Nat) (xs : List Bool), (placesT i xs).length ≤ xs.length
  | _, [] => Nat.le_refl _
  | i, x :: r => by
    have q := placesT_le (i + 1) r
    unfold placesT
    split
    · simpa using q
    · simp; omega
/-- the line of the other rules -/
def lineStep (n : Nat) (re : Bool) (l : List Int) (p : Int) : List Int :=
  if p ∈ l then (if re = true then l.eraseIdx (l.idxOf p) ++ [p] else l) else (if l.length = n then l.eraseIdx 0 else l) ++ [p]
def lineAt (n : Nat) (re : Bool) (row : List Int) : List Int := row.foldl (lineStep n re) []
def lineL (n : Nat) (re : Bool) : List Int → List Int → List Bool
  | _, [] => []
  | l, p :: r => (!decide (p ∈ l)) :: lineL n re (lineStep n re l p) r
theorem lineAt_snoc (n : Nat) (re : Bool) (xs : List Int) (p : Int) : lineAt n re (xs ++ [p]) = lineStep n re (lineAt n re xs) p := by
  unfold lineAt
  rw [List.foldl_append]
  rfl
theorem lineL_snoc : ∀ (n : Nat) (re : Bool) (l xs : List Int) (p : Int), lineL n re l (xs ++ [p]) = lineL n re l xs ++ [!decide (p ∈ xs.foldl (lineStep n re) l)]
  | _, _, _, [], _ => rfl
  | n, re, l, x :: r, p => congrArg (_ :: ·) (lineL_snoc n re (lineStep n re l x) r p)
theorem lineL_len : ∀ (n : Nat) (re : Bool) (l xs : List Int), (lineL n re l xs).length = xs.length
  | _, _, _, [] => rfl
  | n, re, l, x :: r => congrArg Nat.succ (lineL_len n re (lineStep n re l x) r)
structure LineOk (n : Nat) (l : List Int) : Prop where
  nd : l.Nodup
  le : l.length ≤ n
theorem erase_line {l : List Int} (nd : l.Nodup) (p : Int) : l.eraseIdx (l.idxOf p) = l.filter (· != p) := by
  rw [← List.erase_eq_eraseIdx_of_idxOf (a := p) (l := l) (i := l.idxOf p) rfl]
  exact nd.erase_eq_filter p
theorem line_ok {n : Nat} {re : Bool} {l : List Int} {p : Int} (h : LineOk n l) (hn : 0 < n) : LineOk n (lineStep n re l p) := by
  unfold lineStep
  split
  · rename_i hp
    split
    · have hlt := List.idxOf_lt_length_of_mem hp
      have e := erase_line h.nd p
      refine ⟨?_, ?_⟩
      · rw [e]
        rw [List.nodup_append]
        refine ⟨h.nd.filter _, by simp, fun a ha b hb => ?_⟩
        have hb' : b = p := by simpa using hb
        have ha' : a ≠ p := by
          have := (List.mem_filter.mp ha).2
          simpa using this
        rw [hb']
        exact ha'
      · rw [List.length_append, List.length_eraseIdx_of_lt hlt]
        have := h.le
        simp
        omega
    · exact h
  · rename_i hp
    split
    · rename_i hl
      refine ⟨?_, ?_⟩
      · rw [List.nodup_append]
        refine ⟨h.nd.sublist (List.eraseIdx_sublist _ _), by simp, fun a ha b hb => ?_⟩
        have hb' : b = p := by simpa using hb
        intro z
        rw [z, hb'] at ha
        exact hp ((List.eraseIdx_sublist l 0).subset ha)
      · rw [List.length_append, List.length_eraseIdx_of_lt (by omega)]
        have := h.le
        simp
        omega
    · refine ⟨?_, ?_⟩
      · rw [List.nodup_append]
        refine ⟨h.nd, by simp, fun a ha b hb => ?_⟩
        have hb' : b = p := by simpa using hb
        intro z
        rw [z, hb'] at ha
        exact hp ha
      · rw [List.length_append]
        have := h.le
        simp
        omega
theorem lineAt_ok {n : Nat} {re : Bool} (hn : 0 < n) (row : List Int) : LineOk n (lineAt n re row) := by
  have q : ∀ (row l : List Int), LineOk n l → LineOk n (row.foldl (lineStep n re) l) := by
    intro row
    induction row with
    | nil => exact fun l h => h
    | cons p r ih => exact fun l h => ih _ (line_ok h hn)
  exact q row [] ⟨by simp, by simp⟩
/-- the lacks by a rule: which asks, their places -/
inductive Rl where
  | hand | unseen | first
def Rl.s : Rl → PySem.Str
  | .hand => "hand"
  | .unseen => "unseen"
  | .first => "first"
def lackB (n : Nat) : Rl → List Int → List Bool
  | .hand, row => (tellsL (DS.new n) row).map (·.1)
  | .unseen, row => lineL n true [] row
  | .first, row => lineL n false [] row
def lacksR (n : Nat) (rule : Rl) (row : List Int) : List Nat := placesT 0 (lackB n rule row)
/-- what the law's own going keeps by a rule -/
def keptR (n : Nat) : Rl → List Int → List Int
  | .hand, _ => []
  | .unseen, row => lineAt n true row
  | .first, row => lineAt n false row
def dialR (n : Nat) : Rl → List Int → DS
  | .hand, row => afterL (DS.new n) row
  | _, _ => DS.new n
def lackR (n : Nat) (rule : Rl) (row : List Int) (p : Int) : Bool := match rule with
  | .hand => ((afterL (DS.new n) row).tells p).1
  | _ => !decide (p ∈ keptR n rule row)
theorem lackB_snoc (n : Nat) (rule : Rl) (row : List Int) (p : Int) : lackB n rule (row ++ [p]) = lackB n rule row ++ [lackR n rule row p] := by
  cases rule
  · show (tellsL (DS.new n) (row ++ [p])).map (·.1) = _
    rw [tellsL_snoc, List.map_append]
    rfl
  · exact lineL_snoc n true [] row p
  · exact lineL_snoc n false [] row p
theorem lackB_len (n : Nat) (rule : Rl) (row : List Int) : (lackB n rule row).length = row.length := by
  cases rule
  · show ((tellsL (DS.new n) row).map (·.1)).length = _
    rw [List.length_map, tellsL_len]
  · exact lineL_len _ _ _ _
  · exact lineL_len _ _ _ _
theorem lacksR_le (n : Nat) (rule : Rl) (row : List Int) : (lacksR n rule row).length ≤ row.length := by
  have q := placesT_le 0 (lackB n rule row)
  rw [lackB_len] at q
  exact q
theorem count_set {m : List Bool} {h : Nat} (e : m[h]? = some true) : (m.set h false).count true + 1 = m.count true := by
  induction m generalizing h with
  | nil => simp at e
  | cons a r ih =>
    cases h with
    | zero =>
      have ea : a = true := Option.some.inj e
      subst ea
      simp
    | succ h =>
      have e' : r[h]? = some true := e
      have q := ih e'
      simp only [List.set_cons_succ, List.count_cons]
      omega
theorem count_pos {m : List Bool} {h : Nat} (e : m[h]? = some true) : 0 < m.count true := by
  have := count_set e
  omega
theorem passF_len : ∀ (k : Nat) (m : List Bool) (h : Nat), (passF k m h).1.length = m.length
  | 0, _, _ => rfl
  | k + 1, m, h => by
    unfold passF
    split
    · have q := passF_len k (m.set h false) ((h + 1) % m.length)
      rw [List.length_set] at q
      exact q
    · rfl
theorem passF_lt : ∀ (k : Nat) (m : List Bool) (h : Nat), h < m.length → (passF k m h).2.1 < m.length
  | 0, _, _, l => l
  | k + 1, m, h, l => by
    unfold passF
    split
    · have q := passF_lt k (m.set h false) ((h + 1) % m.length) (by rw [List.length_set]; exact Nat.mod_lt _ (by omega))
      rw [List.length_set] at q
      exact q
    · exact l
/-- the loop's own word: from (m, h), with l passed so far, the end is e -/
structure PassInv (e : List Bool × Nat × List Nat) (m : List Bool) (h : Nat) (l : List Nat) : Prop where
  a : (passF (m.count true) m h).1 = e.1
  b : (passF (m.count true) m h).2.1 = e.2.1
  c : l ++ (passF (m.count true) m h).2.2 = e.2.2
theorem PassInv.start (m : List Bool) (h : Nat) : PassInv (passF (m.count true) m h) m h [] := ⟨rfl, rfl, rfl⟩
theorem passF_step {m : List Bool} {h : Nat} (e : m[h]? = some true) : passF (m.count true) m h =
    ((passF ((m.set h false).count true) (m.set h false) ((h + 1) % m.length)).1, (passF ((m.set h false).count true) (m.set h false) ((h + 1) % m.length)).2.1, h :: (passF ((m.set h false).count true) (m.set h false) ((h + 1) % m.length)).2.2) := by
  rw [← count_set e]
  show (if m[h]? = some true then _ else _) = _
  rw [if_pos e]
theorem passF_stop {m : List Bool} {h k : Nat} (e : m[h]? = some false) : passF k m h = (m, h, []) := by
  cases k with
  | zero => rfl
  | succ k =>
    show (if m[h]? = some true then _ else _) = _
    rw [if_neg (by rw [e]; simp)]
theorem PassInv.go {e : List Bool × Nat × List Nat} {m : List Bool} {h : Nat} {l : List Nat} (I : PassInv e m h l) (t : m[h]? = some true) : PassInv e (m.set h false) ((h + 1) % m.length) (l ++ [h]) := by
  obtain ⟨a, b, c⟩ := I
  rw [passF_step t] at a b c
  refine ⟨a, b, ?_⟩
  rw [← c, List.append_assoc]
  rfl
theorem PassInv.end {e : List Bool × Nat × List Nat} {m : List Bool} {h : Nat} {l : List Nat} (I : PassInv e m h l) (t : m[h]? = some false) : e = (m, h, l) := by
  obtain ⟨a, b, c⟩ := I
  rw [passF_stop t] at a b c
  obtain ⟨x, y, z⟩ := e
  simp only [List.append_nil] at a b c
  rw [a, b, c]
theorem DS.WF.pos {s : DS} {n : Nat} (w : s.WF n) : 0 < n := Nat.lt_of_le_of_lt (Nat.zero_le _) w.n
theorem DS.WF.passlt {s : DS} {n : Nat} (w : s.WF n) : s.pass.2.1 < n := by
  have q := passF_lt (s.marks.count true) s.marks s.hand (by rw [w.m]; exact w.n)
  rw [w.m] at q
  exact q
theorem DS.WF.passm {s : DS} {n : Nat} (w : s.WF n) : s.pass.1.length = n := by
  have q := passF_len (s.marks.count true) s.marks s.hand
  rw [w.m] at q
  exact q
theorem DS.new_wf {n : Nat} (h : 0 < n) : (DS.new n).WF n := ⟨List.length_replicate, List.length_replicate, h⟩
theorem DS.lack_wf {s : DS} {n : Nat} {p : Int} (w : s.WF n) : (s.lack p).WF n := by
  refine ⟨?_, ?_, ?_⟩
  · show (s.held.set _ _).length = n
    rw [List.length_set]; exact w.h
  · show (s.pass.1.set _ _).length = n
    rw [List.length_set]; exact w.passm
  · show (s.pass.2.1 + 1) % s.held.length < n
    rw [w.h]; exact Nat.mod_lt _ w.pos
theorem DS.hit_wf {s : DS} {n : Nat} {p : Int} (w : s.WF n) : (s.hit p).WF n :=
  ⟨w.h, by show (s.marks.set _ _).length = n; rw [List.length_set]; exact w.m, w.n⟩
theorem DS.ask_wf {s : DS} {n : Nat} {p : Int} (w : s.WF n) : (s.ask p).WF n := by
  unfold DS.ask
  split
  · exact hit_wf w
  · exact lack_wf w
theorem afterL_wf {s : DS} {n : Nat} (w : s.WF n) : ∀ row : List Int, (afterL s row).WF n := by
  intro row
  induction row generalizing s with
  | nil => exact w
  | cons p r ih => exact ih (DS.ask_wf w)
/-- the first place of a thing -/
theorem idx_at {α : Type} [BEq α] [LawfulBEq α] {l : List α} {x : α} (h : x ∈ l) : l[l.idxOf x]? = some x := by
  have q := List.idxOf_lt_length_of_mem h
  rw [List.getElem?_eq_getElem q]
  exact congrArg some (List.getElem_idxOf q)
theorem idx_no {α : Type} [BEq α] [LawfulBEq α] : ∀ {l : List α} {x y : α} {m : Nat}, m < l.idxOf x → l[m]? = some y → ¬ y = x
  | [], _, _, _, h, _ => by simp at h
  | a :: r, x, y, m, h, e => by
    intro q
    subst q
    by_cases ha : a = y
    · subst ha
      simp [List.idxOf_cons] at h
    · have hb : (a == y) = false := by simpa using ha
      rw [List.idxOf_cons, hb] at h
      cases m with
      | zero => exact ha (Option.some.inj e)
      | succ m => exact idx_no (l := r) (m := m) (by simpa using h) e rfl
theorem take_snoc {α : Type} {l : List α} {i : Nat} {x : α} (h : l[i]? = some x) : l.take (i + 1) = l.take i ++ [x] := by
  rw [List.take_add_one, h]
  rfl
/-! ### as values -/
open PySem L2
def pgV : Option Int → V
  | none => .non
  | some p => .int p
abbrev HL (l : List (Option Int)) : List V := l.map pgV
abbrev BL (l : List Bool) : List V := l.map V.bl
theorem flat_hl (l : List (Option Int)) : (HL l).all flatV = true := by
  rw [List.all_eq_true]
  intro x hx
  obtain ⟨n, _, rfl⟩ := List.mem_map.mp hx
  cases n <;> rfl
theorem eqV_pg (a : Option Int) (p : Int) : eqV (pgV a) (.int p) = decide (a = some p) := by
  cases a with
  | none => rfl
  | some n =>
    show (n == p) = _
    by_cases h : n = p <;> simp [h]
theorem inV_hl (p : Int) (l : List (Option Int)) : inV (V.int p) (HL l) = decide (some p ∈ l) := by
  induction l with
  | nil => rfl
  | cons a r ih =>
    show (eqV (pgV a) (V.int p) || inV (V.int p) (HL r)) = _
    rw [ih, eqV_pg]
    by_cases h : a = some p
    · simp [h]
    · have h2 : ¬ some p = a := fun z => h z.symm
      simp [h, h2]
theorem hl_set {l : List (Option Int)} {j : Nat} {p : Int} : (HL l).set j (V.int p) = HL (l.set j (some p)) := by
  show (l.map pgV).set j (pgV (some p)) = (l.set j (some p)).map pgV
  rw [List.map_set]
theorem bl_set {l : List Bool} {j : Nat} {b : Bool} : (BL l).set j (V.bl b) = BL (l.set j b) := by
  show (l.map V.bl).set j (V.bl b) = (l.set j b).map V.bl
  rw [List.map_set]
theorem bl_at {l : List Bool} {j : Nat} {b : Bool} (h : l[j]? = some b) : (BL l)[j]? = some (V.bl b) := by
  rw [List.getElem?_map, h]
  rfl
theorem hl_at {l : List (Option Int)} {j : Nat} {b : Option Int} (h : l[j]? = some b) : (HL l)[j]? = some (pgV b) := by
  rw [List.getElem?_map, h]
  rfl
abbrev NL (l : List Nat) : List V := l.map fun n : Nat => V.int (n : Int)
/-- rReps: n times one thing -/
theorem rep_one {x : V} {n : Nat} : (List.replicate n [x]).flatten = List.replicate n x := by
  induction n with
  | zero => rfl
  | succ n ih =>
    rw [List.replicate_succ, List.flatten_cons, ih, List.replicate_succ]
    rfl
theorem hl_new (n : Nat) : HL (DS.new n).held = List.replicate n .non := by
  show (List.replicate n none).map pgV = _
  rw [List.map_replicate]
  rfl
theorem bl_new (n : Nat) : BL (DS.new n).marks = List.replicate n (.bl false) := by
  show (List.replicate n false).map V.bl = _
  rw [List.map_replicate]
end CK

/-! The program's checks. -/
namespace CK
open PySem PySem.Spec PyProof.Rows L2
theorem NL_snoc {ns : List Nat} {n : Nat} : NL ns ++ [V.int (n : Int)] = NL (ns ++ [n]) := by
  show ns.map _ ++ _ = (ns ++ [n]).map _
  rw [List.map_append]
  rfl
theorem NL_il (ns : List Nat) : NL ns = il (ns.map fun n : Nat => (n : Int)) := by
  show ns.map _ = (ns.map _).map V.int
  rw [List.map_map]
  rfl
theorem NL_at {ns : List Nat} {j : Nat} {y : V} (h : (NL ns)[j]? = some y) : ∃ n, ns[j]? = some n ∧ y = V.int (n : Int) := by
  rw [List.getElem?_map] at h
  cases e : ns[j]? with
  | none => rw [e] at h; cases h
  | some n => rw [e] at h; exact ⟨n, rfl, (Option.some.inj h).symm⟩
abbrev rLenQ (K : PySem.W.Frag) : List V → Hp → VK → Prop := fun xs H Q => ∃ p ys, xs = [.ref p] ∧ (SqL K H p ys ∨ SqT K H p ys) ∧ Q (.int ys.length) H
/-! ### places in the text -/
def sub (s : Stmt) (i : Nat) : Stmt := match s with
  | .FunctionDef _ _ b _ _ _ _ _ _ _ => b.getD i (.Pass ⟨0, 0, 0, 0⟩)
  | .For _ _ b _ _ => b.getD i (.Pass ⟨0, 0, 0, 0⟩)
  | .While _ b _ _ => b.getD i (.Pass ⟨0, 0, 0, 0⟩)
  | .If _ b o _ => (b ++ o).getD i (.Pass ⟨0, 0, 0, 0⟩)
  | s => s
def valE : Stmt → Expr
  | .Return (some e) _ => e
  | .Assign _ e _ => e
  | .Expr e _ => e
  | _ => .Name "" ⟨0, 0, 0, 0⟩
def lcSc : Expr → Scope
  | .ListComp _ _ sc _ => sc
  | _ => { kind := .function, names := [], isGenerator := false, isCoroutine := false }
theorem BoxAt.off {H : Hp} {b l c : Addr} (B : BoxAt H b l) (h : H c = none) : c ∉ [b, l] := by
  obtain ⟨_, _, q1, q2, _⟩ := B.ex
  have z1 := ne_fresh q1 h
  have z2 := ne_fresh q2 h
  simp [Ne.symm z1, Ne.symm z2]
theorem BoxAt.notup {H : Hp} {b l : Addr} (B : BoxAt H b l) : ∀ d ∈ [b, l], ∀ u, H d ≠ some (.tup u) := by
  obtain ⟨_, _, q1, q2, _⟩ := B.ex
  intro d hd u z
  rcases List.mem_cons.mp hd with e | e
  · rw [e, q1] at z; cases z
  · rw [List.mem_singleton.mp e, q2] at z; cases z
def spCheckRooms : Sp := fun vs H Q _ => ∃ n : Int, vs = [.int n] ∧ 1 ≤ n ∧ n ≤ 8 ∧ Q .non H
def spIsPage : Sp := fun vs H Q _ => ∃ p : Int, vs = [.int p] ∧ Q (.bl (decide (0 ≤ p ∧ p < 12))) H
/-- a row as it may be handed in -/
def RowOk (row : List Int) : Prop := row.length ≤ 100 ∧ ∀ p ∈ row, 0 ≤ p ∧ p < 12
def spCheckRow (K : PySem.W.Frag) : Sp := fun vs H Q _ => ∃ (r : Addr) (row : List Int), vs = [.ref r] ∧ SqL K H r (il row) ∧ RowOk row ∧ ∀ H', Same H H' → Q .non H'
def spLaw (K : PySem.W.Frag) : Sp := fun vs H Q _ => ∃ (a : Addr) (ns : List Int), vs = [.ref a] ∧ SqL K H a (il ns) ∧ ns.length ≤ 63 ∧ ∀ H', Q (.bl true) H'
theorem depth_pd (a : List Int) : (pd a).depth = 1 := by
  show PyData.depthAll _ + 1 = 1
  rw [dep_il]
theorem small_ints : ∀ a : List Int, smallAll (a.map PyData.int)
  | [] => trivial
  | _ :: r => ⟨trivial, small_ints r⟩
theorem small_pd {a : List Int} (h : a.length ≤ 1000) : smallD (pd a) := ⟨by rw [List.length_map]; exact h, small_ints a⟩
section
variable {P : Program} {w : World} {K : PySem.W.Frag} {mg : Str → Option Value} {base : Heap}
theorem sc_check_rooms : FnScope ["rooms"] ["rooms"] (defScope (top 8)) := ⟨rfl, rfl, rfl, by decide +kernel, rfl, by decide +kernel, by decide +kernel⟩
theorem ok_check_rooms (T : Prog K mg) : FnOk P w K mg base CX0 1 T.check_rooms.f T.check_rooms.fd ["rooms"] spCheckRooms := by
  refine T.check_rooms.fn.ok sc_check_rooms (fun vs H Q E h => ?len) (fun cdv A outer s H vs Q E hr h => ?body)
  case len =>
    obtain ⟨n, rfl, _⟩ := h
    rfl
  case body =>
    have hu := hu_of hr
    obtain ⟨n, rfl, n1, n8, k⟩ := h
    refine ⟨_, PSs.nox (pss_one (ps_if (pt_not (pt_chain op_le op_le pe_int (pv 0) (pe_glob (v := L2.V.int 8) rfl T.g_MOST_ROOMS ⟨_, rfl⟩)))
        (pss_one ps_never)
        pss_nil)), ?_⟩
    refine ⟨_, rfl, _, _, rfl, rfl, _, rfl, ifT (decide_eq_true n1) ⟨_, _, rfl, rfl, _, rfl, ?_⟩⟩
    exact ifF (by rw [decide_eq_true n8]; rfl) k
theorem sc_is_page : FnScope ["page"] ["page"] (defScope (top 9)) := ⟨rfl, rfl, rfl, by decide +kernel, rfl, by decide +kernel, by decide +kernel⟩
theorem ok_is_page (T : Prog K mg) : FnOk P w K mg base CX0 1 T.is_page.f T.is_page.fd ["page"] spIsPage := by
  refine T.is_page.fn.ok sc_is_page (fun vs H Q E h => ?len) (fun cdv A outer s H vs Q E hr h => ?body)
  case len =>
    obtain ⟨n, rfl, _⟩ := h
    rfl
  case body =>
    have hu := hu_of hr
    obtain ⟨p, rfl, k⟩ := h
    refine ⟨_, PSs.nox (pss_one (ps_ret (pe_chain op_le op_lt pe_int (pv 0) (pe_glob (v := L2.V.int 12) rfl T.g_PAGES ⟨_, rfl⟩)))), ?_⟩
    refine ⟨_, rfl, _, _, rfl, rfl, _, rfl, ?_⟩
    by_cases h0 : 0 ≤ p
    · refine ifT (decide_eq_true h0) ⟨_, _, rfl, rfl, ?_⟩
      have e : decide (p < 12) = decide (0 ≤ p ∧ p < 12) := by simp [h0]
      rw [← e] at k
      exact k
    · refine ifF (decide_eq_false h0) ?_
      have e : false = decide (0 ≤ p ∧ p < 12) := by simp [h0]
      rw [← e] at k
      exact k
theorem sc_check_row : FnScope ["row", "place", "page"] ["row"] (defScope (top 10)) := ⟨rfl, rfl, rfl, by decide +kernel, rfl, by decide +kernel, by decide +kernel⟩
theorem ok_check_row (T : Prog K mg) : FnOk P w K mg base CX0 2 T.check_row.f T.check_row.fd ["row"] (spCheckRow K) := by
  have G_is_page := ok_is_page (P := P) (w := w) (base := base) T
  refine T.check_row.fn.ok sc_check_row (fun vs H Q E h => ?len) (fun cdv A outer s H vs Q E hr h => ?body)
  case len =>
    obtain ⟨r, row, rfl, _⟩ := h
    rfl
  case body =>
    have hr_is_page : Room 1 _ := hr.mono (by decide)
    have hu := hu_of hr
    obtain ⟨r, row, rfl, hS, hR, k⟩ := h
    refine ⟨_, PSs.nox (pss_one (ps_for PassesOwn.never rfl (pi_enum (by rfl) T.enumerate (pa_cons (pv 0) pa_nil)) (pg_tup rfl (pgs_cons (pg_name (i := 1) sc_check_row.nd rfl (Or.inl rfl)) (pgs_cons (pg_name (i := 2) sc_check_row.nd rfl (Or.inl rfl)) pgs_nil)))
        (pss_one (ps_if (PW.pt (pw_or (pt_cmpR op_eq (pv 1) (pe_glob (v := L2.V.int 100) rfl T.g_MOST_ASKS ⟨_, rfl⟩) (nomark _)) (pw_or1 (pt_not (pt_val (pe_call G_is_page hr_is_page (by rfl) T.is_page.g T.is_page.fn.kp T.is_page.bd .nil pass0 (pa_cons (pv 2) pa_nil)))))))
        (pss_one ps_never)
        pss_nil)))), ?_⟩
    refine ⟨_, rfl, r, _, rfl, hS, for_it (walk_enum (K := K) (a := r) (xs := il row)) (fun i σ H' => (∃ v1 v2, σ = [some (.ref r), v1, v2]) ∧ Same H H') ⟨⟨_, _, rfl⟩, Same.refl H⟩ (fun i σ H' _ h => h.2.seq hS) ?_ ?_⟩
    · rintro i x σ H1 H2 hi ⟨⟨v1, v2, rfl⟩, s1⟩ ⟨t, a, b, rfl, ht, rfl, ha, hb⟩
      have ea : V.int (i : Nat) = a := Option.some.inj ha
      subst ea
      obtain ⟨p, hp, rfl⟩ := il_get hb
      have hpg := hR.2 p (List.mem_of_getElem? hp)
      rw [il_len] at hi
      have hlen := hR.1
      refine ⟨t, _, rfl, SqT.of upd_same, rfl, _, _, rfl, _, _, rfl, rfl, ?_⟩
      refine ⟨_, rfl, rfl, _, rfl, ifF (decide_eq_false (by intro z; injection z with z; omega)) ?_⟩
      refine ⟨_, rfl, p, rfl, _, rfl, ifF (by rw [decide_eq_true hpg]; rfl) ?_⟩
      exact ⟨⟨_, _, rfl⟩, s1.trans (Same.new ht)⟩
    · rintro σ H' ⟨⟨v1, v2, rfl⟩, s1⟩
      exact k H' s1
end
end CK

/-! Spells as plain data. -/
namespace CK
open PySem PySem.Spec PyProof.Rows L2
/-- where p was asked for last, ahead of i -/
def lastB (row : List Int) (p : Int) : Nat → Option Nat
  | 0 => none
  | i + 1 => if row[i]? = some p then some i else lastB row p i
theorem lastB_lt {row : List Int} {p : Int} : ∀ {i b : Nat}, lastB row p i = some b → b < i ∧ row[b]? = some p
  | 0, b, h => by cases h
  | i + 1, b, h => by
    unfold lastB at h
    by_cases q : row[i]? = some p
    · rw [if_pos q] at h
      have e := Option.some.inj h
      subst e
      exact ⟨Nat.lt_succ_self _, q⟩
    · rw [if_neg q] at h
      have ⟨z1, z2⟩ := lastB_lt h
      exact ⟨Nat.lt_succ_of_lt z1, z2⟩
def spOf : Option Nat → Nat → List (Nat × Nat)
  | some b, i => [(b, i)]
  | none, _ => []
/-- the spell that ends at i -/
def spellAt (row : List Int) (i : Nat) : List (Nat × Nat) :=
  match row[i]? with
  | some p => spOf (lastB row p i) i
  | none => []
theorem spellAt_eq {row : List Int} {i : Nat} {p : Int} (hp : row[i]? = some p) : spellAt row i = spOf (lastB row p i) i := by
  unfold spellAt
  rw [hp]
def spellsTo (row : List Int) : Nat → List (Nat × Nat)
  | 0 => []
  | i + 1 => spellsTo row i ++ spellAt row i
def spellsL (row : List Int) : List (Nat × Nat) := spellsTo row row.length
theorem spellAt_one (row : List Int) (i : Nat) : (spellAt row i).length ≤ 1 := by
  cases hp : row[i]? with
  | none => unfold spellAt; rw [hp]; exact Nat.zero_le _
  | some p =>
    rw [spellAt_eq hp]
    cases lastB row p i with
    | none => exact Nat.zero_le _
    | some b => exact Nat.le_refl _
theorem spellsTo_le (row : List Int) : ∀ i, (spellsTo row i).length ≤ i
  | 0 => Nat.le_refl _
  | i + 1 => by
    have h1 := spellsTo_le row i
    have h2 := spellAt_one row i
    show (spellsTo row i ++ spellAt row i).length ≤ i + 1
    rw [List.length_append]
    omega
theorem spellsL_le (row : List Int) : (spellsL row).length ≤ row.length := spellsTo_le row _
theorem spellAt_lt {row : List Int} {i : Nat} {x : Nat × Nat} (h : x ∈ spellAt row i) : x.1 < x.2 ∧ x.2 = i := by
  cases hp : row[i]? with
  | none => unfold spellAt at h; rw [hp] at h; simp at h
  | some p =>
    rw [spellAt_eq hp] at h
    cases hb : lastB row p i with
    | none => rw [hb] at h; simp [spOf] at h
    | some b =>
      rw [hb] at h
      have e : x = (b, i) := by simpa [spOf] using h
      rw [e]
      exact ⟨(lastB_lt hb).1, rfl⟩
/-! ### lists of pairs -/
/-- the tuples at as are the pairs xs -/
structure PairsAt (H : Hp) (as : List Addr) (xs : List (Nat × Nat)) : Prop where
  len : as.length = xs.length
  at_ : ∀ (i : Nat) (a : Addr) (x : Nat × Nat), as[i]? = some a → xs[i]? = some x → H a = some (.tup [.int (x.1 : Nat), .int (x.2 : Nat)])
theorem PairsAt.nil {H : Hp} : PairsAt H [] [] := ⟨rfl, fun i a x h => by simp at h⟩
theorem PairsAt.mem {H : Hp} {as : List Addr} {xs : List (Nat × Nat)} (h : PairsAt H as xs) {a : Addr} (ha : a ∈ as) : ∃ u, H a = some (.tup u) := by
  obtain ⟨i, hi, e⟩ := List.mem_iff_getElem.mp ha
  have hx : i < xs.length := by rw [← h.len]; exact hi
  exact ⟨_, h.at_ i a _ (by rw [List.getElem?_eq_getElem hi, e]) (List.getElem?_eq_getElem hx)⟩
theorem PairsAt.same {H H' : Hp} {as : List Addr} {xs : List (Nat × Nat)} (h : PairsAt H as xs) (k : Same H H') : PairsAt H' as xs :=
  ⟨h.len, fun i a x ha hx => k _ _ (h.at_ i a x ha hx)⟩
/-- a list that is written is none of the tuples -/
theorem PairsAt.put {H : Hp} {as : List Addr} {xs : List (Nat × Nat)} (h : PairsAt H as xs) {d : Addr} {o o' : HO} (e : H d = some o) (ne : ∀ u, o ≠ .tup u) : PairsAt (upd H d o') as xs :=
  ⟨h.len, fun i a x ha hx => by
    have q := h.at_ i a x ha hx
    rw [upd_ne (ne_of q e fun z => ne _ z.symm)]
    exact q⟩
theorem PairsAt.but {S : List Addr} {H H' : Hp} {as : List Addr} {xs : List (Nat × Nat)} (h : PairsAt H as xs) (k : But S H H') (n : ∀ d ∈ S, ∀ u, H d ≠ some (.tup u)) : PairsAt H' as xs :=
  ⟨h.len, fun i a x ha hx => by
    have q := h.at_ i a x ha hx
    exact k _ _ q fun z => n _ z _ q⟩
theorem PairsAt.snoc {H : Hp} {as : List Addr} {xs : List (Nat × Nat)} (h : PairsAt H as xs) {t : Addr} {x : Nat × Nat} (e : H t = some (.tup [.int (x.1 : Nat), .int (x.2 : Nat)])) : PairsAt H (as ++ [t]) (xs ++ [x]) := by
  refine ⟨by simp [h.len], fun j c y hc hy => ?_⟩
  by_cases hj : j < as.length
  · rw [List.getElem?_append_left hj] at hc
    rw [List.getElem?_append_left (by rw [← h.len]; exact hj)] at hy
    exact h.at_ j c y hc hy
  · have ej : j = as.length := by
      have := (List.getElem?_eq_some_iff.mp hc).1
      simp at this
      omega
    subst ej
    rw [List.getElem?_append_right (Nat.le_refl _), Nat.sub_self] at hc
    rw [List.getElem?_append_right (by rw [h.len]; exact Nat.le_refl _), h.len, Nat.sub_self] at hy
    have ec : t = c := Option.some.inj hc
    have ex : x = y := Option.some.inj hy
    rw [← ec, ← ex]
    exact e
theorem PairsAt.tail {H : Hp} {a : Addr} {x : Nat × Nat} {as : List Addr} {xs : List (Nat × Nat)} (h : PairsAt H (a :: as) (x :: xs)) : H a = some (.tup [.int (x.1 : Nat), .int (x.2 : Nat)]) ∧ PairsAt H as xs :=
  ⟨h.at_ 0 a x rfl rfl, Nat.succ.inj h.len, fun i c y hc hy => h.at_ (i + 1) c y hc hy⟩
theorem PairsAt.app {H : Hp} : ∀ {as bs : List Addr} {xs ys : List (Nat × Nat)}, PairsAt H as xs → PairsAt H bs ys → PairsAt H (as ++ bs) (xs ++ ys) := by
  intro as bs
  induction bs generalizing as with
  | nil =>
    intro xs ys h1 h2
    cases ys with
    | nil => rw [List.append_nil, List.append_nil]; exact h1
    | cons y ys => exact absurd h2.len (by simp)
  | cons b bs ih =>
    intro xs ys h1 h2
    cases ys with
    | nil => exact absurd h2.len (by simp)
    | cons y ys =>
      have q := ih (h1.snoc h2.tail.1) h2.tail.2
      rw [List.append_assoc, List.append_assoc] at q
      exact q
/-! ### pairs as data -/
def pdp (x : Nat × Nat) : PyData := .tuple [.int (x.1 : Nat), .int (x.2 : Nat)]
def pds (xs : List (Nat × Nat)) : PyData := .list (xs.map pdp)
theorem dp_pairsAll {K : PySem.W.Frag} {H : Hp} : ∀ {as : List Addr} {xs : List (Nat × Nat)}, PairsAt H as xs → DpAll K H (as.map V.ref) (xs.map pdp)
  | [], [], _ => .nil
  | [], _ :: _, h => absurd h.len (by simp)
  | _ :: _, [], h => absurd h.len (by simp)
  | a :: as, x :: xs, h => .cons (.tup (SqT.of h.tail.1) (.cons (.int _) (.cons (.int _) .nil))) (dp_pairsAll h.tail.2)
theorem dp_pairs {K : PySem.W.Frag} {H : Hp} {d : Addr} {as : List Addr} {xs : List (Nat × Nat)} (e : SqL K H d (as.map V.ref)) (h : PairsAt H as xs) : Dp K H (.ref d) (pds xs) := .lst e (dp_pairsAll h)
theorem depAll_pairs : ∀ xs : List (Nat × Nat), PyData.depthAll (xs.map pdp) ≤ 1
  | [] => Nat.zero_le _
  | x :: xs => Nat.max_le.mpr ⟨Nat.le_refl _, depAll_pairs xs⟩
theorem depth_pds (xs : List (Nat × Nat)) : (pds xs).depth ≤ 2 := Nat.succ_le_succ (depAll_pairs xs)
theorem small_pairsAll : ∀ xs : List (Nat × Nat), smallAll (xs.map pdp)
  | [] => trivial
  | _ :: xs => ⟨⟨by show 2 ≤ 1000; decide, trivial, trivial, trivial⟩, small_pairsAll xs⟩
theorem small_pds {xs : List (Nat × Nat)} (h : xs.length ≤ 1000) : smallD (pds xs) := ⟨by rw [List.length_map]; exact h, small_pairsAll xs⟩
end CK

/-! The best, as plain data. -/
namespace CK
open PySem PySem.Spec PyProof.Rows L2
theorem lastB_max {row : List Int} {p : Int} : ∀ {e b : Nat}, lastB row p e = some b → ∀ j, b < j → j < e → row[j]? ≠ some p
  | 0, b, h, _, _, _ => by cases h
  | e + 1, b, h, j, hj, hl => by
    unfold lastB at h
    by_cases q : row[e]? = some p
    · rw [if_pos q] at h
      have e1 := Option.some.inj h
      omega
    · rw [if_neg q] at h
      by_cases z : j = e
      · rw [z]; exact q
      · exact lastB_max h j hj (by omega)
theorem lastB_some {row : List Int} {p : Int} {i : Nat} (hi : row[i]? = some p) : ∀ {e : Nat}, i < e → ∃ b, lastB row p e = some b ∧ i ≤ b
  | 0, h => absurd h (Nat.not_lt_zero _)
  | e + 1, h => by
    unfold lastB
    by_cases q : row[e]? = some p
    · rw [if_pos q]
      exact ⟨e, rfl, by omega⟩
    · rw [if_neg q]
      have z : i ≠ e := fun z => q (by rw [← z]; exact hi)
      exact lastB_some hi (by omega)
/-- the place of the next ask for y, from i on; the number of asks where there is none -/
def nxt (row : List Int) (y : Int) (i : Nat) : Nat := i + (row.drop i).idxOf y
theorem drop_at {row : List Int} {i : Nat} {p : Int} (h : row[i]? = some p) : row.drop i = p :: row.drop (i + 1) := by
  have hi := (List.getElem?_eq_some_iff.mp h).1
  rw [List.drop_eq_getElem_cons hi, (List.getElem?_eq_some_iff.mp h).2]
theorem nxt_ge (row : List Int) (y : Int) (i : Nat) : i ≤ nxt row y i := Nat.le_add_right _ _
theorem nxt_le {row : List Int} {y : Int} {i : Nat} (h : i ≤ row.length) : nxt row y i ≤ row.length := by
  have := List.idxOf_le_length (a := y) (l := row.drop i)
  rw [List.length_drop] at this
  unfold nxt
  omega
theorem nxt_hit {row : List Int} {i : Nat} {p : Int} (h : row[i]? = some p) : nxt row p i = i := by
  unfold nxt
  rw [drop_at h, List.idxOf_cons_self]
  rfl
theorem nxt_on {row : List Int} {i : Nat} {p y : Int} (h : row[i]? = some p) (ne : y ≠ p) : nxt row y i = nxt row y (i + 1) := by
  unfold nxt
  rw [drop_at h, List.idxOf_cons]
  have e : (p == y) = false := by simpa using fun z => ne z.symm
  rw [e]
  show i + ((row.drop (i + 1)).idxOf y + 1) = _
  omega
theorem nxt_at {row : List Int} {y : Int} {i : Nat} (h : nxt row y i < row.length) : row[nxt row y i]? = some y := by
  unfold nxt at h ⊢
  have hl : (row.drop i).idxOf y < (row.drop i).length := by
    rw [List.length_drop]
    omega
  have q := List.getElem_idxOf hl
  rw [← List.getElem?_drop, List.getElem?_eq_getElem hl, q]
theorem idx_before {xs : List Int} {y : Int} {k : Nat} (h : k < xs.idxOf y) : xs[k]? ≠ some y := by
  induction xs generalizing k with
  | nil => simp
  | cons a r ih =>
    by_cases e : a = y
    · rw [e, List.idxOf_cons_self] at h
      exact absurd h (Nat.not_lt_zero _)
    · rw [List.idxOf_cons] at h
      have e1 : (a == y) = false := by simpa using e
      rw [e1] at h
      cases k with
      | zero =>
        intro z
        exact e (Option.some.inj z)
      | succ k => exact ih (k := k) (Nat.lt_of_succ_lt_succ h)
theorem nxt_before {row : List Int} {y : Int} {i j : Nat} (h1 : i ≤ j) (h2 : j < nxt row y i) : row[j]? ≠ some y := by
  unfold nxt at h2
  have q := idx_before (xs := row.drop i) (y := y) (k := j - i) (by omega)
  rw [List.getElem?_drop] at q
  have e : i + (j - i) = j := by omega
  rw [e] at q
  exact q
/-! ### the dict of the next asks -/
def kvS (xs : List (Nat × Nat)) : List (Key × V) := xs.map fun x => (Sum.inl (x.1 : Int), V.int (x.2 : Nat))
theorem merge_snoc (a more : List (Key × V)) (x : Key × V) : mergeK a (more ++ [x]) = putK (mergeK a more) x.1 x.2 := by
  unfold mergeK
  rw [List.foldl_append]
  rfl
theorem next_asks {row : List Int} {i : Nat} {p : Int} (hi : row[i]? = some p) : ∀ e, e ≤ row.length → valV (mergeK [] (kvS (spellsTo row e))) (Sum.inl (i : Int)) = if nxt row p (i + 1) < e then some (V.int (nxt row p (i + 1) : Nat)) else none
  | 0, _ => by rw [if_neg (Nat.not_lt_zero _)]; rfl
  | e + 1, he => by
    have ih := next_asks hi e (by omega)
    have he' : e < row.length := by omega
    have eq : row[e]? = some (row[e]'he') := List.getElem?_eq_getElem he'
    have e0 : spellsTo row (e + 1) = spellsTo row e ++ spellAt row e := rfl
    rw [e0, spellAt_eq eq]
    generalize row[e]'he' = q at *
    have ge := nxt_ge row p (i + 1)
    -- where the page's next ask is e, the spell that ends there begins at i
    have back : nxt row p (i + 1) = e → lastB row q e = some i := by
      intro h
      have hp : row[e]? = some p := by
        rw [← h]
        exact nxt_at (by omega)
      have eqp : q = p := Option.some.inj (eq.symm.trans hp)
      rw [eqp]
      obtain ⟨b, hb, hib⟩ := lastB_some hi (show i < e by omega)
      have hb2 := lastB_lt hb
      by_cases z : b = i
      · rw [← z]; exact hb
      · exact absurd hb2.2 (nxt_before (i := i + 1) (by omega) (by omega))
    cases hb : lastB row q e with
    | none =>
      show valV (mergeK [] (kvS (spellsTo row e ++ []))) _ = _
      rw [List.append_nil, ih]
      by_cases h : nxt row p (i + 1) < e
      · rw [if_pos h, if_pos (by omega)]
      · rw [if_neg h, if_neg (fun z => by
          have := back (by omega)
          rw [hb] at this
          cases this)]
    | some b =>
      have ek : kvS (spellsTo row e ++ spOf (some b) e) = kvS (spellsTo row e) ++ [(Sum.inl (b : Int), V.int (e : Nat))] := by
        unfold kvS
        rw [List.map_append]
        rfl
      rw [ek, merge_snoc, valV_put]
      have hb2 := lastB_lt hb
      by_cases z : b = i
      · subst z
        rw [if_pos rfl]
        have eqp : q = p := Option.some.inj (hb2.2.symm.trans hi)
        have h1 : nxt row p (b + 1) = e := by
          have a1 : ¬ e < nxt row p (b + 1) := fun a1 => nxt_before (i := b + 1) (by omega) a1 (by rw [eq, eqp])
          have a2 : ¬ nxt row p (b + 1) < e := fun a2 => by
            have := nxt_at (row := row) (y := p) (i := b + 1) (by omega)
            rw [← eqp] at this
            rw [eqp] at hb this
            exact lastB_max hb _ (by omega) a2 this
          omega
        rw [if_pos (by omega), h1]
      · rw [if_neg (by intro h; injection h with h; omega), ih]
        by_cases h : nxt row p (i + 1) < e
        · rw [if_pos h, if_pos (by omega)]
        · rw [if_neg h, if_neg (fun h2 => by
            have := back (by omega)
            rw [hb] at this
            exact z (Option.some.inj this))]
theorem next_get {row : List Int} {i : Nat} {p : Int} (hi : row[i]? = some p) : ((valV (mergeK [] (kvS (spellsL row))) (Sum.inl (i : Int))).getD (V.int (row.length : Nat))) = V.int (nxt row p (i + 1) : Nat) := by
  have h := next_asks hi row.length (Nat.le_refl _)
  unfold spellsL
  rw [h]
  have hl := (List.getElem?_eq_some_iff.mp hi).1
  have le := nxt_le (row := row) (y := p) (i := i + 1) (by omega)
  by_cases z : nxt row p (i + 1) < row.length
  · rw [if_pos z]; rfl
  · rw [if_neg z]
    have e : nxt row p (i + 1) = row.length := by omega
    rw [e]; rfl
/-! ### who is let go -/
/-- f is the one of C whose next ask is farthest, of several the least -/
structure IsFar (row : List Int) (i : Nat) (C : List Int) (f : Int) : Prop where
  mem : f ∈ C
  far : ∀ y ∈ C, nxt row y i ≤ nxt row f i
  least : ∀ y ∈ C, nxt row y i = nxt row f i → f ≤ y
theorem IsFar.one {row : List Int} {i : Nat} {C : List Int} {f g : Int} (h : IsFar row i C f) (k : IsFar row i C g) : f = g := by
  have h1 := h.far g k.mem
  have h2 := k.far f h.mem
  have e : nxt row f i = nxt row g i := by omega
  have h3 := h.least g k.mem e.symm
  have h4 := k.least f h.mem e
  omega
theorem far_is {row : List Int} {i : Nat} : ∀ {C : List Int}, C ≠ [] → ∃ f, IsFar row i C f
  | [], h => absurd rfl h
  | [a], _ => ⟨a, by simp, fun y hy => by rw [List.mem_singleton.mp hy]; exact Nat.le_refl _, fun y hy _ => by rw [List.mem_singleton.mp hy]; exact Int.le_refl _⟩
  | a :: b :: C, _ => by
    obtain ⟨f, hf⟩ := far_is (row := row) (i := i) (C := b :: C) (by simp)
    by_cases h : nxt row a i < nxt row f i ∨ (nxt row a i = nxt row f i ∧ f ≤ a)
    · refine ⟨f, List.mem_cons_of_mem _ hf.mem, fun y hy => ?_, fun y hy e => ?_⟩
      · rcases List.mem_cons.mp hy with z | z
        · rw [z]; omega
        · exact hf.far y z
      · rcases List.mem_cons.mp hy with z | z
        · rw [z] at e ⊢; omega
        · exact hf.least y z e
    · refine ⟨a, List.mem_cons_self, fun y hy => ?_, fun y hy e => ?_⟩
      · rcases List.mem_cons.mp hy with z | z
        · rw [z]; exact Nat.le_refl _
        · have := hf.far y z; omega
      · rcases List.mem_cons.mp hy with z | z
        · rw [z]; exact Int.le_refl _
        · have q := hf.far y z
          have e2 : nxt row y i = nxt row f i := by omega
          have := hf.least y z e2
          omega
noncomputable def far (row : List Int) (i : Nat) (C : List Int) : Int := if h : C ≠ [] then Classical.choose (far_is (row := row) (i := i) h) else 0
theorem far_ok {row : List Int} {i : Nat} {C : List Int} (h : C ≠ []) : IsFar row i C (far row i C) := by
  unfold far
  rw [dif_pos h]
  exact Classical.choose_spec (far_is h)
/-- the pages there, the places of the lacks, what was let go -/
structure BS where
  C : List Int
  lacks : List Nat
  gone : List (Nat × Int)
noncomputable def BS.step (n : Nat) (row : List Int) (i : Nat) (p : Int) (s : BS) : BS :=
  if p ∈ s.C then s else if s.C.length = n then ⟨s.C.filter (· != far row i s.C) ++ [p], s.lacks ++ [i], s.gone ++ [(i, far row i s.C)]⟩ else ⟨s.C ++ [p], s.lacks ++ [i], s.gone⟩
noncomputable def bestTo (n : Nat) (row : List Int) : Nat → BS
  | 0 => ⟨[], [], []⟩
  | i + 1 => match row[i]? with
    | some p => (bestTo n row i).step n row i p
    | none => bestTo n row i
theorem bestTo_succ {n : Nat} {row : List Int} {i : Nat} {p : Int} (h : row[i]? = some p) : bestTo n row (i + 1) = (bestTo n row i).step n row i p := by
  show (match row[i]? with | some p => (bestTo n row i).step n row i p | none => bestTo n row i) = _
  rw [h]
noncomputable def bestS (n : Nat) (row : List Int) : BS := bestTo n row row.length
structure BS.Ok (n i : Nat) (s : BS) : Prop where
  nd : s.C.Nodup
  le : s.C.length ≤ n
  lk : s.lacks.length ≤ i
  gn : s.gone.length ≤ i
theorem filter_less {C : List Int} {f : Int} (h : f ∈ C) : (C.filter (· != f)).length < C.length := by
  rcases Nat.lt_or_ge (C.filter (· != f)).length C.length with z | z
  · exact z
  · have e := List.length_filter_eq_length_iff.mp (Nat.le_antisymm (List.length_filter_le _ _) z)
    have := e f h
    simp at this
theorem nodup_snoc {C : List Int} {p : Int} (h : C.Nodup) (hp : p ∉ C) : (C ++ [p]).Nodup := by
  rw [List.nodup_append]
  refine ⟨h, by simp, fun a ha b hb => ?_⟩
  rw [List.mem_singleton.mp hb]
  intro z
  exact hp (by rw [← z]; exact ha)
theorem bestTo_ok {n : Nat} (hn : 0 < n) (row : List Int) : ∀ i, (bestTo n row i).Ok n i
  | 0 => ⟨List.nodup_nil, Nat.zero_le _, Nat.le_refl _, Nat.le_refl _⟩
  | i + 1 => by
    have ih := bestTo_ok hn row i
    cases hp : row[i]? with
    | none =>
      have e : bestTo n row (i + 1) = bestTo n row i := by
        show (match row[i]? with | some p => (bestTo n row i).step n row i p | none => bestTo n row i) = _
        rw [hp]
      rw [e]
      exact ⟨ih.nd, ih.le, Nat.le_succ_of_le ih.lk, Nat.le_succ_of_le ih.gn⟩
    | some p =>
      rw [bestTo_succ hp]
      unfold BS.step
      have h1 := ih.lk
      have h2 := ih.gn
      have h3 := ih.le
      split
      · exact ⟨ih.nd, ih.le, Nat.le_succ_of_le ih.lk, Nat.le_succ_of_le ih.gn⟩
      · rename_i hC
        split
        · rename_i hl
          have hne : (bestTo n row i).C ≠ [] := by intro z; rw [z] at hl; simp at hl; omega
          have hf := filter_less (far_ok (row := row) (i := i) hne).mem
          refine ⟨nodup_snoc (ih.nd.filter _) (fun z => hC (List.mem_filter.mp z).1), ?_, ?_, ?_⟩
          · show (_ ++ [p]).length ≤ n
            rw [List.length_append]; simp; omega
          · show (_ ++ [i]).length ≤ i + 1
            rw [List.length_append]; simp; omega
          · show (_ ++ [_]).length ≤ i + 1
            rw [List.length_append]; simp; omega
        · rename_i hl
          refine ⟨nodup_snoc ih.nd hC, ?_, ?_, Nat.le_succ_of_le ih.gn⟩
          · show (_ ++ [p]).length ≤ n
            rw [List.length_append]; simp; omega
          · show (_ ++ [i]).length ≤ i + 1
            rw [List.length_append]; simp; omega
/-! ### the dict of the pages there -/
def kvN (row : List Int) (i : Nat) (C : List Int) : List (Key × V) := C.map fun y => (Sum.inl y, V.int (nxt row y i : Nat))
theorem kvN_val (row : List Int) (i : Nat) : ∀ (C : List Int) (p : Int), valV (kvN row i C) (Sum.inl p) = if p ∈ C then some (V.int (nxt row p i : Nat)) else none
  | [], p => rfl
  | a :: C, p => by
    by_cases h : a = p
    · subst h
      rw [if_pos List.mem_cons_self]
      exact valV_pos rfl
    · have e : valV (kvN row i (a :: C)) (Sum.inl p) = valV (kvN row i C) (Sum.inl p) := valV_neg (by intro z; injection z with z; exact h z)
      rw [e, kvN_val row i C p]
      by_cases h2 : p ∈ C
      · rw [if_pos h2, if_pos (List.mem_cons_of_mem _ h2)]
      · rw [if_neg h2, if_neg (by intro z; rcases List.mem_cons.mp z with z | z; · exact h z.symm
                                  · exact h2 z)]
theorem kvN_drop (row : List Int) (i : Nat) (f : Int) : ∀ C : List Int, dropK (kvN row i C) (Sum.inl f) = kvN row i (C.filter (· != f))
  | [] => rfl
  | a :: C => by
    by_cases h : a = f
    · subst h
      have e : dropK (kvN row i (a :: C)) (Sum.inl a) = dropK (kvN row i C) (Sum.inl a) := dropK_pos rfl
      rw [e, kvN_drop row i a C]
      simp
    · have e : dropK (kvN row i (a :: C)) (Sum.inl f) = (Sum.inl a, V.int (nxt row a i : Nat)) :: dropK (kvN row i C) (Sum.inl f) := dropK_neg (by intro z; injection z with z; exact h z)
      have e2 : (a :: C).filter (· != f) = a :: C.filter (· != f) := by simp [h]
      rw [e, kvN_drop row i f C, e2]
      rfl
/-- the asked page's next ask is written; all others' stay -/
theorem kvN_put {row : List Int} {i : Nat} {p : Int} (hp : row[i]? = some p) {C : List Int} (h : p ∈ C) : putK (kvN row i C) (Sum.inl p) (V.int (nxt row p (i + 1) : Nat)) = kvN row (i + 1) C := by
  have ha : ((kvN row i C).any fun kv => decide (kv.1 = Sum.inl p)) = true := by
    rw [valV_any, kvN_val, if_pos h]
    rfl
  unfold putK
  rw [if_pos ha]
  unfold kvN
  rw [List.map_map]
  refine List.map_congr_left fun y hy => ?_
  show (if (Sum.inl y : Key) = Sum.inl p then _ else _) = _
  by_cases e : y = p
  · subst e
    rw [if_pos rfl]
  · rw [if_neg (by intro z; injection z with z; exact e z), nxt_on hp e]
theorem kvN_new {row : List Int} {i : Nat} {p : Int} (hp : row[i]? = some p) {C : List Int} (h : p ∉ C) : putK (kvN row i C) (Sum.inl p) (V.int (nxt row p (i + 1) : Nat)) = kvN row (i + 1) (C ++ [p]) := by
  rw [putK_new _ (by rw [kvN_val, if_neg h])]
  unfold kvN
  rw [List.map_append]
  congr 1
  refine List.map_congr_left fun y hy => ?_
  rw [nxt_on hp (by intro z; rw [z] at hy; exact h hy)]
/-! ### lists of tuples -/
structure TupsAt (H : Hp) (as : List Addr) (xs : List (List V)) : Prop where
  len : as.length = xs.length
  at_ : ∀ (i : Nat) (a : Addr) (x : List V), as[i]? = some a → xs[i]? = some x → H a = some (.tup x)
theorem TupsAt.nil {H : Hp} : TupsAt H [] [] := ⟨rfl, fun i a x h => by simp at h⟩
theorem TupsAt.but {S : List Addr} {H H' : Hp} {as : List Addr} {xs : List (List V)} (h : TupsAt H as xs) (k : But S H H') (n : ∀ d ∈ S, ∀ u, H d ≠ some (.tup u)) : TupsAt H' as xs :=
  ⟨h.len, fun i a x ha hx => by
    have q := h.at_ i a x ha hx
    exact k _ _ q fun z => n _ z _ q⟩
theorem TupsAt.same {H H' : Hp} {as : List Addr} {xs : List (List V)} (h : TupsAt H as xs) (k : Same H H') : TupsAt H' as xs := h.but (S := []) (But.of k) (fun d hd => by simp at hd)
theorem TupsAt.put {H : Hp} {as : List Addr} {xs : List (List V)} (h : TupsAt H as xs) {d : Addr} {o o' : HO} (e : H d = some o) (ne : ∀ u, o ≠ .tup u) : TupsAt (upd H d o') as xs :=
  h.but (S := [d]) (But.put (by simp)) (fun c hc u z => by rw [List.mem_singleton.mp hc, e] at z; exact ne u (Option.some.inj z))
theorem TupsAt.snoc {H : Hp} {as : List Addr} {xs : List (List V)} (h : TupsAt H as xs) {t : Addr} {x : List V} (e : H t = some (.tup x)) : TupsAt H (as ++ [t]) (xs ++ [x]) := by
  refine ⟨by simp [h.len], fun j c y hc hy => ?_⟩
  by_cases hj : j < as.length
  · rw [List.getElem?_append_left hj] at hc
    rw [List.getElem?_append_left (by rw [← h.len]; exact hj)] at hy
    exact h.at_ j c y hc hy
  · have ej : j = as.length := by
      have := (List.getElem?_eq_some_iff.mp hc).1
      simp at this
      omega
    subst ej
    rw [List.getElem?_append_right (Nat.le_refl _), Nat.sub_self] at hc
    rw [List.getElem?_append_right (by rw [h.len]; exact Nat.le_refl _), h.len, Nat.sub_self] at hy
    have ec : t = c := Option.some.inj hc
    have ex : x = y := Option.some.inj hy
    rw [← ec, ← ex]
    exact e
theorem TupsAt.tail {H : Hp} {a : Addr} {x : List V} {as : List Addr} {xs : List (List V)} (h : TupsAt H (a :: as) (x :: xs)) : H a = some (.tup x) ∧ TupsAt H as xs :=
  ⟨h.at_ 0 a x rfl rfl, Nat.succ.inj h.len, fun i c y hc hy => h.at_ (i + 1) c y hc hy⟩
abbrev gV (xs : List (Nat × Int)) : List (List V) := xs.map fun x => [V.int (x.1 : Nat), V.int x.2]
theorem gV_snoc {xs : List (Nat × Int)} {x : Nat × Int} : gV (xs ++ [x]) = gV xs ++ [[V.int (x.1 : Nat), V.int x.2]] := by
  show (xs ++ [x]).map _ = _
  rw [List.map_append]
  rfl
end CK

/-! The program's spells. -/
namespace CK
open PySem PySem.Spec PyProof.Rows L2
/-- a new list of the spells of a row -/
def spFind (K : PySem.W.Frag) : Sp := fun vs H Q _ => ∃ (r : Addr) (row : List Int), vs = [.ref r] ∧ SqL K H r (il row) ∧ row.length ≤ 1000 ∧
  ∀ (d : Addr) (as : List Addr) (H' : Hp), H d = none → Same H H' → H' d = some (.lst (as.map V.ref)) → PairsAt H' as (spellsL row) → Q (.ref d) H'
def lastV (row : List Int) (i : Nat) (p : Int) : Option V := (lastB row p i).map fun n => V.int (n : Nat)
section
variable {P : Program} {w : World} {K : PySem.W.Frag} {mg : Str → Option Value} {base : Heap}
theorem sc_find_spells : FnScope ["row", "latest", "found", "place", "page"] ["row"] (defScope (top 12)) := ⟨rfl, rfl, rfl, by decide +kernel, rfl, by decide +kernel, by decide +kernel⟩
theorem ok_find_spells (T : Prog K mg) : FnOk P w K mg base CX0 1 T.find_spells.f T.find_spells.fd ["row"] (spFind K) := by
  refine T.find_spells.fn.ok sc_find_spells (fun vs H Q E h => ?len) (fun cdv A outer s H vs Q E hr h => ?body)
  case len =>
    obtain ⟨r, row, rfl, _⟩ := h
    rfl
  case body =>
    have hu := hu_of hr
    obtain ⟨r, row, rfl, hS, hlen, k⟩ := h
    refine ⟨_, PSs.nox (pss_cons (ps_set (i := 1) sc_find_spells.nd rfl (Or.inl rfl) pe_dnewK)
        (pss_cons (ps_set (i := 2) sc_find_spells.nd rfl (Or.inl rfl) (pe_lst pa_nil))
        (pss_cons (ps_for PassesOwn.never rfl (pi_enum (by rfl) T.enumerate (pa_cons (pv 0) pa_nil)) (pg_tup rfl (pgs_cons (pg_name (i := 3) sc_find_spells.nd rfl (Or.inl rfl)) (pgs_cons (pg_name (i := 4) sc_find_spells.nd rfl (Or.inl rfl)) pgs_nil)))
        (C8.pss_cut (ps_if (pt_cmp (pc_din hu (pv 4) (pv 1)))
        (pss_one (ps_expr (pe_bm PySem.F.plainAttrs_list PySem.F.slot_list_append PySem.F.type_list_append mt_append (pv 2) (pa_cons (pe_tup (pa_cons (pe_dget hu (pv 1) (pv 4) (fun _ _ => rfl)) (pa_cons (pv 3) pa_nil))) pa_nil))))
        pss_nil)
        (pss_one (ps_dput hu (pv 1) (pv 4) (pv 3) rfl))))
        (pss_one (ps_ret (pv 2)))))), ?_⟩
    refine fun l hl => ⟨szd rfl, fun c hc => ?_⟩
    have s1 : Same H (upd (upd H l (.dK [])) c (.lst [])) := (Same.new hl).trans (Same.new hc)
    have lc : l ≠ c := ne_fresh (H := upd H l (.dK [])) upd_same hc
    have cH : H c = none := Same.back (Same.new hl) hc
    refine ⟨_, rfl, r, _, rfl, s1.seq hS, for_it (walk_enum (K := K) (a := r) (xs := il row)) (fun i σ H' => (∃ v3 v4, σ = [some (.ref r), some (.ref l), some (.ref c), v3, v4]) ∧ Same H H' ∧ (∃ kvs : List (Key × V), H' l = some (.dK kvs) ∧ kvs.length ≤ i ∧ ∀ p, valV kvs (Sum.inl p) = lastV row i p) ∧
      ∃ as : List Addr, H' c = some (.lst (as.map V.ref)) ∧ PairsAt H' as (spellsTo row i))
      ⟨⟨_, _, rfl⟩, s1, ⟨[], by rw [upd_ne lc]; exact upd_same, Nat.le_refl _, fun p => rfl⟩, [], upd_same, PairsAt.nil⟩ (fun i σ H' _ h => h.2.1.seq hS) ?_ ?_⟩
    · rintro i x σ H1 H2 hi ⟨⟨v3, v4, rfl⟩, s2, ⟨kvs, hl1, hkl, hkv⟩, as, hc1, hp1⟩ ⟨t, x1, x2, rfl, ht, rfl, ha, hb⟩
      have ea : V.int (i : Nat) = x1 := Option.some.inj ha
      subst ea
      obtain ⟨p, hp, rfl⟩ := il_get hb
      rw [il_len] at hi
      have sT := Same.new (o := .tup [V.int (i : Nat), V.int p]) ht
      have hl2 := sT _ _ hl1
      have hc2 := sT _ _ hc1
      have hp2 := hp1.same sT
      have hal : as.length ≤ i := by rw [hp1.len]; exact spellsTo_le row i
      refine ⟨t, _, rfl, SqT.of upd_same, rfl, _, _, rfl, _, _, rfl, rfl, ?_⟩
      refine ⟨fun σ' H' => σ' = [some (.ref r), some (.ref l), some (.ref c), some (.int (i : Nat)), some (.int p)] ∧ Same H H' ∧ H' l = some (.dK kvs) ∧ ∃ as : List Addr, H' c = some (.lst (as.map V.ref)) ∧ PairsAt H' as (spellsTo row (i + 1)), ?_, ?_⟩
      · refine ⟨_, rfl, _, rfl, l, _, rfl, DGet.k (k := Sum.inl p) hl2, _, rfl, ?_⟩
        have e0 : spellsTo row (i + 1) = spellsTo row i ++ spellAt row i := rfl
        have e1 := spellAt_eq hp
        rw [e0, e1]
        have ev := hkv p
        unfold lastV at ev
        cases eb : lastB row p i with
        | none =>
          rw [eb] at ev
          refine ifF (by rw [ev]; rfl) ?_
          refine ⟨rfl, s2.trans sT, hl2, as, hc2, ?_⟩
          show PairsAt _ as (spellsTo row i ++ [])
          rw [List.append_nil]
          exact hp2
        | some b =>
          rw [eb] at ev
          refine ifT (by rw [ev]; rfl) ?_
          refine ⟨_, rfl, .inl ⟨rfl, _, SqL.of hc2⟩, _, rfl, _, rfl, l, V.int (b : Nat), rfl, (by have q := DGet.k (k := Sum.inl p) hl2; rw [ev] at q; exact q), _, rfl, szd rfl, fun q hq => ?_⟩
          have sQ := Same.new (o := .tup [V.int (b : Nat), V.int (i : Nat)]) hq
          have hc3 := sQ _ _ hc2
          refine ⟨c, _, _, rfl, rfl, hc3, szl (by rw [List.length_map]; omega), ?_⟩
          refine ⟨rfl, Same.put ((s2.trans sT).trans sQ) cH, ?_, as ++ [q], ?_, ?_⟩
          · rw [upd_ne lc]; exact sQ _ _ hl2
          · rw [upd_same, List.map_append]; rfl
          · exact ((hp2.same sQ).snoc (x := (b, i)) upd_same).put hc3 (by intro u z; cases z)
      · rintro σ' H' ⟨rfl, s3, hl3, as', hc3, hp3⟩
        refine ⟨_, rfl, _, rfl, _, rfl, l, _, rfl, DPut.k (k := Sum.inl p) hl3 (szl (by omega)), ?_⟩
        refine ⟨⟨_, _, rfl⟩, Same.put s3 hl, ⟨_, upd_same, ?_, fun q => ?_⟩, as', ?_, hp3.put hl3 (by intro u z; cases z)⟩
        · have := length_putK kvs (Sum.inl p) (V.int (i : Nat))
          omega
        · rw [valV_put]
          unfold lastV lastB
          by_cases e : p = q
          · subst e
            rw [if_pos rfl, if_pos hp]
            rfl
          · rw [if_neg (by intro z; injection z with z; exact e z.symm), if_neg (by intro z; rw [hp] at z; exact e (Option.some.inj z))]
            exact hkv q
        · rw [upd_ne (Ne.symm lc)]; exact hc3
    · rintro σ H' ⟨⟨v3, v4, rfl⟩, s2, _, as, hc1, hp1⟩
      rw [il_len] at hp1
      exact ⟨_, rfl, k c as H' cH s2 hc1 hp1⟩
end
end CK

/-! max(d.values()). -/
namespace CKZ
open PySem PySem.Spec PyProof.Rows L2
open PySem.Sem (wp)
variable {X : Cx}
/-- a dict of ints, one at least: the greatest -/
def tMaxVals (td : TE) : TE := fun σ H Q => td σ H fun x H1 => ∃ (a : Addr) (ds : List (Key × V)) (ns : List Int), x = V.ref a ∧ H1 a = some (.dK ds) ∧ ds.map (·.2) = ns.map V.int ∧ ns ≠ [] ∧ ∀ m, m ∈ ns → (∀ j ∈ ns, j ≤ m) → Q (.int m) H1
theorem pe_maxVals {o : Expr} {p pos apos mpos : Pos} {td : TE} (hc : X.calm = true) (hg : Gl X "max") (hm : X.mg "max" = none) (hd : PE X o td) (hb : attributeBase o "values" X.env (eval o X.env) = eval o X.env := by rfl) (hl : (apos.endLine == mpos.line) = true := by rfl)
    (hs : starEach [Expr.Call (.Attribute o "values" apos) [] [] mpos] X.env = [(false, eval (Expr.Call (.Attribute o "values" apos) [] [] mpos) X.env)] := by rfl) :
    PE X (.Call (.Name "max" p) [.Call (.Attribute o "values" apos) [] [] mpos] [] pos) (tMaxVals td) := by
  constructor; intro pins s σ H Q I h
  refine wpAny_Call_Name_kw (ld_blt I hg hm (u := .builtin "max") (by first | rfl | decide +kernel) ?_ (by first | decide +kernel | decide) (by first | decide +kernel | decide)); rw [hs]
  refine PySem.callWith_builtin1 (wpAny_Call_method0_late hb hl (thn (hd.run pins s σ H _ I h) fun v s1 ⟨x, H1, I1, r1, a, ds, ns, ex, ha, hv, hne, q⟩ => ?_))
  subst ex; obtain rfl : v = Value.ref a := r1
  obtain ⟨_, hsys, vs, rel, dof⟩ := dk_of I1.hok ha
  obtain ⟨ep, dat⟩ := dof.dictAt
  obtain ⟨ob, es, ho, ex, hdat, hko, hpr, hnd⟩ := id dat
  refine ⟨"dict", "dict.values", F.plainAttrs_dict, F.slot_dict_values, F.type_dict_values, ⟨ob, ho, ex.1⟩, fun b e => ?_, Calls.callWith_builtin rfl (PySem.evalArgs_none ?_)⟩
  · cases e; exact ⟨ob, ho, ex.2.1⟩
  refine call_meetsIn F.slot_dict_values ⟨ob, ho, ex.1⟩ F.entry_dict_values (F.args_dict_values_1 _) (meets_dict_values (mixKind X.prog X.w) a hsys) ⟨⟨vs, dof⟩, ?_⟩
  generalize eo : ({ cls := .type "dict_values", data := .fields #[.ref a] } : Obj) = vo
  have k1 : ∀ b u, s1.heap.get? b = some u → (s1.heap.push vo).get? b = some u := fun b u e => Heap.get?_push_of_some _ e
  have dat1 : (s1.heap.push vo).DictAt (mixKind X.prog X.w) a vs ep := dat.keep k1
  have hlv : vs.length = ns.length := by
    have e1 := congrArg List.length hv
    rw [List.length_map, List.length_map] at e1
    exact (KV.length rel).symm.trans e1
  have hpos : 0 < vs.length := by rw [hlv]; exact List.length_pos_iff.mpr hne
  have hval : ∀ (i : Nat) (v : Value), (∃ k, vs[i]? = some (k, v)) → ∃ t, v = Value.int (ns.getD i 0) t := fun i v ⟨k, hk⟩ => by
    obtain ⟨x, f1, f2⟩ := KV.at' rel hk
    have e1 : (ds.map (·.2))[i]? = some x := by rw [List.getElem?_map, f1] <;> rfl
    rw [hv, List.getElem?_map] at e1
    obtain ⟨j, hj, e2⟩ := Option.map_eq_some_iff.mp e1
    subst e2
    obtain ⟨t, e3⟩ := f2
    exact ⟨t, by rw [e3, List.getD_eq_getElem?_getD, hj] <;> rfl⟩
  have hlt : a < s1.heap.objs.size := Heap.lt_size ho
  have hsz : (s1.heap.push vo).objs.size = s1.heap.objs.size + 1 := Heap.size_push _ _
  refine call_max_walk (wpAny_pyIter_values (v := s1.heap.objs.size) (d := a) ⟨_, Heap.get?_push_size _ (by rw [← eo] <;> rfl), by rw [← eo], by rw [← eo]⟩ dat1 ?_)
  refine ⟨_, _, _, _, _, _, _, rfl, Walks.dictValues (knd := mixKind X.prog X.w) (A := X.A.in1) (I.ok.hd hc) (s1.heap.push vo).objs.size a (by rw [hsz]; exact Nat.ne_of_lt (Nat.lt_succ_of_lt hlt)) vs ep,
    ⟨⟨_, Heap.get?_push_size _ rfl, rfl, rfl⟩, dat1.keep fun b u e => Heap.get?_push_of_some _ e⟩, fun b hb => ?_, hpos, CmpOf.ints_gt (fun i => ns.getD i 0) hval, fun v h' tk hP hk => ?_⟩
  · show b < ((s1.heap.push _).push _).objs.size
    rw [Heap.size_push, Heap.size_push]
    rw [hsz] at hb
    rcases List.mem_cons.mp hb with e | hb
    · rw [e]; exact Nat.lt_succ_self _
    · rw [List.mem_singleton.mp hb]; exact Nat.lt_succ_of_lt (Nat.lt_succ_of_lt hlt)
  · obtain ⟨t, rfl⟩ := hval _ v hP
    obtain ⟨b1, b2⟩ := argBest_gt (fun i => ns.getD i 0) (vs.length - 1)
    refine ⟨.int _, H1, I1.kept (t' := tk) fun b u e => hk b u (fun hmem => ?_) (Heap.get?_push_of_some _ (k1 b u e)), ⟨t, rfl⟩, q _ ?_ fun j hj => ?_⟩
    · have e1 : b = (s1.heap.push vo).objs.size := List.mem_singleton.mp hmem
      have e2 := Heap.lt_size e
      rw [e1, hsz] at e2
      exact absurd e2 (Nat.not_lt.mpr (Nat.le_succ _))
    · have hb : argBest (fun i j => decide (ns.getD i 0 > ns.getD j 0)) (vs.length - 1) < ns.length := by omega
      rw [List.getD_eq_getElem?_getD, List.getElem?_eq_getElem hb]; exact List.getElem_mem hb
    · obtain ⟨i, hi, e⟩ := List.mem_iff_getElem.mp hj
      have e2 : ns.getD i 0 = j := by rw [List.getD_eq_getElem?_getD, List.getElem?_eq_getElem hi, ← e] <;> rfl
      rw [← e2]
      exact b2 i (by omega)
end CKZ

/-! The program's best. -/
namespace CK
open PySem PySem.Spec PyProof.Rows L2
def spFarthest : Sp := fun vs H Q _ => ∃ (d : Addr) (row : List Int) (i : Nat) (C : List Int), vs = [.ref d] ∧ H d = some (.dK (kvN row i C)) ∧ C ≠ [] ∧ C.length ≤ 1000 ∧
  ∀ H' : Hp, Same H H' → Q (.int (far row i C)) H'
/-- a new tuple of the places of the lacks, and of what was let go -/
def spFindBest (K : PySem.W.Frag) : Sp := fun vs H Q _ => ∃ (n : Int) (r : Addr) (row : List Int), vs = [.int n, .ref r] ∧ 1 ≤ n ∧ n ≤ 8 ∧ SqL K H r (il row) ∧ row.length ≤ 1000 ∧
  ∀ (t l g : Addr) (as : List Addr) (H' : Hp), H t = none → H l = none → H g = none → l ≠ g → Same H H' → H' t = some (.tup [.ref l, .ref g]) → H' l = some (.lst (NL (bestS n.toNat row).lacks)) → H' g = some (.lst (as.map V.ref)) → TupsAt H' as (gV (bestS n.toNat row).gone) → Q (.ref t) H'
def spBest (K : PySem.W.Frag) : Sp := fun vs H Q _ => ∃ (n : Int) (r : Addr) (row : List Int), vs = [.int n, .ref r] ∧ 1 ≤ n ∧ n ≤ 8 ∧ SqL K H r (il row) ∧ RowOk row ∧
  ∀ (t l g : Addr) (as : List Addr) (H' : Hp), H t = none → H l = none → H g = none → l ≠ g → Same H H' → H' t = some (.tup [.ref l, .ref g]) → H' l = some (.lst (NL (bestS n.toNat row).lacks)) → H' g = some (.lst (as.map V.ref)) → TupsAt H' as (gV (bestS n.toNat row).gone) → Q (.ref t) H'
theorem kvN_vals (row : List Int) (i : Nat) (C : List Int) : (kvN row i C).map (·.2) = (C.map fun y => ((nxt row y i : Nat) : Int)).map V.int := by
  unfold kvN
  rw [List.map_map, List.map_map]
  rfl
theorem pairs_kv {K : PySem.W.Frag} {H : Hp} : ∀ {as : List Addr} {xs : List (Nat × Nat)}, PairsAt H as xs → Paired (fun p kv => SqT K H p [kV kv.1, kv.2]) as (kvS xs)
  | [], [], _ => .nil
  | [], _ :: _, h => absurd h.len (by simp)
  | _ :: _, [], h => absurd h.len (by simp)
  | a :: as, x :: xs, h => .cons (SqT.of h.tail.1) (pairs_kv h.tail.2)
section
variable {P : Program} {w : World} {K : PySem.W.Frag} {mg : Str → Option Value} {base : Heap}
theorem sc_farthest : FnScope ["there", "farthest", "page"] ["there"] (defScope (top 16)) := ⟨rfl, rfl, rfl, by decide +kernel, rfl, by decide +kernel, by decide +kernel⟩
theorem ok_farthest (T : Prog K mg) : FnOk P w K mg base CX0 1 T.farthest.f T.farthest.fd ["there"] spFarthest := by
  refine T.farthest.fn.ok sc_farthest (fun vs H Q E h => ?len) (fun cdv A outer s H vs Q E hr h => ?body)
  case len =>
    obtain ⟨d, row, i, C, rfl, _⟩ := h
    rfl
  case body =>
    have hu := hu_of hr
    obtain ⟨d, row, i, C, rfl, hd, hC, hl, k⟩ := h
    refine ⟨_, PSs.nox (pss_cons (ps_set (i := 1) sc_farthest.nd rfl (Or.inr rfl) (CKZ.pe_maxVals rfl (by rfl) T.max (pv 0)))
        (pss_one (ps_ret (pe_callB (cr_min rfl) (by rfl) T.min (by decide +kernel) (pa_cons (pe_lock (pe_lc (own := [("page", 2)]) (g := gName 2) (tt := (tTest (tOp _ (tDGet (tVar 0) (tVar 2)) (tVar 1)))) (te := (tVar 2)) rfl sc_farthest.nd ((pi_keys (pv 0))) (blkOk_by (own := [("page", 2)]) (N := ["there", "farthest", "page"]) (sc := defScope (top 16)) (by decide +kernel)) (fun _ _ _ _ _ => (by exact (pg_name (i := 2) sc_farthest.nd rfl (Or.inl rfl)))) (fun _ _ _ _ _ => (by exact (pts_one (pt_cmpR op_eq (pe_dget hu (pv 0) (pv 2) (fun _ _ => rfl)) (pv 1) (nomark _))))) (fun _ _ _ _ _ => (by exact (pv 2))))) pa_nil))))), ?_⟩
    have F := far_ok (row := row) (i := i) hC
    have hmem : ((nxt row (far row i C) i : Nat) : Int) ∈ C.map fun y => ((nxt row y i : Nat) : Int) := List.mem_map.mpr ⟨_, F.mem, rfl⟩
    refine ⟨_, rfl, d, _, _, rfl, hd, kvN_vals row i C, by simpa using hC, fun m hm hmax => ?_⟩
    have em : m = ((nxt row (far row i C) i : Nat) : Int) := by
      obtain ⟨y, hy, e⟩ := List.mem_map.mp hm
      have h1 := hmax _ hmem
      have h2 := F.far y hy
      omega
    subst em
    -- [page for page in there if there[page] == farthest], the dict locked
    refine ⟨d, _, hd, trivial, fun od => ?_⟩
    have hd1 : upd H d (.frz od (.dK (kvN row i C))) d = some (.frz od (.dK (kvN row i C))) := upd_same
    refine ⟨_, rfl, d, od, rfl, .inl ⟨_, hd1, fun D hD => ?_⟩⟩
    have Dd : D ≠ d := by intro z; rw [z, upd_same] at hD; cases hD
    have hDH : H D = none := by rw [upd_ne Dd] at hD; exact hD
    have hlk : (kvN row i C).length = C.length := List.length_map _
    refine lc_it (walk_keys (d := d) (o := od) (kvs := kvN row i C)) (fun j H' => H' D = some (.lst (il ((C.take j).filter fun y => decide (nxt row y i = nxt row (far row i C) i)))) ∧ H' d = some (.frz od (.dK (kvN row i C))) ∧ ∀ c o, c ≠ d → H c = some o → H' c = some o) ?_ (fun j H' _ h => h.2.1) ?_ ?_
    · refine ⟨upd_same, by rw [upd_ne (Ne.symm Dd)]; exact hd1, fun c o h1 h2 => ?_⟩
      rw [upd_ne (ne_fresh h2 hDH), upd_ne h1]
      exact h2
    · rintro j x H1 H2 hj ⟨hD1, hd1, hk⟩ ⟨rfl, k0, v0, hkv, rfl⟩
      rw [hlk] at hj
      have ej : C[j]? = some (C[j]'hj) := List.getElem?_eq_getElem hj
      have ekv : (kvN row i C)[j]? = some (Sum.inl (C[j]'hj), V.int (nxt row (C[j]'hj) i : Nat)) := by
        unfold kvN
        rw [List.getElem?_map, ej]
        rfl
      have e1 := Option.some.inj (hkv.symm.trans ekv)
      have e2 : k0 = Sum.inl (C[j]'hj) := congrArg Prod.fst e1
      subst e2
      have hm := List.getElem_mem hj
      rw [take_snoc ej, List.filter_append]
      have hle := List.length_filter_le (fun y => decide (nxt row y i = nxt row (far row i C) i)) (C.take j)
      rw [List.length_take] at hle
      have hv : valV (kvN row i C) (Sum.inl (C[j]'hj)) = some (V.int (nxt row (C[j]'hj) i : Nat)) := by rw [kvN_val, if_pos hm]
      generalize C[j]'hj = y at *
      refine ⟨rfl, _, rfl, _, rfl, d, _, rfl, .inl ⟨_, Sum.inl y, .inr ⟨_, hd1⟩, rfl, hv.symm⟩, _, rfl, rfl, _, rfl, ?_⟩
      by_cases q : nxt row y i = nxt row (far row i C) i
      · refine ifT (decide_eq_true (by rw [q])) ⟨_, rfl, _, hD1, szl (by rw [il_len]; omega), ?_, ?_, fun c o h1 h2 => ?_⟩
        · rw [upd_same]
          show some (HO.lst (il _ ++ [V.int y])) = _
          rw [il_snoc]
          simp [q]
        · rw [upd_ne (Ne.symm Dd)]; exact hd1
        · rw [upd_ne (ne_fresh h2 hDH)]; exact hk c o h1 h2
      · refine ifF (decide_eq_false (by intro z; injection z with z; omega)) ⟨?_, hd1, hk⟩
        simpa [q] using hD1
    · rintro H1 ⟨hD1, hd1, hk⟩
      rw [hlk, List.take_length] at hD1
      refine ⟨hd1, ?_⟩
      have hDm : upd H1 d (.dK (kvN row i C)) D = some (.lst (il (C.filter fun y => decide (nxt row y i = nxt row (far row i C) i)))) := by rw [upd_ne Dd]; exact hD1
      have fm : far row i C ∈ C.filter fun y => decide (nxt row y i = nxt row (far row i C) i) := List.mem_filter.mpr ⟨F.mem, by simp⟩
      refine ⟨D, _, rfl, SqL.of hDm, List.length_pos_of_mem fm, fun m hm hmin => ?_⟩
      have e : m = far row i C := by
        have h1 := hmin _ fm
        have h2 := List.mem_filter.mp hm
        have h3 := F.least m h2.1 (by simpa using h2.2)
        omega
      rw [e]
      refine k _ fun c o hc => ?_
      by_cases z : c = d
      · rw [z] at hc ⊢
        rw [hd] at hc
        rw [upd_same]
        exact hc
      · rw [upd_ne z]
        exact hk c o z hc
theorem sc_find_best : FnScope ["rooms", "row", "next_asks", "there", "lacks", "gone", "place", "page", "leaving"] ["rooms", "row"] (defScope (top 15)) := ⟨rfl, rfl, rfl, by decide +kernel, rfl, by decide +kernel, by decide +kernel⟩
theorem ok_find_best (T : Prog K mg) : FnOk P w K mg base CX0 2 T.find_best.f T.find_best.fd ["rooms", "row"] (spFindBest K) := by
  have G_find_spells := ok_find_spells (P := P) (w := w) (base := base) T
  have G_farthest := ok_farthest (P := P) (w := w) (base := base) T
  refine T.find_best.fn.ok sc_find_best (fun vs H Q E h => ?len) (fun cdv A outer s H vs Q E hr h => ?body)
  case len =>
    obtain ⟨n, r, row, rfl, _⟩ := h
    rfl
  case body =>
    have hr_find_spells : Room 1 _ := hr.mono (by decide)
    have hr_farthest : Room 1 _ := hr.mono (by decide)
    have hu := hu_of hr
    obtain ⟨n, r, row, rfl, n1, n8, hS, hl, k⟩ := h
    refine ⟨_, PSs.nox (pss_cons (ps_set (i := 2) sc_find_best.nd rfl (Or.inl rfl) (pe_callTy (call_dictP rfl) (by rfl) T.dict_ (by decide +kernel) (pa_cons (pe_call G_find_spells hr_find_spells (by rfl) T.find_spells.g T.find_spells.fn.kp T.find_spells.bd .nil pass0 (pa_cons (pv 1) pa_nil)) pa_nil)))
        (pss_cons (ps_set (i := 3) sc_find_best.nd rfl (Or.inl rfl) pe_dnewK)
        (pss_cons (ps_set (i := 4) sc_find_best.nd rfl (Or.inl rfl) (pe_lst pa_nil))
        (pss_cons (ps_set (i := 5) sc_find_best.nd rfl (Or.inl rfl) (pe_lst pa_nil))
        (pss_cons (ps_for PassesOwn.never rfl (pi_enum (by rfl) T.enumerate (pa_cons (pv 1) pa_nil)) (pg_tup rfl (pgs_cons (pg_name (i := 6) sc_find_best.nd rfl (Or.inl rfl)) (pgs_cons (pg_name (i := 7) sc_find_best.nd rfl (Or.inl rfl)) pgs_nil)))
        (pss_cons (ps_if (pt_cmp (pc_dnotin hu (pv 7) (pv 3)))
        (pss_cons (ps_expr (pe_bm PySem.F.plainAttrs_list PySem.F.slot_list_append PySem.F.type_list_append mt_append (pv 4) (pa_cons (pv 6) pa_nil)))
        (pss_one (ps_if (pt_cmpR op_eq (pe_callB call_lenD (by rfl) T.len PySem.boot_len (pa_cons (pv 3) pa_nil)) (pv 0) (nomark _))
        (pss_cons (ps_set (i := 8) sc_find_best.nd rfl (Or.inl rfl) (pe_call G_farthest hr_farthest (by rfl) T.farthest.g T.farthest.fn.kp T.farthest.bd .nil pass0 (pa_cons (pv 3) pa_nil)))
        (pss_cons (ps_expr (pe_bm PySem.F.plainAttrs_list PySem.F.slot_list_append PySem.F.type_list_append mt_append (pv 5) (pa_cons (pe_tup (pa_cons (pv 6) (pa_cons (pv 8) pa_nil))) pa_nil)))
        (pss_one (ps_ddel (pv 3) (pv 8)))))
        pss_nil)))
        pss_nil)
        (pss_one (ps_dput hu (pv 3) (pv 7) (pe_dget2 hu (pv 2) (pv 6) (pe_callB call_len_seq (by rfl) T.len PySem.boot_len (pa_cons (pv 1) pa_nil)) ⟨rfl, rfl, rfl, rfl⟩) rfl))))
        (pss_one (ps_ret (pe_tup (pa_cons (pv 4) (pa_cons (pv 5) pa_nil)))))))))), ?_⟩
    have hn0 : 0 < n.toNat := by omega
    -- next_asks = dict(find_spells(row))
    refine ⟨_, rfl, r, row, rfl, hS, hl, fun s as0 H1 hs1 s1 hs hp0 => ?_⟩
    refine ⟨s, as0, kvS (spellsL row), rfl, SqL.of hs, pairs_kv hp0, fun nd hnd => ?_⟩
    have s2 := Same.new (o := .dK (mergeK [] (kvS (spellsL row)))) hnd
    -- there = {}; lacks = []; gone = []
    refine fun th hth => ?_
    have s3 := Same.new (o := .dK []) hth
    refine ⟨szd rfl, fun la hla => ?_⟩
    have s4 := Same.new (o := .lst []) hla
    refine ⟨szd rfl, fun go hgo => ?_⟩
    have s5 := Same.new (o := .lst []) hgo
    have s15 := (((s1.trans s2).trans s3).trans s4).trans s5
    have thH : H th = none := Same.back (s1.trans s2) hth
    have laH : H la = none := Same.back ((s1.trans s2).trans s3) hla
    have goH : H go = none := Same.back (((s1.trans s2).trans s3).trans s4) hgo
    have ndth : nd ≠ th := ne_fresh (H := upd H1 nd _) upd_same hth
    have ndla : nd ≠ la := ne_fresh (s3 _ _ (upd_same (H := H1) (a := nd))) hla
    have ndgo : nd ≠ go := ne_fresh (s4 _ _ (s3 _ _ (upd_same (H := H1) (a := nd)))) hgo
    have thla : th ≠ la := ne_fresh (H := upd _ th _) upd_same hla
    have thgo : th ≠ go := ne_fresh (s4 _ _ upd_same) hgo
    have lago : la ≠ go := ne_fresh (H := upd _ la _) upd_same hgo
    refine ⟨_, rfl, r, _, rfl, s15.seq hS, for_it (walk_enum (K := K) (a := r) (xs := il row)) (fun i σ H' => (∃ v6 v7 v8, σ = [some (.int n), some (.ref r), some (.ref nd), some (.ref th), some (.ref la), some (.ref go), v6, v7, v8]) ∧ Same H H' ∧ H' nd = some (.dK (mergeK [] (kvS (spellsL row)))) ∧ H' th = some (.dK (kvN row i (bestTo n.toNat row i).C)) ∧
      H' la = some (.lst (NL (bestTo n.toNat row i).lacks)) ∧ ∃ as : List Addr, H' go = some (.lst (as.map V.ref)) ∧ TupsAt H' as (gV (bestTo n.toNat row i).gone)) ?_ (fun i σ H' _ h => h.2.1.seq hS) ?_ ?_⟩
    · refine ⟨⟨_, _, _, rfl⟩, s15, ?_, ?_, ?_, [], upd_same, TupsAt.nil⟩
      · rw [upd_ne ndgo, upd_ne ndla, upd_ne ndth, upd_same]
      · rw [upd_ne thgo, upd_ne thla, upd_same]; rfl
      · rw [upd_ne lago, upd_same]; rfl
    · rintro i x σ H2 H3 hi ⟨⟨v6, v7, v8, rfl⟩, s6, hnd2, hth2, hla2, as, hgo2, hg2⟩ ⟨t, x1, x2, rfl, ht, rfl, ha, hb⟩
      have ea : V.int (i : Nat) = x1 := Option.some.inj ha
      subst ea
      obtain ⟨p, hp, rfl⟩ := il_get hb
      rw [il_len] at hi
      have sT := Same.new (o := .tup [V.int (i : Nat), V.int p]) ht
      have Ok := bestTo_ok hn0 row i
      rw [bestTo_succ hp]
      unfold BS.step
      generalize hB : bestTo n.toNat row i = B at *
      have o1 := Ok.le
      have o2 := Ok.lk
      have o3 := Ok.gn
      have s7 := s6.trans sT
      have hnd3 := sT _ _ hnd2
      have hth3 := sT _ _ hth2
      have hla3 := sT _ _ hla2
      have hgo3 := sT _ _ hgo2
      have hg3 := hg2.same sT
      have hal : as.length ≤ i := by rw [hg2.len, List.length_map]; exact o3
      generalize hH3 : upd H2 t (.tup [V.int (i : Nat), V.int p]) = H3 at *
      refine ⟨t, _, rfl, SqT.of (by rw [← hH3]; exact upd_same), rfl, _, _, rfl, _, _, rfl, rfl, ?_⟩
      -- there[page] = next_asks.get(place, len(row))
      have ge := next_get hp
      refine ⟨_, rfl, _, rfl, th, _, rfl, DGet.k (k := Sum.inl p) hth3, _, rfl, ?_⟩
      rw [kvN_val]
      by_cases hin : p ∈ B.C
      · refine ifF (by rw [if_pos hin]; rfl) ?_
        rw [if_pos hin]
        refine ⟨_, rfl, nd, rfl, .inl ⟨_, .inl hnd3⟩, _, rfl, _, rfl, r, _, rfl, .inl (s7.seq hS), _, DGet.k (k := Sum.inl (i : Int)) hnd3, ?_⟩
        rw [il_len, ge]
        refine ⟨_, rfl, _, rfl, th, _, rfl, DPut.k (k := Sum.inl p) hth3 (szl (by unfold kvN; rw [List.length_map]; omega)), ?_⟩
        rw [kvN_put hp hin]
        refine ⟨⟨_, _, _, rfl⟩, Same.put s7 thH, by rw [upd_ne ndth]; exact hnd3, upd_same, by rw [upd_ne (Ne.symm thla)]; exact hla3, as, by rw [upd_ne (Ne.symm thgo)]; exact hgo3, hg3.put hth3 (by intro u z; cases z)⟩
      · refine ifT (by rw [if_neg hin]; rfl) ?_
        rw [if_neg hin]
        -- lacks.append(place)
        refine ⟨_, rfl, .inl ⟨rfl, _, SqL.of hla3⟩, _, rfl, la, _, _, rfl, rfl, hla3, szl (by rw [List.length_map]; omega), ?_⟩
        rw [NL_snoc]
        have s8 : Same H (upd H3 la (.lst (NL (B.lacks ++ [i])))) := Same.put s7 laH
        have hth4 : upd H3 la (.lst (NL (B.lacks ++ [i]))) th = some (.dK (kvN row i B.C)) := by rw [upd_ne thla]; exact hth3
        have hnd4 : upd H3 la (.lst (NL (B.lacks ++ [i]))) nd = some (.dK (mergeK [] (kvS (spellsL row)))) := by rw [upd_ne ndla]; exact hnd3
        have hgo4 : upd H3 la (.lst (NL (B.lacks ++ [i]))) go = some (.lst (as.map V.ref)) := by rw [upd_ne (Ne.symm lago)]; exact hgo3
        have hg4 : TupsAt (upd H3 la (.lst (NL (B.lacks ++ [i])))) as (gV B.gone) := hg3.put hla3 (by intro u z; cases z)
        have hla4 : upd H3 la (.lst (NL (B.lacks ++ [i]))) la = some (.lst (NL (B.lacks ++ [i]))) := upd_same
        generalize hH4 : upd H3 la (.lst (NL (B.lacks ++ [i]))) = H4 at *
        -- if len(there) == rooms
        refine ⟨_, rfl, th, _, rfl, hth4, _, rfl, rfl, _, rfl, ?_⟩
        have elen : (kvN row i B.C).length = B.C.length := List.length_map _
        by_cases hfull : B.C.length = n.toNat
        · refine ifT (decide_eq_true (by rw [elen]; exact congrArg V.int (by omega))) ?_
          rw [if_pos hfull]
          have hne : B.C ≠ [] := by intro z; rw [z] at hfull; simp at hfull; omega
          have F := far_ok (row := row) (i := i) hne
          -- leaving = _farthest(there)
          refine ⟨_, rfl, th, row, i, B.C, rfl, hth4, hne, by omega, fun H5 s9 => ?_⟩
          generalize hfar : far row i B.C = f at *
          have hgo5 := s9 _ _ hgo4
          -- gone.append((place, leaving))
          refine ⟨_, rfl, .inl ⟨rfl, _, SqL.of hgo5⟩, _, rfl, _, rfl, szd rfl, fun u hu' => ?_⟩
          have sU := Same.new (o := .tup [V.int (i : Nat), V.int f]) hu'
          have hgo6 := sU _ _ hgo5
          refine ⟨go, _, _, rfl, rfl, hgo6, szl (by rw [List.length_map]; omega), ?_⟩
          have s10 : Same H (upd (upd H5 u (.tup [V.int (i : Nat), V.int f])) go (.lst (as.map V.ref ++ [V.ref u]))) := Same.put ((s8.trans s9).trans sU) goH
          have hth6 : upd (upd H5 u (.tup [V.int (i : Nat), V.int f])) go (.lst (as.map V.ref ++ [V.ref u])) th = some (.dK (kvN row i B.C)) := by rw [upd_ne thgo]; exact (s9.trans sU) _ _ hth4
          have hnd6 : upd (upd H5 u (.tup [V.int (i : Nat), V.int f])) go (.lst (as.map V.ref ++ [V.ref u])) nd = some (.dK (mergeK [] (kvS (spellsL row)))) := by rw [upd_ne ndgo]; exact (s9.trans sU) _ _ hnd4
          have hla6 : upd (upd H5 u (.tup [V.int (i : Nat), V.int f])) go (.lst (as.map V.ref ++ [V.ref u])) la = some (.lst (NL (B.lacks ++ [i]))) := by rw [upd_ne lago]; exact (s9.trans sU) _ _ hla4
          have hgo7 : upd (upd H5 u (.tup [V.int (i : Nat), V.int f])) go (.lst (as.map V.ref ++ [V.ref u])) go = some (.lst ((as ++ [u]).map V.ref)) := by rw [upd_same, List.map_append]; rfl
          have hg6 : TupsAt (upd (upd H5 u (.tup [V.int (i : Nat), V.int f])) go (.lst (as.map V.ref ++ [V.ref u]))) (as ++ [u]) (gV (B.gone ++ [(i, f)])) := by
            rw [gV_snoc]
            exact ((hg4.same (s9.trans sU)).snoc (t := u) upd_same).put hgo6 (by intro u z; cases z)
          generalize hH6 : upd (upd H5 u (.tup [V.int (i : Nat), V.int f])) go (.lst (as.map V.ref ++ [V.ref u])) = H6 at *
          -- del there[leaving]
          refine ⟨_, rfl, _, rfl, th, _, Sum.inl f, rfl, hth6, rfl, by rw [kvN_val, if_pos F.mem]; rfl, ?_⟩
          rw [kvN_drop]
          have s11 : Same H (upd H6 th (.dK (kvN row i (B.C.filter (· != f))))) := Same.put s10 thH
          have hnd7 : upd H6 th (.dK (kvN row i (B.C.filter (· != f)))) nd = some (.dK (mergeK [] (kvS (spellsL row)))) := by rw [upd_ne ndth]; exact hnd6
          have hin2 : p ∉ B.C.filter (· != f) := fun z => hin (List.mem_filter.mp z).1
          have hfl := List.length_filter_le (· != f) B.C
          refine ⟨_, rfl, nd, rfl, .inl ⟨_, .inl hnd7⟩, _, rfl, _, rfl, r, _, rfl, .inl (s11.seq hS), _, DGet.k (k := Sum.inl (i : Int)) hnd7, ?_⟩
          rw [il_len, ge]
          refine ⟨_, rfl, _, rfl, th, _, rfl, DPut.k (k := Sum.inl p) upd_same (szl (by unfold kvN; rw [List.length_map]; omega)), ?_⟩
          rw [kvN_new hp hin2, upd_upd]
          exact ⟨⟨_, _, _, rfl⟩, Same.put s10 thH, by rw [upd_ne ndth]; exact hnd6, upd_same, by rw [upd_ne (Ne.symm thla)]; exact hla6, as ++ [u], by rw [upd_ne (Ne.symm thgo)]; exact hgo7, hg6.put hth6 (by intro u z; cases z)⟩
        · refine ifF (decide_eq_false (by intro z; injection z with z; rw [elen] at z; omega)) ?_
          rw [if_neg hfull]
          refine ⟨_, rfl, nd, rfl, .inl ⟨_, .inl hnd4⟩, _, rfl, _, rfl, r, _, rfl, .inl (s8.seq hS), _, DGet.k (k := Sum.inl (i : Int)) hnd4, ?_⟩
          rw [il_len, ge]
          refine ⟨_, rfl, _, rfl, th, _, rfl, DPut.k (k := Sum.inl p) hth4 (szl (by unfold kvN; rw [List.length_map]; omega)), ?_⟩
          rw [kvN_new hp hin]
          exact ⟨⟨_, _, _, rfl⟩, Same.put s8 thH, by rw [upd_ne ndth]; exact hnd4, upd_same, by rw [upd_ne (Ne.symm thla)]; exact hla4, as, by rw [upd_ne (Ne.symm thgo)]; exact hgo4, hg4.put hth4 (by intro u z; cases z)⟩
    · rintro σ H2 ⟨⟨v6, v7, v8, rfl⟩, s6, hnd2, hth2, hla2, as, hgo2, hg2⟩
      rw [il_len] at hla2 hg2
      refine ⟨_, rfl, _, rfl, szd rfl, fun t ht => ?_⟩
      have sT := Same.new (o := .tup [V.ref la, V.ref go]) ht
      exact k t la go as _ (Same.back s6 ht) laH goH lago (s6.trans sT) upd_same (sT _ _ hla2) (sT _ _ hgo2) (hg2.same sT)
theorem sc_best : FnScope ["rooms", "row"] ["rooms", "row"] (defScope (top 14)) := ⟨rfl, rfl, rfl, by decide +kernel, rfl, by decide +kernel, by decide +kernel⟩
theorem ok_best (T : Prog K mg) : FnOk P w K mg base CX0 3 T.best.f T.best.fd ["rooms", "row"] (spBest K) := by
  have G_check_rooms := ok_check_rooms (P := P) (w := w) (base := base) T
  have G_check_row := ok_check_row (P := P) (w := w) (base := base) T
  have G_find_best := ok_find_best (P := P) (w := w) (base := base) T
  refine T.best.fn.ok sc_best (fun vs H Q E h => ?len) (fun cdv A outer s H vs Q E hr h => ?body)
  case len =>
    obtain ⟨n, r, row, rfl, _⟩ := h
    rfl
  case body =>
    have hr_check_rooms : Room 1 _ := hr.mono (by decide)
    have hr_check_row : Room 2 _ := hr.mono (by decide)
    have hr_find_best : Room 2 _ := hr.mono (by decide)
    have hu := hu_of hr
    obtain ⟨n, r, row, rfl, n1, n8, hS, hR, k⟩ := h
    refine ⟨_, PSs.nox (pss_cons (ps_expr (pe_call G_check_rooms hr_check_rooms (by rfl) T.check_rooms.g T.check_rooms.fn.kp T.check_rooms.bd .nil pass0 (pa_cons (pv 0) pa_nil)))
        (pss_cons (ps_expr (pe_call G_check_row hr_check_row (by rfl) T.check_row.g T.check_row.fn.kp T.check_row.bd .nil pass0 (pa_cons (pv 1) pa_nil)))
        (pss_one (ps_ret (pe_call G_find_best hr_find_best (by rfl) T.find_best.g T.find_best.fn.kp T.find_best.bd .nil pass0 (pa_cons (pv 0) (pa_cons (pv 1) pa_nil))))))), ?_⟩
    have hR1 := hR.1
    refine ⟨_, rfl, n, rfl, n1, n8, ?_⟩
    refine ⟨_, rfl, r, row, rfl, hS, hR, fun H1 s1 => ?_⟩
    exact ⟨_, rfl, _, rfl, n, r, row, rfl, n1, n8, s1.seq hS, by omega, fun t l g as H2 ht hl hg lg s2 e1 e2 e3 e4 => k t l g as H2 (Same.back s1 ht) (Same.back s1 hl) (Same.back s1 hg) lg (s1.trans s2) e1 e2 e3 e4⟩
end
end CK

/-! The law's own best. -/
namespace CK
open PySem PySem.Spec PyProof.Rows L2
theorem cut_from (xs : List Int) (i : Nat) (h : i ≤ xs.length) : cutV (il xs) (some (0 + (i : Int))) none = il (xs.drop i) := by
  unfold cutV
  rw [HT.sIx_none, Int.zero_add, HT.sIx_nat, il_len, Nat.min_eq_left h]
  show ((xs.map V.int).drop i).take _ = (xs.drop i).map V.int
  rw [List.map_drop]
  exact List.take_of_length_le (by rw [List.length_drop, List.length_map]; exact Nat.le_refl _)
theorem mem_nxt {row : List Int} {i : Nat} {y : Int} (h : i ≤ row.length) : y ∈ row.drop i ↔ nxt row y i < row.length := by
  unfold nxt
  rw [← List.idxOf_lt_length_iff, List.length_drop]
  omega
theorem two_in {L : List Int} {f : Int} (nd : L.Nodup) (h : 1 < L.length) : ∃ y ∈ L, y ≠ f := by
  match L, nd, h with
  | a :: b :: r, nd, _ =>
    by_cases e : a = f
    · refine ⟨b, by simp, fun z => ?_⟩
      have := (List.nodup_cons.mp nd).1
      rw [e, ← z] at this
      exact this (by simp)
    · exact ⟨a, by simp, e⟩
/-- the farthest isn't let go while another is left -/
theorem left_step {row : List Int} {i : Nat} {C L : List Int} {f q : Int} {k : Nat} (F : IsFar row i C f) (hi : i ≤ row.length) (nd : L.Nodup) (sub : ∀ y ∈ L, y ∈ C) (all : ∀ y ∈ C, y ∈ row.drop i) (inv : ∀ y ∈ L, y = f ∨ y ∉ (row.drop i).take k) (hq : (row.drop i)[k]? = some q) (two : 1 < L.length) : q ≠ f := by
  intro e
  subst e
  obtain ⟨y, hy, ne⟩ := two_in (f := q) nd two
  have hn := (inv y hy).resolve_left ne
  have hR := all y (sub y hy)
  have h1 := F.far y (sub y hy)
  unfold nxt at h1
  have hk := (List.getElem?_eq_some_iff.mp hq).1
  have h2 : (row.drop i).idxOf q ≤ k := by
    refine Nat.le_of_not_lt fun z => ?_
    exact idx_before z hq
  have h3 : (row.drop i).idxOf y < (row.drop i).length := List.idxOf_lt_length_of_mem hR
  have h4 : (row.drop i)[(row.drop i).idxOf y]? = some y := by rw [List.getElem?_eq_getElem h3, List.getElem_idxOf h3]
  by_cases z : (row.drop i).idxOf y = k
  · rw [z, hq] at h4
    exact ne (Option.some.inj h4).symm
  · refine hn ?_
    have h5 : ((row.drop i).take k)[(row.drop i).idxOf y]? = some y := by
      rw [List.getElem?_take, if_pos (by omega)]
      exact h4
    exact List.mem_of_getElem? h5
section
variable {P : Program} {w : World} {K : PySem.W.Frag} {mg : Str → Option Value} {base : Heap}
theorem sc_law_best : FnScope ["_law_rooms", "_law_row_here", "_law_kept", "_law_lacks", "_law_gone", "_law_place", "_law_left", "_law_page", "_law_never", "_law_one"] ["_law_rooms", "_law_row_here"] (defScope (top 22)) := ⟨rfl, rfl, rfl, by decide +kernel, rfl, by decide +kernel, by decide +kernel⟩
theorem ok_law_best (T : Prog K mg) : FnOk P w K mg base CX0 1 T.law_best.f T.law_best.fd ["_law_rooms", "_law_row_here"] (spBest K) := by
  refine T.law_best.fn.ok sc_law_best (fun vs H Q E h => ?len) (fun cdv A outer s H vs Q E hr h => ?body)
  case len =>
    obtain ⟨n, r, row, rfl, _⟩ := h
    rfl
  case body =>
    have hu := hu_of hr
    obtain ⟨n, r, row, rfl, n1, n8, hS, hR, k⟩ := h
    refine ⟨_, PSs.nox (pss_cons (ps_set (i := 2) sc_law_best.nd rfl (Or.inl rfl) (pe_lst pa_nil))
        (pss_cons (ps_set (i := 3) sc_law_best.nd rfl (Or.inl rfl) (pe_lst pa_nil))
        (pss_cons (ps_set (i := 4) sc_law_best.nd rfl (Or.inr rfl) (pe_lst pa_nil))
        (pss_cons (ps_for PassesOwn.never rfl (pi_range1 (by rfl) T.range (pa_cons (pe_callB call_len_seq (by rfl) T.len PySem.boot_len (pa_cons (pv 1) pa_nil)) pa_nil)) (pg_name (i := 5) sc_law_best.nd rfl (Or.inr rfl))
        (pss_cons (ps_if (pt_cmpR op_in_seq (pe_ix ix_list (pv 1) (pv 5) (fun _ _ => rfl)) (pv 2) (by rfl))
        (pss_one ps_continue)
        pss_nil)
        (pss_cons (ps_expr (pe_bm PySem.F.plainAttrs_list PySem.F.slot_list_append PySem.F.type_list_append mt_append (pv 3) (pa_cons (pv 5) pa_nil)))
        (pss_cons (ps_if (pt_cmpR op_eq (pe_callB call_len_seq (by rfl) T.len PySem.boot_len (pa_cons (pv 2) pa_nil)) (pv 0) (nomark _))
        (pss_cons (ps_set (i := 6) sc_law_best.nd rfl (Or.inl rfl) (pe_callB cr_sorted (by rfl) T.sorted (by decide +kernel) (pa_cons (pv 2) pa_nil)))
        (pss_cons (ps_for PassesOwn.never rfl (pi_list (pe_slice sl_list (pv 1) (po_some (pv 5)) po_none)) (pg_name (i := 7) sc_law_best.nd rfl (Or.inr rfl))
        (pss_one (ps_if (PW.pt (pw_and (pt_cmpR op_in_seq (pv 7) (pv 6) (by rfl)) (pw_and (pt_cmpR op_gt (pe_callB call_len_seq (by rfl) T.len PySem.boot_len (pa_cons (pv 6) pa_nil)) pe_int (nomark _)) (pw_and1 (pt_cmpR (op_neD hr.units) (pe_lc (own := [("_law_one", 9)]) (g := gName 9) (tt := (tTest (tOp (rIn K false) (tVar 9) (tSl (rSlL K) (tVar 1) _ _)))) (te := (tVar 9)) rfl sc_law_best.nd ((pi_list (pv 6))) (blkOk_by (own := [("_law_one", 9)]) (N := ["_law_rooms", "_law_row_here", "_law_kept", "_law_lacks", "_law_gone", "_law_place", "_law_left", "_law_page", "_law_never", "_law_one"]) (sc := defScope (top 22)) (by decide +kernel)) (fun _ _ _ _ _ => (by exact (pg_name (i := 9) sc_law_best.nd rfl (Or.inl rfl)))) (fun _ _ _ _ _ => (by exact (pts_one (pt_cmpR op_in_seq (pv 9) (pe_slice sl_list (pv 1) (po_some (pv 5)) po_none) (by rfl))))) (fun _ _ _ _ _ => (by exact (pv 9)))) (pe_lst pa_nil) (nomark _))))))
        (pss_one (ps_setLc (i := 6) (own := [("_law_one", 9)]) (g := gName 9) rfl sc_law_best.nd rfl rfl (sw_true rfl rfl rfl (by decide +kernel)) ((pi_list (pv 6))) (blkOk_by (own := [("_law_one", 9)]) (N := ["_law_rooms", "_law_row_here", "_law_kept", "_law_lacks", "_law_gone", "_law_place", "_law_left", "_law_page", "_law_never", "_law_one"]) (sc := defScope (top 22)) (by decide +kernel)) (fun _ _ _ _ _ => (by exact (pg_name (i := 9) sc_law_best.nd rfl (Or.inl rfl)))) (fun _ _ _ _ _ => (by exact (pts_one (pt_cmpR op_ne (pv 9) (pv 7) (nomark _))))) (fun _ _ _ _ _ => (by exact (pv 9)))))
        pss_nil)))
        (pss_cons (ps_setLc (i := 8) (own := [("_law_page", 7)]) (g := gName 7) (tt := (tTest (tOp (rIn K true) (tVar 7) (tSl (rSlL K) (tVar 1) _ _)))) (te := (tVar 7)) rfl sc_law_best.nd rfl rfl (sw_true rfl rfl rfl (by decide +kernel)) ((pi_list (pe_callB cr_sorted (by rfl) T.sorted (by decide +kernel) (pa_cons (pv 2) pa_nil)))) (blkOk_by (own := [("_law_page", 7)]) (N := ["_law_rooms", "_law_row_here", "_law_kept", "_law_lacks", "_law_gone", "_law_place", "_law_left", "_law_page", "_law_never", "_law_one"]) (sc := defScope (top 22)) (by decide +kernel)) (fun _ _ _ _ _ => (by exact (pg_name (i := 7) sc_law_best.nd rfl (Or.inl rfl)))) (fun _ _ _ _ _ => (by exact (pts_one (pt_cmpR op_notIn_seq (pv 7) (pe_slice sl_list (pv 1) (po_some (pv 5)) po_none) (by rfl))))) (fun _ _ _ _ _ => (by exact (pv 7))))
        (pss_cons (ps_expr (pe_bm PySem.F.plainAttrs_list PySem.F.slot_list_append PySem.F.type_list_append mt_append (pv 4) (pa_cons (pe_tup (pa_cons (pv 5) (pa_cons (pe_ifExp (pt_cmpR (op_neD hr.units) (pv 8) (pe_lst pa_nil) (nomark _)) (pe_ix ix_list (pv 8) pe_int (fun _ _ => rfl)) (pe_ix ix_list (pv 6) pe_int (fun _ _ => rfl))) pa_nil))) pa_nil)))
        (pss_one (ps_setLc (i := 2) (own := [("_law_page", 7)]) (g := gName 7) (tt := (tTest (tOp _ (tVar 7) (tOp (rIxT K) (tOp (rIxL K) (tVar 4) _) (tC (.int 1)))))) (te := (tVar 7)) rfl sc_law_best.nd rfl rfl (sw_true rfl rfl rfl (by decide +kernel)) ((pi_list (pv 2))) (blkOk_by (own := [("_law_page", 7)]) (N := ["_law_rooms", "_law_row_here", "_law_kept", "_law_lacks", "_law_gone", "_law_place", "_law_left", "_law_page", "_law_never", "_law_one"]) (sc := defScope (top 22)) (by decide +kernel)) (fun _ _ _ _ _ => (by exact (pg_name (i := 7) sc_law_best.nd rfl (Or.inl rfl)))) (fun _ _ _ _ _ => (by exact (pts_one (pt_cmpR op_ne (pv 7) (pe_ix ix_tup (pe_ix ix_list (pv 4) (pe_un un_neg pe_int) (fun _ _ => rfl)) pe_int (fun _ _ => rfl)) (nomark _))))) (fun _ _ _ _ _ => (by exact (pv 7)))))))))
        pss_nil)
        (pss_one (ps_expr (pe_bm PySem.F.plainAttrs_list PySem.F.slot_list_append PySem.F.type_list_append mt_append (pv 2) (pa_cons (pe_ix ix_list (pv 1) (pv 5) (fun _ _ => rfl)) pa_nil))))))))
        (pss_one (ps_ret (pe_tup (pa_cons (pv 3) (pa_cons (pv 4) pa_nil))))))))), ?_⟩
    have hR1 := hR.1
    have hn0 : 0 < n.toNat := by omega
    refine ⟨szd rfl, fun kp0 hkp0 => ⟨szd rfl, fun la hla => ⟨szd rfl, fun go hgo => ?_⟩⟩⟩
    have s1 := Same.new (o := .lst []) hkp0
    have s2 := Same.new (o := .lst []) hla
    have s3 := Same.new (o := .lst []) hgo
    have s13 := (s1.trans s2).trans s3
    have laH : H la = none := Same.back s1 hla
    have goH : H go = none := Same.back (s1.trans s2) hgo
    have kpla : kp0 ≠ la := ne_fresh (H := upd H kp0 _) upd_same hla
    have kpgo : kp0 ≠ go := ne_fresh (s2 _ _ (upd_same (H := H) (a := kp0))) hgo
    have lago : la ≠ go := ne_fresh (H := upd _ la _) upd_same hgo
    refine ⟨_, rfl, r, _, rfl, .inl (s13.seq hS), _, rfl, by omega, by rw [il_len]; omega, ?_⟩
    refine for_range (lo := 0) (n := ((il row).length : Int).toNat) (fun i σ H' => ∃ (kp : Addr) (as : List Addr), (∃ v5 v6 v7 v8 v9, σ = [some (.int n), some (.ref r), some (.ref kp), some (.ref la), some (.ref go), v5, v6, v7, v8, v9]) ∧ Same H H' ∧ H kp = none ∧ kp ≠ la ∧ kp ≠ go ∧ H' kp = some (.lst (il (bestTo n.toNat row i).C)) ∧
      H' la = some (.lst (NL (bestTo n.toNat row i).lacks)) ∧ H' go = some (.lst (as.map V.ref)) ∧ TupsAt H' as (gV (bestTo n.toNat row i).gone)) ?_ ?_ ?_
    · exact ⟨kp0, [], ⟨_, _, _, _, _, rfl⟩, s13, hkp0, kpla, kpgo, by rw [upd_ne kpgo, upd_ne kpla, upd_same]; rfl, by rw [upd_ne lago, upd_same]; rfl, upd_same, TupsAt.nil⟩
    · rintro i σ H1 hi ⟨kp, as, ⟨v5, v6, v7, v8, v9, rfl⟩, s4, kpH, kpla, kpgo, hkp1, hla1, hgo1, hg1⟩
      have hi' : i < row.length := by rw [il_len] at hi; omega
      have ei : row[i]? = some (row[i]'hi') := List.getElem?_eq_getElem hi'
      have hat : atI (il row) (0 + (i : Int)) = some (V.int (row[i]'hi')) := by rw [Int.zero_add]; exact atI_nat (il_at ei)
      have Ok := bestTo_ok hn0 row i
      rw [bestTo_succ ei]
      unfold BS.step
      generalize row[i]'hi' = p at *
      generalize hB : bestTo n.toNat row i = B at *
      have o1 := Ok.le
      have o2 := Ok.lk
      have o3 := Ok.gn
      have hal : as.length ≤ i := by rw [hg1.len, List.length_map]; exact o3
      have cutR := cut_from row i (Nat.le_of_lt hi')
      -- if row[place] in kept: continue
      refine ⟨_, rfl, _, rfl, r, _, _, _, rfl, rfl, s4.seq hS, hat, _, rfl, kp, _, rfl, .inl (SqL.of hkp1), rfl, flat_il _, _, rfl, ?_⟩
      have e0 : (if false = true then !inV (V.int p) (il B.C) else inV (V.int p) (il B.C)) = decide (p ∈ B.C) := by rw [if_neg (by simp), inV_il]
      by_cases hin : p ∈ B.C
      · refine ifT (by rw [e0]; exact decide_eq_true hin) ?_
        rw [if_pos hin]
        exact ⟨kp, as, ⟨_, _, _, _, _, rfl⟩, s4, kpH, kpla, kpgo, hkp1, hla1, hgo1, hg1⟩
      refine ifF (by rw [e0]; exact decide_eq_false hin) ?_
      rw [if_neg hin]
      -- lacks.append(place)
      refine ⟨_, rfl, .inl ⟨rfl, _, SqL.of hla1⟩, _, rfl, la, _, _, rfl, rfl, hla1, szl (by rw [List.length_map]; omega), ?_⟩
      rw [Int.zero_add] at hat cutR ⊢
      rw [NL_snoc]
      have s5 : Same H (upd H1 la (.lst (NL (B.lacks ++ [i])))) := Same.put s4 laH
      have hkp2 : upd H1 la (.lst (NL (B.lacks ++ [i]))) kp = some (.lst (il B.C)) := by rw [upd_ne kpla]; exact hkp1
      have hgo2 : upd H1 la (.lst (NL (B.lacks ++ [i]))) go = some (.lst (as.map V.ref)) := by rw [upd_ne (Ne.symm lago)]; exact hgo1
      have hg2 : TupsAt (upd H1 la (.lst (NL (B.lacks ++ [i])))) as (gV B.gone) := hg1.put hla1 (by intro u z; cases z)
      have hla2 : upd H1 la (.lst (NL (B.lacks ++ [i]))) la = some (.lst (NL (B.lacks ++ [i]))) := upd_same
      generalize hH2 : upd H1 la (.lst (NL (B.lacks ++ [i]))) = H2 at *
      -- if len(kept) == rooms
      refine ⟨_, rfl, kp, _, rfl, .inl (SqL.of hkp2), _, rfl, rfl, _, rfl, ?_⟩
      by_cases hfull : B.C.length = n.toNat
      · refine ifT (decide_eq_true (by rw [il_len]; exact congrArg V.int (by omega))) ?_
        rw [if_pos hfull]
        have hne : B.C ≠ [] := by intro z; rw [z] at hfull; simp at hfull; omega
        have F := far_ok (row := row) (i := i) hne
        generalize far row i B.C = f at *
        -- left = sorted(kept)
        refine ⟨_, rfl, kp, B.C, rfl, SqL.of hkp2, by omega, fun L0 l0 perm0 _ hl0 => ?_⟩
        have s6 := Same.new (o := .lst (L0.map V.int)) hl0
        -- for page in row[place:]
        refine ⟨_, rfl, _, rfl, _, rfl, r, _, rfl, (s5.trans s6).seq hS, fun m hm => ?_⟩
        rw [cutR]
        have s7 := Same.new (o := .lst (il (row.drop i))) hm
        have s57 := (s5.trans s6).trans s7
        refine ⟨m, rfl, ⟨_, SqL.of upd_same⟩, for_list (K := K) (a := m) (xs := il (row.drop i)) (fun j σ H' => ∃ (lf : Addr) (L : List Int), (∃ v7 v8 v9, σ = [some (.int n), some (.ref r), some (.ref kp), some (.ref la), some (.ref go), some (.int (i : Nat)), some (.ref lf), v7, v8, v9]) ∧ Same H2 H' ∧ H' lf = some (.lst (il L)) ∧ H' m = some (.lst (il (row.drop i))) ∧ L.Nodup ∧ (∀ y ∈ L, y ∈ B.C) ∧ L.length ≤ 8 ∧
          ((∀ y ∈ B.C, y ∈ row.drop i) → f ∈ L ∧ ∀ y ∈ L, y = f ∨ y ∉ (row.drop i).take j)) ?_ (fun j σ H' _ h => by obtain ⟨_, _, _, _, _, q, _⟩ := h; exact SqL.of q) ?_ ?_⟩
        · refine ⟨l0, L0, ⟨_, _, _, rfl⟩, s6.trans s7, s7 _ _ upd_same, upd_same, perm0.nodup_iff.mpr Ok.nd, fun y hy => perm0.mem_iff.mp hy, by rw [perm0.length_eq]; omega, fun _ => ⟨perm0.mem_iff.mpr F.mem, fun y _ => .inr (by simp)⟩⟩
        · rintro j x σ H3 hx ⟨lf, L, ⟨v7, v8, v9, rfl⟩, s8, hlf3, hm3, ndL, subL, leL, inv⟩
          obtain ⟨q, hq, rfl⟩ := il_get hx
          have tk : (row.drop i).take (j + 1) = (row.drop i).take j ++ [q] := take_snoc hq
          have stay : (q ∉ L ∨ ¬ 1 < L.length) → ((∀ y ∈ B.C, y ∈ row.drop i) → f ∈ L ∧ ∀ y ∈ L, y = f ∨ y ∉ (row.drop i).take (j + 1)) := by
            intro h all
            obtain ⟨i1, i2⟩ := inv all
            refine ⟨i1, fun y hy => ?_⟩
            rcases h with h | h
            · rcases i2 y hy with z | z
              · exact .inl z
              · refine .inr (by rw [tk]; simp [z]; intro e; rw [e] at hy; exact h hy)
            · refine .inl ?_
              match L, h, i1, hy with
              | [a], _, i1, hy => rw [List.mem_singleton.mp hy, List.mem_singleton.mp i1]
              | a :: b :: r, h, _, _ => exact absurd (by simp) h
          have s28 := s5.trans s8
          -- page in left
          refine ⟨_, rfl, _, rfl, lf, _, rfl, .inl (SqL.of hlf3), rfl, flat_il _, _, rfl, ?_⟩
          have e1 : (if false = true then !inV (V.int q) (il L) else inV (V.int q) (il L)) = decide (q ∈ L) := by rw [if_neg (by simp), inV_il]
          by_cases hqL : q ∈ L
          · refine ifT (by rw [e1]; exact decide_eq_true hqL) ?_
            -- len(left) > 1
            refine ⟨_, rfl, lf, _, rfl, .inl (SqL.of hlf3), _, _, rfl, rfl, _, rfl, ?_⟩
            by_cases h2 : 1 < L.length
            · refine ifT (decide_eq_true (by rw [il_len]; omega)) ?_
              -- [one for one in left if one in row[place:]] != []
              refine ⟨_, rfl, lf, rfl, ⟨_, SqL.of hlf3⟩, fun D hD => ?_⟩
              refine lc_list (K := K) (a := lf) (xs := il L) (fun t H' => H' D = some (.lst (il ((L.take t).filter fun y => decide (y ∈ row.drop i)))) ∧ Same H3 H') ⟨upd_same, Same.new hD⟩ (fun t H' _ h => SqL.of (h.2 _ _ hlf3)) ?_ ?_
              · rintro t y H4 hy ⟨hD4, s9⟩
                obtain ⟨z, hz, rfl⟩ := il_get hy
                have hle := List.length_filter_le (fun y => decide (y ∈ row.drop i)) (L.take t)
                rw [List.length_take] at hle
                rw [take_snoc hz, List.filter_append]
                refine ⟨rfl, _, rfl, _, rfl, _, rfl, _, rfl, r, _, rfl, (s28.trans s9).seq hS, fun m2 hm2 => ?_⟩
                rw [cutR]
                have s10 := Same.new (o := .lst (il (row.drop i))) hm2
                refine ⟨m2, _, rfl, .inl (SqL.of upd_same), rfl, flat_il _, _, rfl, ?_⟩
                have e2 : (if false = true then !inV (V.int z) (il (row.drop i)) else inV (V.int z) (il (row.drop i))) = decide (z ∈ row.drop i) := by rw [if_neg (by simp), inV_il]
                by_cases hzR : z ∈ row.drop i
                · refine ifT (by rw [e2]; exact decide_eq_true hzR) ⟨_, rfl, _, s10 _ _ hD4, szl (by rw [il_len]; omega), ?_, Same.put (s9.trans s10) hD⟩
                  rw [upd_same, il_snoc]
                  simp [hzR]
                · refine ifF (by rw [e2]; exact decide_eq_false hzR) ⟨?_, s9.trans s10⟩
                  have := s10 _ _ hD4
                  simpa [hzR] using this
              · rintro H4 ⟨hD4, s9⟩
                rw [List.take_of_length_le (by simp)] at hD4
                refine ⟨szd rfl, fun z hz => ?_⟩
                have s10 := Same.new (o := .lst []) hz
                refine ⟨pd _, pd [], dp_il (SqL.of (s10 _ _ hD4)), dp_il (ns := []) (SqL.of upd_same), shaped_il _, shaped_il _, _, rfl, ?_⟩
                rw [eqv_il]
                have s11 := s9.trans s10
                have hlf5 := s11 _ _ hlf3
                have hm5 := s11 _ _ hm3
                by_cases h3 : (L.filter fun y => decide (y ∈ row.drop i)) = []
                · refine ifF (by simp [h3]) ?_
                  refine ⟨lf, L, ⟨_, _, _, rfl⟩, s8.trans s11, hlf5, hm5, ndL, subL, leL, fun all => ?_⟩
                  exfalso
                  have : f ∈ L.filter fun y => decide (y ∈ row.drop i) := List.mem_filter.mpr ⟨(inv all).1, decide_eq_true (all f F.mem)⟩
                  rw [h3] at this
                  cases this
                · refine ifT (by simp [h3]) ?_
                  -- left = [one for one in left if one != page]
                  refine ⟨_, rfl, lf, rfl, ⟨_, SqL.of hlf5⟩, fun G hG => ?_⟩
                  refine lc_list (K := K) (a := lf) (xs := il L) (fun t H' => H' G = some (.lst (il ((L.take t).filter (· != q)))) ∧ Same (upd H4 z (.lst [])) H') ⟨upd_same, Same.new hG⟩ (fun t H' _ h => SqL.of (h.2 _ _ hlf5)) ?_ ?_
                  · rintro t y H5 hy ⟨hG5, s12⟩
                    obtain ⟨u, hu', rfl⟩ := il_get hy
                    have hle := List.length_filter_le (· != q) (L.take t)
                    rw [List.length_take] at hle
                    rw [take_snoc hu', List.filter_append]
                    refine ⟨rfl, _, rfl, _, rfl, rfl, _, rfl, ?_⟩
                    by_cases huq : u = q
                    · refine ifF (by simp [huq]) ⟨?_, s12⟩
                      simpa [huq] using hG5
                    · refine ifT (by simp [huq]) ⟨_, rfl, _, hG5, szl (by rw [il_len]; omega), ?_, Same.put s12 hG⟩
                      rw [upd_same, il_snoc]
                      simp [huq]
                  · rintro H5 ⟨hG5, s12⟩
                    rw [List.take_of_length_le (by simp)] at hG5
                    have hfl := List.length_filter_le (· != q) L
                    refine ⟨G, L.filter (· != q), ⟨_, _, _, rfl⟩, (s8.trans s11).trans s12, hG5, s12 _ _ hm5, ndL.filter _, fun y hy => subL y (List.mem_filter.mp hy).1, by omega, fun all => ?_⟩
                    obtain ⟨i1, i2⟩ := inv all
                    have qf := left_step F (Nat.le_of_lt hi') ndL subL all i2 hq h2
                    refine ⟨List.mem_filter.mpr ⟨i1, by simpa using Ne.symm qf⟩, fun y hy => ?_⟩
                    have hy2 := List.mem_filter.mp hy
                    rcases i2 y hy2.1 with z | z
                    · exact .inl z
                    · refine .inr (by rw [tk]; simp [z]; simpa using hy2.2)
            · refine ifF (decide_eq_false (by rw [il_len]; omega)) ?_
              exact ⟨lf, L, ⟨_, _, _, rfl⟩, s8, hlf3, hm3, ndL, subL, leL, stay (.inr h2)⟩
          · refine ifF (by rw [e1]; exact decide_eq_false hqL) ?_
            exact ⟨lf, L, ⟨_, _, _, rfl⟩, s8, hlf3, hm3, ndL, subL, leL, stay (.inl hqL)⟩
        · rintro σ H3 ⟨lf, L, ⟨v7, v8, v9, rfl⟩, s8, hlf3, hm3, ndL, subL, leL, inv⟩
          have hkp3 := s8 _ _ hkp2
          have s28 := s5.trans s8
          -- never
          refine ⟨_, rfl, kp, B.C, rfl, SqL.of hkp3, by omega, fun N0 p0 perm1 sort1 hp0 => ?_⟩
          have s9 := Same.new (o := .lst (N0.map V.int)) hp0
          have lN : N0.length ≤ 8 := by rw [perm1.length_eq]; omega
          refine ⟨p0, rfl, ⟨_, SqL.of upd_same⟩, fun D hD => ?_⟩
          refine lc_list (K := K) (a := p0) (xs := il N0) (fun t H' => H' D = some (.lst (il ((N0.take t).filter fun y => !decide (y ∈ row.drop i)))) ∧ Same (upd H3 p0 (.lst (N0.map V.int))) H') ⟨upd_same, Same.new hD⟩ (fun t H' _ h => SqL.of (h.2 _ _ upd_same)) ?_ ?_
          · rintro t y H4 hy ⟨hD4, s10⟩
            obtain ⟨z, hz, rfl⟩ := il_get hy
            have hle := List.length_filter_le (fun y => !decide (y ∈ row.drop i)) (N0.take t)
            rw [List.length_take] at hle
            rw [take_snoc hz, List.filter_append]
            refine ⟨rfl, _, rfl, _, rfl, _, rfl, _, rfl, r, _, rfl, ((s28.trans s9).trans s10).seq hS, fun m2 hm2 => ?_⟩
            rw [cutR]
            have s11 := Same.new (o := .lst (il (row.drop i))) hm2
            refine ⟨m2, _, rfl, .inl (SqL.of upd_same), rfl, flat_il _, _, rfl, ?_⟩
            have e2 : (if true = true then !inV (V.int z) (il (row.drop i)) else inV (V.int z) (il (row.drop i))) = !decide (z ∈ row.drop i) := by rw [if_pos rfl, inV_il]
            by_cases hzR : z ∈ row.drop i
            · refine ifF (by rw [e2]; simp [hzR]) ⟨?_, s10.trans s11⟩
              have := s11 _ _ hD4
              simpa [hzR] using this
            · refine ifT (by rw [e2]; simp [hzR]) ⟨_, rfl, _, s11 _ _ hD4, szl (by rw [il_len]; omega), ?_, Same.put (s10.trans s11) hD⟩
              rw [upd_same, il_snoc]
              simp [hzR]
          · rintro H4 ⟨hD4, s10⟩
            rw [List.take_of_length_le (by simp)] at hD4
            have hgo4 := s10 _ _ (s9 _ _ (s8 _ _ hgo2))
            -- gone.append((place, ..))
            refine ⟨_, rfl, .inl ⟨rfl, _, SqL.of hgo4⟩, _, rfl, _, rfl, szd rfl, fun z hz => ?_⟩
            have s11 := Same.new (o := .lst []) hz
            refine ⟨pd _, pd [], dp_il (SqL.of (s11 _ _ hD4)), dp_il (ns := []) (SqL.of upd_same), shaped_il _, shaped_il _, _, rfl, ?_⟩
            rw [eqv_il]
            have s2m := ((s8.trans s9).trans s10).trans s11
            have hgo5 := s2m _ _ hgo2
            have hkp5 := s2m _ _ hkp2
            have hla5 := s2m _ _ hla2
            have hg5 := hg2.same s2m
            have hD5 := s11 _ _ hD4
            have hlf5 := (s9.trans (s10.trans s11)) _ _ hlf3
            generalize hH5 : upd H4 z (.lst []) = H5 at *
            have sH5 : Same H H5 := s5.trans s2m
            by_cases hnev : (N0.filter fun y => !decide (y ∈ row.drop i)) = []
            · refine ifF (by simp [hnev]) ?_
              have all : ∀ y ∈ B.C, y ∈ row.drop i := fun y hy => by
                have q := List.filter_eq_nil_iff.mp hnev y (perm1.mem_iff.mpr hy)
                simpa using q
              obtain ⟨i1, i2⟩ := inv all
              have eL : (il L)[0]? = some (V.int f) := by
                match L, i1, i2, subL with
                | a :: L', i1, i2, subL =>
                  have := i2 a List.mem_cons_self
                  rw [il_len, List.take_length] at this
                  have e : a = f := this.resolve_right fun z => z (all a (subL a List.mem_cons_self))
                  rw [e]
                  rfl
              refine ⟨_, rfl, lf, _, _, V.int f, rfl, rfl, SqL.of hlf5, atI_nat (j := 0) eL, szd rfl, fun u hu' => ?_⟩
              have sU := Same.new (o := .tup [V.int (i : Nat), V.int f]) hu'
              have hgo6 := sU _ _ hgo5
              have ugo : u ≠ go := ne_of (upd_same (H := H5) (a := u) (o := .tup [V.int (i : Nat), V.int f])) hgo6 (by intro z; cases z)
              refine ⟨go, _, _, rfl, rfl, hgo6, szl (by rw [List.length_map]; omega), ?_⟩
              have s12 : Same H (upd (upd H5 u (.tup [V.int (i : Nat), V.int f])) go (.lst (as.map V.ref ++ [V.ref u]))) := Same.put (sH5.trans sU) goH
              have hkp7 : upd (upd H5 u (.tup [V.int (i : Nat), V.int f])) go (.lst (as.map V.ref ++ [V.ref u])) kp = some (.lst (il B.C)) := by rw [upd_ne kpgo]; exact sU _ _ hkp5
              have hla7 : upd (upd H5 u (.tup [V.int (i : Nat), V.int f])) go (.lst (as.map V.ref ++ [V.ref u])) la = some (.lst (NL (B.lacks ++ [i]))) := by rw [upd_ne lago]; exact sU _ _ hla5
              have hgo7 : upd (upd H5 u (.tup [V.int (i : Nat), V.int f])) go (.lst (as.map V.ref ++ [V.ref u])) go = some (.lst (as.map V.ref ++ [V.ref u])) := upd_same
              have hu7 : upd (upd H5 u (.tup [V.int (i : Nat), V.int f])) go (.lst (as.map V.ref ++ [V.ref u])) u = some (.tup [V.int (i : Nat), V.int f]) := by rw [upd_ne ugo, upd_same]
              have hg7 : TupsAt (upd (upd H5 u (.tup [V.int (i : Nat), V.int f])) go (.lst (as.map V.ref ++ [V.ref u]))) (as ++ [u]) (gV (B.gone ++ [(i, f)])) := by
                rw [gV_snoc]
                exact ((hg5.same sU).snoc (t := u) upd_same).put hgo6 (by intro u z; cases z)
              generalize hH7 : upd (upd H5 u (.tup [V.int (i : Nat), V.int f])) go (.lst (as.map V.ref ++ [V.ref u])) = H7 at *
              -- kept = [page for page in kept if page != gone[-1][1]]
              refine ⟨_, rfl, kp, rfl, ⟨_, SqL.of hkp7⟩, fun G hG => ?_⟩
              have hGH : H G = none := Same.back s12 hG
              have Gla : G ≠ la := Ne.symm (ne_fresh hla7 hG)
              have Ggo : G ≠ go := Ne.symm (ne_fresh hgo7 hG)
              refine lc_list (K := K) (a := kp) (xs := il B.C) (fun t H' => H' G = some (.lst (il ((B.C.take t).filter (· != f)))) ∧ Same H7 H') ⟨upd_same, Same.new hG⟩ (fun t H' _ h => SqL.of (h.2 _ _ hkp7)) ?_ ?_
              · rintro t y H8 hy ⟨hG8, s13⟩
                obtain ⟨x, hx', rfl⟩ := il_get hy
                have hle := List.length_filter_le (· != f) (B.C.take t)
                rw [List.length_take] at hle
                rw [take_snoc hx', List.filter_append]
                refine ⟨rfl, _, rfl, _, rfl, _, rfl, go, _, _, V.ref u, rfl, rfl, SqL.of (s13 _ _ hgo7), atI_last _ _, u, _, _, V.int f, rfl, rfl, SqT.of (s13 _ _ hu7), atI_nat (j := 1) rfl, rfl, _, rfl, ?_⟩
                by_cases hxf : x = f
                · refine ifF (by simp [hxf]) ⟨?_, s13⟩
                  simpa [hxf] using hG8
                · refine ifT (by simp [hxf]) ⟨_, rfl, _, hG8, szl (by rw [il_len]; omega), ?_, Same.put s13 hG⟩
                  rw [upd_same, il_snoc]
                  simp [hxf]
              · rintro H8 ⟨hG8, s13⟩
                rw [List.take_of_length_le (by simp)] at hG8
                have hfl := List.length_filter_le (· != f) B.C
                have s128 := s12.trans s13
                refine ⟨_, rfl, .inl ⟨rfl, _, SqL.of hG8⟩, _, rfl, _, rfl, r, _, _, _, rfl, rfl, s128.seq hS, hat, G, _, _, rfl, rfl, hG8, szl (by rw [il_len]; omega), ?_⟩
                rw [il_snoc]
                exact ⟨G, as ++ [u], ⟨_, _, _, _, _, rfl⟩, Same.put s128 hGH, hGH, Gla, Ggo, upd_same, by rw [upd_ne (Ne.symm Gla)]; exact s13 _ _ hla7, by rw [upd_ne (Ne.symm Ggo), List.map_append]; exact s13 _ _ hgo7, (hg7.same s13).put hG8 (by intro u z; cases z)⟩
            · refine ifT (by simp [hnev]) ?_
              have eN : (il (N0.filter fun y => !decide (y ∈ row.drop i)))[0]? = some (V.int f) := by
                have srt : (N0.filter fun y => !decide (y ∈ row.drop i)).Pairwise (· ≤ ·) := List.Pairwise.filter _ sort1
                have mf : ∀ y, y ∈ (N0.filter fun y => !decide (y ∈ row.drop i)) ↔ y ∈ B.C ∧ y ∉ row.drop i := fun y => by
                  rw [List.mem_filter, perm1.mem_iff]
                  simp
                generalize (N0.filter fun y => !decide (y ∈ row.drop i)) = N at *
                match N, hnev, srt, mf with
                | [], hnev, _, _ => exact absurd rfl hnev
                | a :: N', _, srt, mf =>
                  have ha := (mf a).mp List.mem_cons_self
                  have fars : ∀ y, y ∉ row.drop i → nxt row y i = row.length := fun y hy => by
                    have q1 := nxt_le (row := row) (y := y) (i := i) (Nat.le_of_lt hi')
                    have q2 : ¬ nxt row y i < row.length := fun z => hy ((mem_nxt (Nat.le_of_lt hi')).mpr z)
                    omega
                  have Fa : IsFar row i B.C a := by
                    refine ⟨ha.1, fun y hy => by rw [fars a ha.2]; exact nxt_le (Nat.le_of_lt hi'), fun y hy e => ?_⟩
                    have hy2 : y ∉ row.drop i := fun z => by
                      have := (mem_nxt (Nat.le_of_lt hi')).mp z
                      rw [e, fars a ha.2] at this
                      omega
                    rcases List.mem_cons.mp ((mf y).mpr ⟨hy, hy2⟩) with z | z
                    · rw [z]; exact Int.le_refl _
                    · exact (List.pairwise_cons.mp srt).1 y z
                  rw [F.one Fa]
                  rfl
              refine ⟨_, rfl, D, _, _, V.int f, rfl, rfl, SqL.of hD5, atI_nat (j := 0) eN, szd rfl, fun u hu' => ?_⟩
              have sU := Same.new (o := .tup [V.int (i : Nat), V.int f]) hu'
              have hgo6 := sU _ _ hgo5
              have ugo : u ≠ go := ne_of (upd_same (H := H5) (a := u) (o := .tup [V.int (i : Nat), V.int f])) hgo6 (by intro z; cases z)
              refine ⟨go, _, _, rfl, rfl, hgo6, szl (by rw [List.length_map]; omega), ?_⟩
              have s12 : Same H (upd (upd H5 u (.tup [V.int (i : Nat), V.int f])) go (.lst (as.map V.ref ++ [V.ref u]))) := Same.put (sH5.trans sU) goH
              have hkp7 : upd (upd H5 u (.tup [V.int (i : Nat), V.int f])) go (.lst (as.map V.ref ++ [V.ref u])) kp = some (.lst (il B.C)) := by rw [upd_ne kpgo]; exact sU _ _ hkp5
              have hla7 : upd (upd H5 u (.tup [V.int (i : Nat), V.int f])) go (.lst (as.map V.ref ++ [V.ref u])) la = some (.lst (NL (B.lacks ++ [i]))) := by rw [upd_ne lago]; exact sU _ _ hla5
              have hgo7 : upd (upd H5 u (.tup [V.int (i : Nat), V.int f])) go (.lst (as.map V.ref ++ [V.ref u])) go = some (.lst (as.map V.ref ++ [V.ref u])) := upd_same
              have hu7 : upd (upd H5 u (.tup [V.int (i : Nat), V.int f])) go (.lst (as.map V.ref ++ [V.ref u])) u = some (.tup [V.int (i : Nat), V.int f]) := by rw [upd_ne ugo, upd_same]
              have hg7 : TupsAt (upd (upd H5 u (.tup [V.int (i : Nat), V.int f])) go (.lst (as.map V.ref ++ [V.ref u]))) (as ++ [u]) (gV (B.gone ++ [(i, f)])) := by
                rw [gV_snoc]
                exact ((hg5.same sU).snoc (t := u) upd_same).put hgo6 (by intro u z; cases z)
              generalize hH7 : upd (upd H5 u (.tup [V.int (i : Nat), V.int f])) go (.lst (as.map V.ref ++ [V.ref u])) = H7 at *
              -- kept = [page for page in kept if page != gone[-1][1]]
              refine ⟨_, rfl, kp, rfl, ⟨_, SqL.of hkp7⟩, fun G hG => ?_⟩
              have hGH : H G = none := Same.back s12 hG
              have Gla : G ≠ la := Ne.symm (ne_fresh hla7 hG)
              have Ggo : G ≠ go := Ne.symm (ne_fresh hgo7 hG)
              refine lc_list (K := K) (a := kp) (xs := il B.C) (fun t H' => H' G = some (.lst (il ((B.C.take t).filter (· != f)))) ∧ Same H7 H') ⟨upd_same, Same.new hG⟩ (fun t H' _ h => SqL.of (h.2 _ _ hkp7)) ?_ ?_
              · rintro t y H8 hy ⟨hG8, s13⟩
                obtain ⟨x, hx', rfl⟩ := il_get hy
                have hle := List.length_filter_le (· != f) (B.C.take t)
                rw [List.length_take] at hle
                rw [take_snoc hx', List.filter_append]
                refine ⟨rfl, _, rfl, _, rfl, _, rfl, go, _, _, V.ref u, rfl, rfl, SqL.of (s13 _ _ hgo7), atI_last _ _, u, _, _, V.int f, rfl, rfl, SqT.of (s13 _ _ hu7), atI_nat (j := 1) rfl, rfl, _, rfl, ?_⟩
                by_cases hxf : x = f
                · refine ifF (by simp [hxf]) ⟨?_, s13⟩
                  simpa [hxf] using hG8
                · refine ifT (by simp [hxf]) ⟨_, rfl, _, hG8, szl (by rw [il_len]; omega), ?_, Same.put s13 hG⟩
                  rw [upd_same, il_snoc]
                  simp [hxf]
              · rintro H8 ⟨hG8, s13⟩
                rw [List.take_of_length_le (by simp)] at hG8
                have hfl := List.length_filter_le (· != f) B.C
                have s128 := s12.trans s13
                refine ⟨_, rfl, .inl ⟨rfl, _, SqL.of hG8⟩, _, rfl, _, rfl, r, _, _, _, rfl, rfl, s128.seq hS, hat, G, _, _, rfl, rfl, hG8, szl (by rw [il_len]; omega), ?_⟩
                rw [il_snoc]
                exact ⟨G, as ++ [u], ⟨_, _, _, _, _, rfl⟩, Same.put s128 hGH, hGH, Gla, Ggo, upd_same, by rw [upd_ne (Ne.symm Gla)]; exact s13 _ _ hla7, by rw [upd_ne (Ne.symm Ggo), List.map_append]; exact s13 _ _ hgo7, (hg7.same s13).put hG8 (by intro u z; cases z)⟩
      · refine ifF (decide_eq_false (by intro z; injection z with z; rw [il_len] at z; omega)) ?_
        rw [if_neg hfull]
        refine ⟨_, rfl, .inl ⟨rfl, _, SqL.of hkp2⟩, _, rfl, _, rfl, r, _, _, _, rfl, rfl, s5.seq hS, hat, kp, _, _, rfl, rfl, hkp2, szl (by rw [il_len]; omega), ?_⟩
        rw [il_snoc]
        refine ⟨kp, as, ⟨_, _, _, _, _, rfl⟩, Same.put s5 kpH, kpH, kpla, kpgo, upd_same, by rw [upd_ne (Ne.symm kpla)]; exact hla2, by rw [upd_ne (Ne.symm kpgo)]; exact hgo2, hg2.put hkp2 (by intro u z; cases z)⟩
    · rintro σ H1 ⟨kp, as, ⟨v5, v6, v7, v8, v9, rfl⟩, s4, kpH, kpla, kpgo, hkp1, hla1, hgo1, hg1⟩
      have e0 : ((il row).length : Int).toNat = row.length := by rw [il_len]; omega
      rw [e0] at hla1 hg1
      refine ⟨_, rfl, _, rfl, szd rfl, fun t ht => ?_⟩
      have sT := Same.new (o := .tup [V.ref la, V.ref go]) ht
      exact k t la go as _ (Same.back s4 ht) laH goH lago (s4.trans sT) upd_same (sT _ _ hla1) (sT _ _ hgo1) (hg1.same sT)
end
end CK

/-! What best tells, as data. -/
namespace CK
open PySem PySem.Spec PyProof.Rows L2
def gdp (x : Nat × Int) : PyData := .tuple [.int (x.1 : Nat), .int x.2]
def gds (xs : List (Nat × Int)) : PyData := .list (xs.map gdp)
theorem dp_goneAll {K : PySem.W.Frag} {H : Hp} : ∀ {as : List Addr} {xs : List (Nat × Int)}, TupsAt H as (gV xs) → DpAll K H (as.map V.ref) (xs.map gdp)
  | [], [], _ => .nil
  | [], _ :: _, h => absurd h.len (by simp)
  | _ :: _, [], h => absurd h.len (by simp)
  | a :: as, x :: xs, h => .cons (.tup (SqT.of h.tail.1) (.cons (.int _) (.cons (.int _) .nil))) (dp_goneAll h.tail.2)
theorem dp_gone {K : PySem.W.Frag} {H : Hp} {d : Addr} {as : List Addr} {xs : List (Nat × Int)} (e : SqL K H d (as.map V.ref)) (h : TupsAt H as (gV xs)) : Dp K H (.ref d) (gds xs) := .lst e (dp_goneAll h)
theorem depAll_gone : ∀ xs : List (Nat × Int), PyData.depthAll (xs.map gdp) ≤ 1
  | [] => Nat.zero_le _
  | x :: xs => Nat.max_le.mpr ⟨Nat.le_refl _, depAll_gone xs⟩
theorem depth_gds (xs : List (Nat × Int)) : (gds xs).depth ≤ 2 := Nat.succ_le_succ (depAll_gone xs)
theorem small_goneAll : ∀ xs : List (Nat × Int), smallAll (xs.map gdp)
  | [] => trivial
  | _ :: xs => ⟨⟨by show 2 ≤ 1000; decide, trivial, trivial, trivial⟩, small_goneAll xs⟩
theorem small_gds {xs : List (Nat × Int)} (h : xs.length ≤ 1000) : smallD (gds xs) := ⟨by rw [List.length_map]; exact h, small_goneAll xs⟩
/-- what best tells of a row -/
noncomputable def bestD (n : Nat) (row : List Int) : PyData := .tuple [pd ((bestS n row).lacks.map fun n : Nat => (n : Int)), gds (bestS n row).gone]
theorem dp_best {K : PySem.W.Frag} {H : Hp} {t l g : Addr} {as : List Addr} {n : Nat} {row : List Int} (e1 : H t = some (.tup [.ref l, .ref g])) (e2 : H l = some (.lst (NL (bestS n row).lacks))) (e3 : H g = some (.lst (as.map V.ref))) (e4 : TupsAt H as (gV (bestS n row).gone)) : Dp K H (.ref t) (bestD n row) := by
  rw [NL_il] at e2
  exact .tup (SqT.of e1) (.cons (dp_il (SqL.of e2)) (.cons (dp_gone (SqL.of e3) e4) .nil))
theorem depth_best (n : Nat) (row : List Int) : (bestD n row).depth ≤ 3 := by
  have q1 := depth_pd ((bestS n row).lacks.map fun n : Nat => (n : Int))
  have q2 := depth_gds (bestS n row).gone
  show max (PyData.depth _) (max (PyData.depth _) 0) + 1 ≤ 3
  omega
theorem bestS_le {n : Nat} (hn : 0 < n) (row : List Int) : (bestS n row).lacks.length ≤ row.length ∧ (bestS n row).gone.length ≤ row.length := ⟨(bestTo_ok hn row _).lk, (bestTo_ok hn row _).gn⟩
theorem small_best {n : Nat} (hn : 0 < n) {row : List Int} (h : row.length ≤ 1000) : smallD (bestD n row) := by
  have ⟨h1, h2⟩ := bestS_le hn row
  exact ⟨by show 2 ≤ 1000; decide, small_pd (by rw [List.length_map]; omega), small_gds (by omega), trivial⟩
end CK

/-! The law of the best. -/
namespace CK
open PySem PySem.Spec PyProof.Rows L2
section
variable {P : Program} {w : World} {K : PySem.W.Frag} {mg : Str → Option Value} {base : Heap}
theorem sc_law : FnScope ["_law_script", "_law_box", "_law_turn", "_law_rooms", "_law_row_here", "_law_handed", "_law_again", "_law_found"] ["_law_script"] (defScope (top 23)) := ⟨rfl, rfl, rfl, by decide +kernel, rfl, by decide +kernel, by decide +kernel⟩
theorem ok_law (T : Prog K mg) {f : Addr} {fd : FuncData} (F : FunD K "law" "law" (defArgs (top 23)) (defBody (top 23)) (defScope (top 23)) [] [] f fd) : FnOk P w K mg base CX0 6 f fd ["_law_script"] (spLaw K) := by
  have G_law_begun := ok_law_begun (P := P) (w := w) (base := base) T
  have G_law_row := ok_law_row (P := P) (w := w) (base := base) T
  have G_law_take := ok_law_take (P := P) (w := w) (base := base) T
  have G_best := ok_best (P := P) (w := w) (base := base) T
  have G_law_alike := ok_alike (P := P) (w := w) (base := base) T 5
  have G_law_best := ok_law_best (P := P) (w := w) (base := base) T
  refine F.ok sc_law (fun vs H Q E h => ?len) (fun cdv A outer s H vs Q E hr h => ?body)
  case len =>
    obtain ⟨a, ns, rfl, _⟩ := h
    rfl
  case body =>
    have hr_law_begun : Room 1 _ := hr.mono (by decide)
    have hr_law_row : Room 2 _ := hr.mono (by decide)
    have hr_law_take : Room 1 _ := hr.mono (by decide)
    have hr_best : Room 3 _ := hr.mono (by decide)
    have hr_law_alike : Room 5 _ := hr.mono (by decide)
    have hr_law_best : Room 1 _ := hr.mono (by decide)
    have hu := hu_of hr
    obtain ⟨a, ns, rfl, hS, hl63, k⟩ := h
    refine ⟨_, PSs.nox (pss_cons (ps_set (i := 1) sc_law.nd rfl (Or.inl rfl) (pe_call G_law_begun hr_law_begun (by rfl) T.law_begun.g T.law_begun.fn.kp T.law_begun.bd .nil pass0 (pa_cons (pv 0) pa_nil)))
        (pss_cons (ps_for PassesOwn.never rfl (pi_range1 (by rfl) T.range (pa_cons pe_int pa_nil)) (pg_name (i := 2) sc_law.nd rfl (Or.inl rfl))
        (pss_cons (ps_set (i := 3) sc_law.nd rfl (Or.inl rfl) (pe_op op_add pe_int (pe_call G_law_take hr_law_take (by rfl) T.law_take.g T.law_take.fn.kp T.law_take.bd .nil pass0 (pa_cons (pv 1) (pa_cons pe_int pa_nil)))))
        (pss_cons (ps_set (i := 4) sc_law.nd rfl (Or.inl rfl) (pe_call G_law_row hr_law_row (by rfl) T.law_row.g T.law_row.fn.kp T.law_row.bd .nil pass0 (pa_cons (pv 1) (pa_cons pe_int pa_nil))))
        (pss_cons (ps_set (i := 5) sc_law.nd rfl (Or.inl rfl) (pe_callTy call_list_of (by rfl) T.list_ (by decide +kernel) (pa_cons (pv 4) pa_nil)))
        (pss_one (ps_for PassesOwn.never rfl (pi_range1 (by rfl) T.range (pa_cons pe_int pa_nil)) (pg_name (i := 6) sc_law.nd rfl (Or.inl rfl))
        (pss_cons (ps_set (i := 7) sc_law.nd rfl (Or.inl rfl) (pe_call G_best hr_best (by rfl) T.best.g T.best.fn.kp T.best.bd .nil pass0 (pa_cons (pv 3) (pa_cons (pv 5) pa_nil))))
        (pss_cons (ps_if (PW.pt (pw_or (pt_not (pt_val (pe_call G_law_alike hr_law_alike (by rfl) T.law_alike.g T.law_alike.fn.kp T.law_alike.bd .nil pass0 (pa_cons (pv 7) (pa_cons (pe_call G_law_best hr_law_best (by rfl) T.law_best.g T.law_best.fn.kp T.law_best.bd .nil pass0 (pa_cons (pv 3) (pa_cons (pv 4) pa_nil))) pa_nil))))) (pw_or1 (pt_cmpR (op_neD hr.units) (pv 5) (pv 4) (nomark _)))))
        (pss_one (ps_ret pe_bl))
        pss_nil)
        (pss_cons (ps_expr (pe_bm PySem.F.plainAttrs_list PySem.F.slot_list_append PySem.F.type_list_append mt_append (pe_ix ix_tup (pv 7) pe_int (fun _ _ => rfl)) (pa_cons pe_int pa_nil)))
        (pss_one (ps_expr (pe_bm PySem.F.plainAttrs_list PySem.F.slot_list_append PySem.F.type_list_append mt_append (pe_ix ix_tup (pv 7) pe_int (fun _ _ => rfl)) (pa_cons (pe_tup pa_nil) pa_nil)))))))))))))
        (pss_one (ps_ret pe_bl)))), ?_⟩
    refine ⟨_, rfl, a, ns, rfl, hS, hl63, fun b l H1 hb hl s1 B1 => ?_⟩
    refine ⟨3, rfl, by decide, by decide, for_range (lo := 0) (n := 3) (fun i σ H' => (∃ v2 v3 v4 v5 v6 v7 : Option V, σ = [some (.ref a), some (.ref b), v2, v3, v4, v5, v6, v7]) ∧ BoxAt H' b l) ⟨⟨_, _, _, _, _, _, rfl⟩, B1⟩ ?_ ?_⟩
    · rintro i σ H2 hi ⟨⟨v2, v3, v4, v5, v6, v7, rfl⟩, B2⟩
      refine ⟨_, rfl, b, l, 8, rfl, B2, by decide, by decide, fun r0 H3 r00 r01 k3 B3 => ⟨_, _, rfl, rfl, ?_⟩⟩
      refine ⟨_, rfl, b, l, 100, rfl, B3, by decide, by decide, fun row r H4 hr4 hrow hlen k4 hrr B4 => ?_⟩
      have hR : RowOk row := ⟨by omega, hrow⟩
      have hR1 := hR.1
      have hn0 : 0 < (1 + r0).toNat := by omega
      have ⟨bl1, bl2⟩ := bestS_le hn0 row
      -- handed
      refine ⟨_, rfl, r, _, rfl, .inl (SqL.of hrr), fun hd hhd => ?_⟩
      have sH := Same.new (o := .lst (il row)) hhd
      let St : Hp → Prop := fun H' => BoxAt H' b l ∧ H' r = some (.lst (il row)) ∧ H' hd = some (.lst (il row))
      have St0 : St (upd H4 hd (.lst (il row))) := ⟨B4.same sH, sH _ _ hrr, upd_same⟩
      have StS : ∀ {H' H'' : Hp}, St H' → Same H' H'' → St H'' := fun h s => ⟨h.1.same s, s _ _ h.2.1, s _ _ h.2.2⟩
      refine ⟨2, rfl, by decide, by decide, for_range (lo := 0) (n := 2) (fun j σ H' => (∃ v6 v7 : Option V, σ = [some (.ref a), some (.ref b), some (.int (0 + (i : Int))), some (.int (1 + r0)), some (.ref r), some (.ref hd), v6, v7]) ∧ St H') ⟨⟨_, _, rfl⟩, St0⟩ ?_ ?_⟩
      · rintro j σ H9 hj ⟨⟨v6, v7, rfl⟩, S9⟩
        -- found = best(rooms, handed)
        refine ⟨_, rfl, _, rfl, 1 + r0, hd, row, rfl, by omega, by omega, SqL.of S9.2.2, hR, fun t1 l1 g1 as1 H10 ht1 hl1 hg1 lg1 s10 e1 e2 e3 e4 => ?_⟩
        have S10 := StS S9 s10
        refine ⟨_, rfl, _, rfl, _, rfl, 1 + r0, r, row, rfl, by omega, by omega, SqL.of S10.2.1, hR, fun t2 l2 g2 as2 H11 ht2 hl2 hg2 lg2 s11 f1 f2 f3 f4 => ?_⟩
        have S11 := StS S10 s11
        have g1' := s11 _ _ e1
        have g2' := s11 _ _ e2
        have g3' := s11 _ _ e3
        have g4' := e4.same s11
        refine ⟨_, _, bestD (1 + r0).toNat row, rfl, dp_best g1' g2' g3' g4', dp_best f1 f2 f3 f4, Nat.lt_of_le_of_lt (depth_best _ _) (by decide), small_best hn0 (by omega), _, rfl, ?_⟩
        refine iteF ⟨_, rfl, _, rfl, pd row, pd row, dp_il (SqL.of S11.2.2), dp_il (SqL.of S11.2.1), shaped_il _, shaped_il _, _, rfl, ?_⟩
        rw [eqv_il]
        refine ifF (by simp) ?_
        have hal : as1.length ≤ 100 := by rw [e4.len, List.length_map]; omega
        -- found[0].append(0); found[1].append(())
        have tl : t1 ≠ l1 := ne_of e1 e2 (by intro z; cases z)
        have tg : t1 ≠ g1 := ne_of e1 e3 (by intro z; cases z)
        have nf : ∀ {c : Addr} {o : HO}, H9 c = some o → c ≠ l1 ∧ c ≠ g1 := fun q => ⟨ne_fresh q hl1, ne_fresh q hg1⟩
        refine ⟨_, rfl, t1, _, _, V.ref l1, rfl, rfl, SqT.of g1', atI_nat (j := 0) rfl, .inl ⟨rfl, _, SqL.of g2'⟩, l1, _, _, rfl, rfl, g2', szl (by rw [List.length_map]; omega), ?_⟩
        have g1a : ∀ o, upd H11 l1 o t1 = some (.tup [V.ref l1, V.ref g1]) := fun o => by rw [upd_ne tl]; exact g1'
        have g3a : ∀ o, upd H11 l1 o g1 = some (.lst (as1.map V.ref)) := fun o => by rw [upd_ne (Ne.symm lg1)]; exact g3'
        refine ⟨_, rfl, t1, _, _, V.ref g1, rfl, rfl, SqT.of (g1a _), atI_nat (j := 1) rfl, .inl ⟨rfl, _, SqL.of (g3a _)⟩, szd rfl, fun u hu' => ?_⟩
        have sU := Same.new (o := .tup []) hu'
        refine ⟨g1, _, _, rfl, rfl, sU _ _ (g3a _), szl (by rw [List.length_map]; omega), ⟨_, _, rfl⟩, ?_, ?_, ?_⟩
        · obtain ⟨_, _, q1, q2, _⟩ := S9.1.ex
          exact ((S11.1.but (S := [l1]) (But.put (by simp)) (by simp [(nf q1).1]) (by simp [(nf q2).1])).same sU).but (S := [g1]) (But.put (by simp)) (by simp [(nf q1).2]) (by simp [(nf q2).2])
        · rw [upd_ne (nf S9.2.1).2]
          exact sU _ _ (by rw [upd_ne (nf S9.2.1).1]; exact S11.2.1)
        · rw [upd_ne (nf S9.2.2).2]
          exact sU _ _ (by rw [upd_ne (nf S9.2.2).1]; exact S11.2.2)
      · rintro σ H9 ⟨⟨v6, v7, rfl⟩, S9⟩
        exact ⟨⟨_, _, _, _, _, _, rfl⟩, S9.1⟩
    · rintro σ H' ⟨_, _⟩
      exact k H'
end
end CK

namespace CK
open PySem PySem.Spec PyProof.Rows L2
/-! ### the head: facts by names, one run of the top -/
def fn : List He.DefD := [
  ⟨("check_rooms", none), "check_rooms", "check_rooms", defArgs (top 8), defBody (top 8), defScope (top 8), [], []⟩,
  ⟨("is_page", none), "is_page", "is_page", defArgs (top 9), defBody (top 9), defScope (top 9), [], []⟩,
  ⟨("check_row", none), "check_row", "check_row", defArgs (top 10), defBody (top 10), defScope (top 10), [], []⟩,
  ⟨("find_spells", none), "find_spells", "find_spells", defArgs (top 12), defBody (top 12), defScope (top 12), [], []⟩,
  ⟨("best", none), "best", "best", defArgs (top 14), defBody (top 14), defScope (top 14), [], []⟩,
  ⟨("find_best", none), "find_best", "find_best", defArgs (top 15), defBody (top 15), defScope (top 15), [], []⟩,
  ⟨("_farthest", none), "_farthest", "_farthest", defArgs (top 16), defBody (top 16), defScope (top 16), [], []⟩,
  ⟨("_law_begun", none), "_law_begun", "_law_begun", defArgs (top 18), defBody (top 18), defScope (top 18), [], []⟩,
  ⟨("_law_take", none), "_law_take", "_law_take", defArgs (top 19), defBody (top 19), defScope (top 19), [], []⟩,
  ⟨("_law_alike", none), "_law_alike", "_law_alike", defArgs (top 20), defBody (top 20), defScope (top 20), [], []⟩,
  ⟨("_law_row", none), "_law_row", "_law_row", defArgs (top 21), defBody (top 21), defScope (top 21), [], []⟩,
  ⟨("_law_best", none), "_law_best", "_law_best", defArgs (top 22), defBody (top 22), defScope (top 22), [], []⟩,
  ⟨("law", none), "law", "law", defArgs (top 23), defBody (top 23), defScope (top 23), [], []⟩]
def fa : List He.Fa := [
  .glo "check_rooms", .glo "is_page", .glo "check_row", .glo "find_spells", .glo "best", .glo "find_best", .glo "_farthest", .glo "_law_begun", .glo "_law_take", .glo "_law_alike", .glo "_law_row", .glo "_law_best", .glo "law", .int "MOST_ROOMS" 8, .int "PAGES" 12, .int "MOST_ASKS" 100, .free "bool", .free "dict", .free "enumerate", .free "int", .free "isinstance", .free "len", .free "list", .free "max", .free "min", .free "range", .free "sorted", .free "str", .free "tuple"]
def xt (K : PySem.W.Frag) : Bool := true
theorem mkProg {K : PySem.W.Frag} {h : Heap} {mg : Str → Option Value} (X : K.In h) (G : h.Ns mainGlobals mg) (c : He.SaysD fa fn K) (cx : xt K = true) : Nonempty (Prog K mg) := by
  obtain ⟨_, F0⟩ := c.def_ 0 rfl
  obtain ⟨_, F1⟩ := c.def_ 1 rfl
  obtain ⟨_, F2⟩ := c.def_ 2 rfl
  obtain ⟨_, F3⟩ := c.def_ 3 rfl
  obtain ⟨_, F4⟩ := c.def_ 4 rfl
  obtain ⟨_, F5⟩ := c.def_ 5 rfl
  obtain ⟨_, F6⟩ := c.def_ 6 rfl
  obtain ⟨_, F7⟩ := c.def_ 7 rfl
  obtain ⟨_, F8⟩ := c.def_ 8 rfl
  obtain ⟨_, F9⟩ := c.def_ 9 rfl
  obtain ⟨_, F10⟩ := c.def_ 10 rfl
  obtain ⟨_, F11⟩ := c.def_ 11 rfl
  obtain ⟨t_MOST_ROOMS, i_MOST_ROOMS⟩ := He.int_ok X G (c.fact 13 rfl)
  obtain ⟨t_PAGES, i_PAGES⟩ := He.int_ok X G (c.fact 14 rfl)
  obtain ⟨t_MOST_ASKS, i_MOST_ASKS⟩ := He.int_ok X G (c.fact 15 rfl)
  exact ⟨{
    check_rooms := ⟨_, _, F0, (FunD.bindsN F0 fun _ _ _ _ _ _ us hl => match us, hl with | [_], _ => rfl), He.glo_ok X G (c.fact 0 rfl)⟩,
    is_page := ⟨_, _, F1, (FunD.bindsN F1 fun _ _ _ _ _ _ us hl => match us, hl with | [_], _ => rfl), He.glo_ok X G (c.fact 1 rfl)⟩,
    check_row := ⟨_, _, F2, (FunD.bindsN F2 fun _ _ _ _ _ _ us hl => match us, hl with | [_], _ => rfl), He.glo_ok X G (c.fact 2 rfl)⟩,
    find_spells := ⟨_, _, F3, (FunD.bindsN F3 fun _ _ _ _ _ _ us hl => match us, hl with | [_], _ => rfl), He.glo_ok X G (c.fact 3 rfl)⟩,
    best := ⟨_, _, F4, (FunD.bindsN F4 fun _ _ _ _ _ _ us hl => match us, hl with | [_, _], _ => rfl), He.glo_ok X G (c.fact 4 rfl)⟩,
    find_best := ⟨_, _, F5, (FunD.bindsN F5 fun _ _ _ _ _ _ us hl => match us, hl with | [_, _], _ => rfl), He.glo_ok X G (c.fact 5 rfl)⟩,
    farthest := ⟨_, _, F6, (FunD.bindsN F6 fun _ _ _ _ _ _ us hl => match us, hl with | [_], _ => rfl), He.glo_ok X G (c.fact 6 rfl)⟩,
    law_begun := ⟨_, _, F7, (FunD.bindsN F7 fun _ _ _ _ _ _ us hl => match us, hl with | [_], _ => rfl), He.glo_ok X G (c.fact 7 rfl)⟩,
    law_take := ⟨_, _, F8, (FunD.bindsN F8 fun _ _ _ _ _ _ us hl => match us, hl with | [_, _], _ => rfl), He.glo_ok X G (c.fact 8 rfl)⟩,
    law_alike := ⟨_, _, F9, (FunD.bindsN F9 fun _ _ _ _ _ _ us hl => match us, hl with | [_, _], _ => rfl), He.glo_ok X G (c.fact 9 rfl)⟩,
    law_row := ⟨_, _, F10, (FunD.bindsN F10 fun _ _ _ _ _ _ us hl => match us, hl with | [_, _], _ => rfl), He.glo_ok X G (c.fact 10 rfl)⟩,
    law_best := ⟨_, _, F11, (FunD.bindsN F11 fun _ _ _ _ _ _ us hl => match us, hl with | [_, _], _ => rfl), He.glo_ok X G (c.fact 11 rfl)⟩,
    t_MOST_ROOMS := t_MOST_ROOMS, g_MOST_ROOMS := i_MOST_ROOMS,
    t_PAGES := t_PAGES, g_PAGES := i_PAGES,
    t_MOST_ASKS := t_MOST_ASKS, g_MOST_ASKS := i_MOST_ASKS,
    bool_ := He.free_ok X G (c.fact 16 rfl),
    dict_ := He.free_ok X G (c.fact 17 rfl),
    enumerate := He.free_ok X G (c.fact 18 rfl),
    int_ := He.free_ok X G (c.fact 19 rfl),
    isinstance := He.free_ok X G (c.fact 20 rfl),
    len := He.free_ok X G (c.fact 21 rfl),
    list_ := He.free_ok X G (c.fact 22 rfl),
    max := He.free_ok X G (c.fact 23 rfl),
    min := He.free_ok X G (c.fact 24 rfl),
    range := He.free_ok X G (c.fact 25 rfl),
    sorted := He.free_ok X G (c.fact 26 rfl),
    str_ := He.free_ok X G (c.fact 27 rfl),
    tuple_ := He.free_ok X G (c.fact 28 rfl) }⟩

def ts : List He.Tab := []
abbrev R : PySem.W.OpenRow := PySem.W.OpenLaw.row PySem.Challenge.rw_clockhand_k04_the_best_goes
abbrev hk : PySem.W.Hook := hookX 5 fa fn ts xt
def ob (s : PySem.W.SharedT) : He.AlT × Bool := obsX 5 fa fn ts xt (HandSHeadRun.getT s)
theorem ob_eq (s : PySem.W.SharedT) : ob s = hk.obs s.abs := obsX_eq (HandSHeadRun.getT_eq s)
theorem run (w : World) : HandSHeadRun.RunEq R (PySem.W.view R.prog [23]) hk ob 4000 ["__name__", "PageError", "BadRooms", "BadRow", "MOST_ROOMS", "PAGES", "MOST_ASKS", "check_rooms", "is_page", "check_row", "find_spells", "best", "find_best", "_farthest", "_law_begun", "_law_take", "_law_alike", "_law_row", "_law_best"] w := by
  refine PySem.W.byRow2 "special-get-raises" (P := fun w => HandSHeadRun.RunEq R (PySem.W.view R.prog [23]) hk ob 4000 ["__name__", "PageError", "BadRooms", "BadRow", "MOST_ROOMS", "PAGES", "MOST_ASKS", "check_rooms", "is_page", "check_row", "find_spells", "best", "find_best", "_farthest", "_law_begun", "_law_take", "_law_alike", "_law_row", "_law_best"] w) (fun w => ?_) (fun w => ?_) w
  all_goals
    intro os
    kernel_rfl
end CK

namespace CK
open PySem PySem.Spec PyProof.Rows L2
theorem facts {P : Program} {w : World} {K : PySem.W.Frag} {h : Heap} {mg : Str → Option Value} {f : Addr} (X : K.In h) (G : h.Ns mainGlobals mg) (hfa : mg ("law" : Str) = some (.ref f)) (c : He.SaysT fa fn ts w K) (cx : xt K = true) :
    ∃ fd : FuncData, (∀ (s : Shared) (v : Value), BindsTo s fd ⟨[v], []⟩ [("_law_script", v)]) ∧ ∀ base : Heap, K.In base → base.Ns mainGlobals mg → FnOk P w K mg base CX0 6 f fd ["_law_script"] (spLaw K) := by
  obtain ⟨T⟩ := mkProg X G c.d cx
  obtain ⟨fd, F⟩ := c.d.def_ 12 rfl
  have e := hfa.symm.trans (He.glo_ok X G (c.d.fact 12 rfl))
  cases e
  have b := FunD.bindsA (ps := ["_law_script"]) F fun _ _ _ _ _ _ us hl => match us, hl with | [_], _ => rfl
  exact ⟨fd, fun s v => b s [v] rfl, fun base _ _ => ok_law T  F⟩
end CK
open PySem PySem.W PySem.Calls PyProof.Rows
set_option maxRecDepth 100000 in
set_option maxHeartbeats 0 in
theorem PySem.Challenge.cw_clockhand_k04_the_best_goes_holds : PySem.Challenge.rw_clockhand_k04_the_best_goes.Holds := by
  w_on; o_law
  refine HandSHeadRun.head_any (r := OpenLaw.row PySem.Challenge.rw_clockhand_k04_the_best_goes) (q := view (OpenLaw.row PySem.Challenge.rw_clockhand_k04_the_best_goes).prog [23]) (H := CK.hk) (ob := CK.ob) (M := 4000) (loose := ["__name__", "PageError", "BadRooms", "BadRow", "MOST_ROOMS", "PAGES", "MOST_ASKS", "check_rooms", "is_page", "check_row", "find_spells", "best", "find_best", "_farthest", "_law_begun", "_law_take", "_law_alike", "_law_row", "_law_best"]) (d := HandSHeadRun.topDef (OpenLaw.row PySem.Challenge.rw_clockhand_k04_the_best_goes).prog 23) (kwd := []) CK.ob_eq
    (by kernel_rfl) (fun s => by kernel_rfl) CK.run (by kernel_rfl) (by kernel_rfl) (by kernel_rfl) (by rfl) (by first | assumption | decide +kernel) (by decide +kernel) ⟨rfl, rfl, rfl, rfl, rfl, by decide +kernel⟩ ?hw ?hc
  case hw => w_witness2
  case hc =>
    refine L2.walk_ofE (l := PySem.Challenge.rw_clockhand_k04_the_best_goes) (n := 63) (k := 6) (x := "_law_script") (CX := L2.CX0) rfl (by decide) (by kernel_rfl) ⟨rfl, by decide, by decide⟩ ?F (fun _ _ _ _ z => z)
    intro w mg fa h Y G hmg0
    obtain ⟨K, KX, c, cx⟩ := Y
    have hmg : mg ("law" : PySem.Str) = some (.ref fa) := by
      have e : (HandSHeadRun.topDef (OpenLaw.row PySem.Challenge.rw_clockhand_k04_the_best_goes).prog 23).name = ("law" : PySem.Str) := by kernel_rfl
      rw [← e]
      exact hmg0
    obtain ⟨fd, hb, hF⟩ := CK.facts (P := (PySem.Challenge.rw_clockhand_k04_the_best_goes).prog) (w := w) KX G hmg c cx
    exact ⟨K, fd, CK.spLaw K, KX, hb, fun H a ns hl _ hS => ⟨a, ns, rfl, hS, hl, fun _ => rfl⟩, hF⟩
