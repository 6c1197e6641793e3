import PyProof.Rows.All
import Wide.All
import OpenK.AllK
import Wide.FinOn
import KE.KStateDown
import Lean
import HandS.ForMost
import HandS.SortInts
import HandS.SetFor
import HandS.Wide
import HandS.Defaults
import HandS.IsInst
import HandS.CallLocal
import HandS.More
import HandS.Codes
import HandS.Sort
import HandS.Head0
import HandS.Head1
import HandS.Head2
import HandS.HeadEnd
import HandS.HeadHook1
import HandS.HeadHook2
import HandS.HeadHook3
import HandS.Walk
import PySem.Challenge.RW_clockhand_k07_papers_read
set_option Elab.async false
set_option linter.all false
set_option maxRecDepth 100000
set_option maxHeartbeats 0
/-! Clockhand: the shared ground of its laws: where a def stands, heaps, the box of the draws. -/
namespace CK
open PySem PySem.Spec PyProof.Rows L2
def top (i : Nat) : Stmt := PySem.Challenge.pw_clockhand_k07_papers_read.main.body.getD i (.Pass ⟨0, 0, 0, 0⟩)

/-- a def of the text, behind the top -/
structure DAt (K : PySem.W.Frag) (mg : Str → Option Value) (x : Str) (st : Stmt) (ps : List Str) where
  f : Addr
  fd : FuncData
  fn : FunD K x x (defArgs st) (defBody st) (defScope st) [] [] f fd
  bd : Binds K fd ps []
  g : mg x = some (.ref f)
/-- a method of the class at C -/
structure MAt (K : PySem.W.Frag) (C : Addr) (x q : Str) (st : Stmt) (ps : List Str) where
  f : Addr
  fd : FuncData
  fn : FunD K x q (defArgs st) (defBody st) (defScope st) [] [] f fd
  bd : Binds K fd ps []
  me : Meth K C x f

/-! ### the head's look, by one more Bool -/
def obsX (n : Nat) (fa : List He.Fa) (fn : List He.DefD) (ts : List He.Tab) (xt : PySem.W.Frag → Bool) (g : Addr → Option Obj) : He.AlT × Bool := (He.obsTG n fa fn ts g, xt (He.frG g (He.asD g n)))
def hookX (n : Nat) (fa : List He.Fa) (fn : List He.DefD) (ts : List He.Tab) (xt : PySem.W.Frag → Bool) : PySem.W.Hook where
  α := He.AlT × Bool
  obs := fun s => obsX n fa fn ts xt s.heap.get?
  val := fun w => (He.valT fn ts w, true)
  says := fun w h => ∃ K : PySem.W.Frag, K.In h ∧ He.SaysT fa fn ts w K ∧ xt K = true
  of := fun _ _ e => ⟨_, He.frG_in, congrArg Prod.fst e, congrArg Prod.snd e⟩
  keeps := fun _ _ _ ⟨K, hK, c⟩ k => ⟨K, PySem.W.Frag.In.keeps hK k, c⟩
theorem obsX_eq {n : Nat} {fa : List He.Fa} {fn : List He.DefD} {ts : List He.Tab} {xt : PySem.W.Frag → Bool} {g : Addr → Option Obj} {s : Shared} (h : ∀ a, g a = s.heap.get? a) : obsX n fa fn ts xt g = (hookX n fa fn ts xt).obs s := by
  have e : g = s.heap.get? := funext h
  rw [e] <;> rfl
/-! ### where all stands behind the top -/
structure Prog (K : PySem.W.Frag) (mg : Str → Option Value) where
  check_rooms : DAt K mg "check_rooms" (top 8) ["rooms"]
  is_page : DAt K mg "is_page" (top 9) ["page"]
  check_row : DAt K mg "check_row" (top 10) ["row"]
  spells : DAt K mg "spells" (top 12) ["row"]
  shown : DAt K mg "shown" (top 13) ["rooms", "row", "places"]
  find_spells : DAt K mg "find_spells" (top 14) ["row"]
  check_paper : DAt K mg "_check_paper" (top 15) ["row", "places"]
  has_within : DAt K mg "_has_within" (top 16) ["spell", "places"]
  law_begun : DAt K mg "_law_begun" (top 18) ["_law_script"]
  law_take : DAt K mg "_law_take" (top 19) ["_law_box", "_law_many"]
  law_alike : DAt K mg "_law_alike" (top 20) ["_law_found", "_law_due"]
  law_row : DAt K mg "_law_row" (top 21) ["_law_box", "_law_most"]
  law_shown : DAt K mg "_law_shown" (top 22) ["_law_rooms", "_law_row_here", "_law_places"]
  t_MOST_ROOMS : Tok
  g_MOST_ROOMS : mg "MOST_ROOMS" = some (.int 8 t_MOST_ROOMS)
  t_PAGES : Tok
  g_PAGES : mg "PAGES" = some (.int 12 t_PAGES)
  t_MOST_ASKS : Tok
  g_MOST_ASKS : mg "MOST_ASKS" = some (.int 100 t_MOST_ASKS)
  any : mg "any" = none
  bool_ : mg "bool" = none
  enumerate : mg "enumerate" = none
  int_ : mg "int" = none
  isinstance : mg "isinstance" = none
  len : mg "len" = none
  list_ : mg "list" = none
  min : mg "min" = none
  range : mg "range" = none
  str_ : mg "str" = none
  tuple_ : mg "tuple" = none

/-! ### heaps -/
/-- all that H knows stands in H' as it stood, but for what stands at the places S -/
def But (S : List Addr) (H H' : Hp) : Prop := ∀ b o, H b = some o → b ∉ S → H' b = some o
theorem But.refl (S : List Addr) (H : Hp) : But S H H := fun _ _ h _ => h
theorem But.trans {S : List Addr} {H H1 H2 : Hp} (a : But S H H1) (b : But S H1 H2) : But S H H2 := fun c o h n => b c o (a c o h n) n
theorem But.mono {S T : List Addr} {H H1 : Hp} (a : But S H H1) (h : ∀ x, x ∈ S → x ∈ T) : But T H H1 := fun c o e n => a c o e fun z => n (h c z)
theorem But.same {H H1 : Hp} (a : But [] H H1) : Same H H1 := fun c o e => a c o e (by simp)
theorem But.of {S : List Addr} {H H1 : Hp} (a : Same H H1) : But S H H1 := fun c o e _ => a c o e
theorem But.new {S : List Addr} {H : Hp} {p : Addr} {o : HO} (h : H p = none) : But S H (upd H p o) := fun b u e _ => by
  rw [upd_ne (ne_of_none e h)]
  exact e
theorem But.put {S : List Addr} {H : Hp} {p : Addr} {o : HO} (h : p ∈ S) : But S H (upd H p o) := fun b u e n => by
  rw [upd_ne (fun z => n (by rw [z]; exact h))]
  exact e
/-- a place that H did not know may change -/
theorem But.free {S : List Addr} {p : Addr} {H H' : Hp} (a : But (p :: S) H H') (h : H p = none) : But S H H' := fun b o e n => a b o e fun z => by
  rcases List.mem_cons.mp z with z | z
  · rw [z, h] at e
    cases e
  · exact n z
theorem But.at {S : List Addr} {H H' : Hp} (a : But S H H') {b : Addr} {o : HO} (e : H b = some o) (n : b ∉ S := by first | assumption | simp) : H' b = some o := a b o e n
/-- what is new behind was free ahead, if it isn't of S -/
theorem But.back {S : List Addr} {H H' : Hp} (a : But S H H') {p : Addr} (h : H' p = none) (n : p ∉ S) : H p = none := by
  cases e : H p with
  | none => rfl
  | some o => rw [a p o e n] at h; cases h
theorem Same.new {H : Hp} {p : Addr} {o : HO} (h : H p = none) : Same H (upd H p o) := fun b u e => by
  rw [upd_ne (ne_of_none e h)]
  exact e
theorem Same.back {H H' : Hp} (a : Same H H') {p : Addr} (h : H' p = none) : H p = none := by
  cases e : H p with
  | none => rfl
  | some o => rw [a p o e] at h; cases h
theorem Same.put {H H' : Hp} {p : Addr} {o : HO} (a : Same H H') (h : H p = none) : Same H (upd H' p o) := fun b u e => by
  rw [upd_ne (ne_of_none e h)]
  exact a b u e
theorem ne_fresh {H : Hp} {a b : Addr} {o : HO} (h : H a = some o) (h' : H b = none) : a ≠ b := ne_of_none h h'

/-! ### lists of ints -/
abbrev il (ns : List Int) : List V := ns.map V.int
theorem il_at {ns : List Int} {j : Nat} {n : Int} (h : ns[j]? = some n) : (il ns)[j]? = some (V.int n) := by
  rw [List.getElem?_map, h]
  rfl
theorem il_set {ns : List Int} {j : Nat} {n : Int} : (il ns).set j (V.int n) = il (ns.set j n) := by
  show (ns.map V.int).set j (V.int n) = (ns.set j n).map V.int
  rw [List.map_set]
theorem il_get {ns : List Int} {j : Nat} {y : V} (h : (il ns)[j]? = some y) : ∃ n, ns[j]? = some n ∧ y = V.int n := by
  rw [List.getElem?_map] at h
  cases e : ns[j]? with
  | none => rw [e] at h; cases h
  | some n => rw [e] at h; exact ⟨n, rfl, (Option.some.inj h).symm⟩
theorem il_snoc {ns : List Int} {n : Int} : il ns ++ [V.int n] = il (ns ++ [n]) := by
  show ns.map V.int ++ [V.int n] = (ns ++ [n]).map V.int
  rw [List.map_append]
  rfl
theorem il_app {ns ms : List Int} : il ns ++ il ms = il (ns ++ ms) := by
  show ns.map V.int ++ ms.map V.int = (ns ++ ms).map V.int
  rw [List.map_append]
theorem il_len {ns : List Int} : (il ns).length = ns.length := List.length_map _
theorem flat_il (ns : List Int) : (il ns).all flatV = true := by
  rw [List.all_eq_true]
  intro x hx
  obtain ⟨n, _, rfl⟩ := List.mem_map.mp hx
  rfl
theorem inV_il (n : Int) (ns : List Int) : inV (V.int n) (il ns) = decide (n ∈ ns) := by
  induction ns with
  | nil => rfl
  | cons a r ih =>
    show (eqV (V.int a) (V.int n) || inV (V.int n) (il r)) = _
    rw [ih]
    have e : eqV (V.int a) (V.int n) = decide (a = n) := by
      first
        | rfl
        | (simp [eqV])
    rw [e]
    by_cases h : a = n
    · simp [h]
    · have h2 : ¬ n = a := fun z => h z.symm
      simp [h, h2]
/-! ### data that is read -/
def pd (ns : List Int) : PyData := .list (ns.map PyData.int)
theorem dp_all (K : PySem.W.Frag) (H : Hp) : ∀ ns : List Int, DpAll K H (il ns) (ns.map PyData.int)
  | [] => .nil
  | _ :: r => .cons (.int _) (dp_all K H r)
theorem dp_il {K : PySem.W.Frag} {H : Hp} {a : Addr} {ns : List Int} (h : SqL K H a (il ns)) : Dp K H (.ref a) (pd ns) := .lst h (dp_all K H ns)
theorem eqv_pd : ∀ a b : List Int, PyData.eqvAll (a.map PyData.int) (b.map PyData.int) = decide (a = b)
  | [], [] => rfl
  | [], _ :: _ => rfl
  | _ :: _, [] => rfl
  | x :: r, y :: s => by
    show ((x == y) && PyData.eqvAll (r.map PyData.int) (s.map PyData.int)) = _
    rw [eqv_pd r s]
    by_cases h : x = y
    · by_cases h2 : r = s
      · simp [h, h2]
      · simp [h, h2]
    · simp [h]
theorem eqv_il (a b : List Int) : PyData.eqv (pd a) (pd b) = decide (a = b) := eqv_pd a b
theorem lay_il : ∀ a : List Int, PyData.canLayAll0 (a.map PyData.int) = true
  | [] => rfl
  | _ :: r => by
    show (true && PyData.canLayAll0 (r.map PyData.int)) = true
    rw [lay_il r]
    rfl
theorem dep_il : ∀ a : List Int, PyData.depthAll (a.map PyData.int) = 0
  | [] => rfl
  | _ :: r => by
    show max 0 (PyData.depthAll (r.map PyData.int)) = 0
    rw [dep_il r]
    rfl
theorem shaped_il (a : List Int) : SeqAt.shaped (pd a) = true := by
  unfold SeqAt.shaped pd
  rw [Bool.and_eq_true]
  constructor
  · show PyData.canLayAll0 _ = true
    exact lay_il a
  · apply decide_eq_true
    show PyData.depthAll _ + 1 ≤ 64
    rw [dep_il a]
    decide
theorem sz {n : Nat} (h : n ≤ 100000) : n ≤ sizeLine := Nat.le_trans h (by decide)
theorem szl {n : Nat} (h : n < 100000) : n < sizeLine := Nat.lt_of_lt_of_le h (by decide)

theorem ixn {n : Nat} {i : Int} {j : Nat} (e : i = (j : Int)) (h : j < n) : ixN n i = some j := by
  unfold ixN
  rw [if_pos (by omega), if_pos (by omega), e]
  rfl
theorem seq_ix {n : Nat} {i : Int} {j : Nat} (e : i = (j : Int)) (h : j < n) : seqIndex? i n = some j := (ixN_seq (ixn e h)).1
theorem szd {n : Nat} (h : Nat.ble n 1000 = true) : n ≤ sizeLine := Nat.le_trans (Nat.le_of_ble_eq_true h) (by decide)
theorem il_menu {xs : List Int} {r : Int} (h0 : 0 ≤ r) (h1 : r < xs.length) : ∃ v, v ∈ xs ∧ atI (il xs) r = some (V.int v) := by
  obtain ⟨j, rfl⟩ : ∃ j : Nat, r = (j : Int) := ⟨r.toNat, by omega⟩
  have hj : j < xs.length := by omega
  exact ⟨xs[j], List.getElem_mem hj, atI_nat (il_at (List.getElem?_eq_getElem hj))⟩
theorem il_last {xs : List Int} (h : xs ≠ []) : ∃ v, v ∈ xs ∧ atI (il xs) (-1) = some (V.int v) := by
  obtain ⟨ys, y, rfl⟩ : ∃ ys y, xs = ys ++ [y] := ⟨xs.dropLast, xs.getLast h, (List.dropLast_concat_getLast h).symm⟩
  refine ⟨y, by simp, ?_⟩
  rw [← il_snoc]
  exact atI_last _ _
theorem ifT {c : Bool} {A B : Prop} (e : c = true) (h : A) : if c = true then A else B := by
  rw [if_pos e]
  exact h
theorem ifF {c : Bool} {A B : Prop} (e : c = false) (h : B) : if c = true then A else B := by
  rw [e]
  exact iteF h
theorem int0 {a b : Int} (h : a < b) : a < b := h
/-! ### the box of the draws -/
/-- the box at b: the numbers left, in the list at l, and a number by which draws go on -/
structure BoxAt (H : Hp) (b l : Addr) : Prop where
  ne : b ≠ l
  ex : ∃ (ns : List Int) (z : Int), H b = some (.lst [.ref l, .int z]) ∧ H l = some (.lst (il ns)) ∧ 0 ≤ z ∧ z < 2147483647
theorem BoxAt.but {S : List Addr} {H H' : Hp} {b l : Addr} (B : BoxAt H b l) (k : But S H H') (hb : b ∉ S) (hl : l ∉ S) : BoxAt H' b l := by
  obtain ⟨ns, z, h1, h2, h3⟩ := B.ex
  exact ⟨B.ne, ns, z, k _ _ h1 hb, k _ _ h2 hl, h3⟩
theorem BoxAt.same {H H' : Hp} {b l : Addr} (B : BoxAt H b l) (k : Same H H') : BoxAt H' b l := by
  obtain ⟨ns, z, h1, h2, h3⟩ := B.ex
  exact ⟨B.ne, ns, z, k _ _ h1, k _ _ h2, h3⟩

/-! ### the promises of the draws -/
/-- a new box over the script's ints -/
def spBegun (K : PySem.W.Frag) : Sp := fun vs H Q _ => ∃ (a : Addr) (ns : List Int), vs = [.ref a] ∧ SqL K H a (il ns) ∧ ns.length ≤ 63 ∧
  ∀ (b l : Addr) (H' : Hp), H b = none → H l = none → Same H H' → BoxAt H' b l → Q (.ref b) H'
/-- a draw: some number below m, and the box is still one -/
def spTake : Sp := fun vs H Q _ => ∃ (b l : Addr) (m : Int), vs = [.ref b, .int m] ∧ BoxAt H b l ∧ 0 < m ∧ m < 1000000000 ∧
  ∀ (r : Int) (H' : Hp), 0 ≤ r → r < m → But [b, l] H H' → BoxAt H' b l → Q (.int r) H'
/-- a row: asks for pages below twelve, at most as many as asked for -/
def spRow : Sp := fun vs H Q _ => ∃ (b l : Addr) (m : Int), vs = [.ref b, .int m] ∧ BoxAt H b l ∧ 0 ≤ m ∧ m ≤ 100 ∧
  ∀ (row : List Int) (r : Addr) (H' : Hp), H r = none → (∀ p ∈ row, 0 ≤ p ∧ p < 12) → (row.length : Int) ≤ m → But [b, l] H H' → H' r = some (.lst (il row)) → BoxAt H' b l → Q (.ref r) H'
end CK

namespace CK
open PySem PySem.Spec PyProof.Rows L2
section
variable {P : Program} {w : World} {K : PySem.W.Frag} {mg : Str → Option Value} {base : Heap}
/-! ### a draw -/
theorem sc_law_take : FnScope ["_law_box", "_law_many", "_law_number"] ["_law_box", "_law_many"] (defScope (top 19)) := ⟨rfl, rfl, rfl, by decide +kernel, rfl, by decide +kernel, by decide +kernel⟩
theorem ok_law_take (T : Prog K mg) : FnOk P w K mg base CX0 1 T.law_take.f T.law_take.fd ["_law_box", "_law_many"] spTake := by
  refine T.law_take.fn.ok sc_law_take (fun vs H Q E h => ?len) (fun cdv A outer s H vs Q E hr h => ?body)
  case len =>
    obtain ⟨b, l, m, rfl, _⟩ := h
    rfl
  case body =>
    have hu := hu_of hr
    obtain ⟨b, l, m, rfl, B, m0, m1, k⟩ := h
    refine ⟨_, PSs.nox (pss_cons (ps_if (pt_cmpR (op_eqD hr.units) (pe_ix ix_list (pv 0) pe_int (fun _ _ => rfl)) (pe_lst pa_nil) (nomark _))
        (pss_cons (ps_asg (pe_op op_mod (pe_op op_mul (pe_ix ix_list (pv 0) pe_int (fun _ _ => rfl)) pe_int) pe_int) (pg_sub (pv 0) pe_int set_list))
        (pss_one (ps_ret (pe_op op_mod (pe_op op_fdiv (pe_ix ix_list (pv 0) pe_int (fun _ _ => rfl)) pe_int) (pv 1)))))
        pss_nil)
        (pss_cons (ps_set (i := 2) sc_law_take.nd rfl (Or.inl rfl) (pe_ix ix_list (pe_ix ix_list (pv 0) pe_int (fun _ _ => rfl)) pe_int (fun _ _ => rfl)))
        (pss_cons (ps_asg (pe_op op_fdiv (pv 2) (pv 1)) (pg_sub (pe_ix ix_list (pv 0) pe_int (fun _ _ => rfl)) pe_int set_list))
        (pss_cons (ps_if (PW.pt (pw_or (pt_cmpR op_eq (pe_ix ix_list (pe_ix ix_list (pv 0) pe_int (fun _ _ => rfl)) pe_int (fun _ _ => rfl)) pe_int (nomark _)) (pw_or1 (pt_cmpR op_eq (pe_ix ix_list (pe_ix ix_list (pv 0) pe_int (fun _ _ => rfl)) pe_int (fun _ _ => rfl)) (pe_un un_neg pe_int) (nomark _)))))
        (pss_one (ps_expr (pe_bm PySem.F.plainAttrs_list PySem.F.slot_list_pop PySem.F.type_list_pop mt_popAt (pe_ix ix_list (pv 0) pe_int (fun _ _ => rfl)) (pa_cons pe_int pa_nil))))
        pss_nil)
        (pss_one (ps_ret (pe_op op_mod (pv 2) (pv 1)))))))), ?_⟩
    have B0 := B
    obtain ⟨ns, z, hb, hl, z0, z1⟩ := B.ex
    -- if box[0] == []
    refine ⟨_, rfl, b, _, _, _, rfl, rfl, SqL.of hb, atI_nat (j := 0) rfl, by decide, fun e he => ?_⟩
    have eb : b ≠ e := ne_fresh hb he
    have el : l ≠ e := ne_fresh hl he
    have s1 : But [b, l] H (upd H e (.lst [])) := But.new he
    have hb1 : upd H e (.lst []) b = some (.lst [.ref l, .int z]) := by rw [upd_ne eb]; exact hb
    have hl1 : upd H e (.lst []) l = some (.lst (il ns)) := by rw [upd_ne el]; exact hl
    refine ⟨pd ns, pd [], dp_il (SqL.of hl1), dp_il (ns := []) (SqL.of upd_same), shaped_il _, shaped_il _, _, rfl, ?_⟩
    rw [eqv_il]
    refine ite2 (fun hn => ?_) (fun hn => ?_)
    · -- box[1] = box[1] * 48271 % 2147483647; return box[1] // 7 % many
      refine ⟨_, rfl, b, _, _, _, rfl, rfl, SqL.of hb1, atI_nat (j := 1) rfl, _, _, rfl, rfl, .inl ⟨by omega, by omega⟩, _, _, rfl, rfl, int0 (by decide), ?_⟩
      refine ⟨_, rfl, b, _, 1, 1, rfl, rfl, hb1, rfl, ?_⟩
      refine ⟨_, rfl, b, _, _, _, rfl, rfl, SqL.of upd_same, atI_nat (j := 1) rfl, _, _, rfl, rfl, ⟨by decide, by decide⟩, _, rfl, _, _, rfl, rfl, m0, ?_⟩
      refine k _ _ (Int.emod_nonneg _ (by omega)) (Int.emod_lt_of_pos _ m0) (s1.trans (But.put (by simp))) ⟨B.ne, ns, _, upd_same, ?_, Int.emod_nonneg _ (by decide), Int.emod_lt_of_pos _ (by decide)⟩
      rw [upd_ne (Ne.symm B.ne)]
      exact hl1
    · -- number = box[0][0]
      obtain ⟨n, r, rfl⟩ : ∃ n r, ns = n :: r := by
        cases ns with
        | nil => exact absurd (by simp) hn
        | cons n r => exact ⟨n, r, rfl⟩
      refine ⟨_, rfl, b, _, _, _, rfl, rfl, SqL.of hb1, atI_nat (j := 0) rfl, l, _, _, _, rfl, rfl, SqL.of hl1, atI_nat (j := 0) rfl, ?_⟩
      -- box[0][0] = number // many
      refine ⟨_, rfl, _, rfl, _, _, rfl, rfl, ⟨m0, by omega⟩, ?_⟩
      refine ⟨_, rfl, b, _, _, _, rfl, rfl, SqL.of hb1, atI_nat (j := 0) rfl, l, _, 0, 0, rfl, rfl, hl1, ixn rfl (by simp), ?_⟩
      have hb2 : ∀ o, upd (upd H e (.lst [])) l o b = some (.lst [.ref l, .int z]) := fun o => by rw [upd_ne B.ne]; exact hb1
      have hl2 : upd (upd H e (.lst [])) l (.lst ((il (n :: r)).set 0 (.int (n / m)))) l = some (.lst (il ((n / m) :: r))) := upd_same
      have s2 : But [b, l] H (upd (upd H e (.lst [])) l (.lst ((il (n :: r)).set 0 (.int (n / m))))) := s1.trans (But.put (by simp))
      have r0 : 0 ≤ n % m := Int.emod_nonneg _ (by omega)
      have r1 : n % m < m := Int.emod_lt_of_pos _ m0
      -- if box[0][0] == 0 or box[0][0] == -1
      refine ⟨_, rfl, b, _, _, _, rfl, rfl, SqL.of (hb2 _), atI_nat (j := 0) rfl, l, _, _, _, rfl, rfl, SqL.of hl2, atI_nat (j := 0) rfl, rfl, _, rfl, ?_⟩
      have pop : ∀ (σ : L2.St), ∀ D : Ends, σ[0]? = some (some (.ref b)) → (∀ H', But [b, l] H H' → BoxAt H' b l → D.nx σ H') → tDrop (tBM K "list" rPopAt (tOp (rIxL K) (tVar 0) (tC (.int 0))) (tCons (tC (.int 0)) tNil)) D σ (upd (upd H e (.lst [])) l (.lst ((il (n :: r)).set 0 (.int (n / m))))) := by
        intro σ D hσ hD
        refine ⟨_, hσ, b, _, _, _, rfl, rfl, SqL.of (hb2 _), atI_nat (j := 0) rfl, .inl ⟨rfl, _, SqL.of hl2⟩, l, _, 0, 0, _, rfl, rfl, hl2, by decide, by decide, seq_ix rfl (by simp), rfl, ?_⟩
        refine hD _ (s2.trans (But.put (by simp))) ⟨B.ne, r, z, ?_, upd_same, z0, z1⟩
        rw [upd_ne B.ne]
        exact hb2 _
      have out : ∀ H', But [b, l] H H' → BoxAt H' b l → tRet (tOp (rI (fun _ j => 0 < j) fun i j => V.int (i % j)) (tVar 2) (tVar 1)) { nx := fun _ H' => Q .non H', rt := Q } [some (.ref b), some (.int m), some (.int n)] H' := fun H' k1 B1 => by
        refine ⟨_, rfl, _, rfl, _, _, rfl, rfl, m0, ?_⟩
        exact k _ _ r0 r1 k1 B1
      refine ite2 (fun _ => iteT (pop _ _ rfl out)) (fun _ => ?_)
      refine ⟨_, rfl, b, _, _, _, rfl, rfl, SqL.of (hb2 _), atI_nat (j := 0) rfl, l, _, _, _, rfl, rfl, SqL.of hl2, atI_nat (j := 0) rfl, _, rfl, rfl, _, rfl, ?_⟩
      refine ite2 (fun _ => pop _ _ rfl out) (fun _ => ?_)
      exact out _ s2 ⟨B.ne, _, z, hb2 _, hl2, z0, z1⟩
/-! ### the box -/
theorem sc_law_begun : FnScope ["_law_script", "_law_stirred", "_law_cell"] ["_law_script"] (defScope (top 18)) := ⟨rfl, rfl, rfl, by decide +kernel, rfl, by decide +kernel, by decide +kernel⟩
theorem ok_law_begun (T : Prog K mg) : FnOk P w K mg base CX0 1 T.law_begun.f T.law_begun.fd ["_law_script"] (spBegun K) := by
  refine T.law_begun.fn.ok sc_law_begun (fun vs H Q E h => ?len) (fun cdv A outer s H vs Q E hr h => ?body)
  case len =>
    obtain ⟨a, ns, rfl, _⟩ := h
    rfl
  case body =>
    have hu := hu_of hr
    obtain ⟨a, ns, rfl, hS, hlen, k⟩ := h
    refine ⟨_, PSs.nox (pss_cons (ps_set (i := 1) sc_law_begun.nd rfl (Or.inl rfl) pe_int)
        (pss_cons (ps_for PassesOwn.never rfl (pi_list (pv 0)) (pg_name (i := 2) sc_law_begun.nd rfl (Or.inl rfl))
        (pss_one (ps_set (i := 1) sc_law_begun.nd rfl (Or.inl rfl) (pe_op op_mod (pe_op op_add (pe_op op_add (pe_op op_mul (pv 1) pe_int) (pe_op op_mul (pv 2) pe_int)) pe_int) pe_int))))
        (pss_one (ps_ret (pe_lst (pa_cons (pe_callTy call_list_of (by rfl) T.list_ (by decide +kernel) (pa_cons (pv 0) pa_nil)) (pa_cons (pe_op op_mul (pv 1) (pe_callTy call_int1 (by rfl) T.int_ (by decide +kernel) (pa_cons (pe_cmpR op_gt (pe_callB call_len_seq (by rfl) T.len PySem.boot_len (pa_cons (pv 0) pa_nil)) pe_int (nomark _)) pa_nil))) pa_nil))))))), ?_⟩
    refine ⟨_, rfl, a, rfl, ⟨_, hS⟩, for_list (K := K) (a := a) (xs := il ns) (fun i σ H2 => ∃ (z : Int) (v : Option V), σ = [some (.ref a), some (.int z), v] ∧ H2 = H ∧ 0 ≤ z ∧ z < 2147483647)
      ⟨0, none, rfl, rfl, by decide, by decide⟩ (fun i σ H2 _ ⟨_, _, _, e, _⟩ => by rw [e]; exact hS) ?_ ?_⟩
    · rintro i y σ H2 hi ⟨z, v, rfl, rfl, z0, z1⟩
      obtain ⟨n, _, rfl⟩ := il_get hi
      refine ⟨_, rfl, _, _, rfl, rfl, .inl ⟨by omega, by omega⟩, _, rfl, _, _, rfl, rfl, .inr ⟨by omega, by omega⟩, _, _, rfl, rfl, _, _, rfl, rfl, _, _, rfl, rfl, int0 (by decide), ?_⟩
      exact ⟨_, _, rfl, rfl, Int.emod_nonneg _ (by decide), Int.emod_lt_of_pos _ (by decide)⟩
    · rintro σ H2 ⟨z, v, rfl, rfl, z0, z1⟩
      refine ⟨_, rfl, a, _, rfl, .inl hS, fun l hl => ?_⟩
      have s1 : Same H2 (upd H2 l (.lst (il ns))) := Same.new hl
      refine ⟨_, rfl, _, rfl, a, _, rfl, .inl (s1.seq hS), _, _, rfl, rfl, .inr ⟨_, rfl, _, _, rfl, rfl, .inl ⟨by omega, by omega⟩, ?_⟩⟩
      refine ⟨szd rfl, fun b hb => ?_⟩
      have lb : l ≠ b := ne_fresh (H := upd H2 l (.lst (il ns))) upd_same hb
      have hl2 : upd (upd H2 l (.lst (il ns))) b (.lst [V.ref l, V.int (z * (if decide ((2 : Int) < ((il ns).length : Int)) = true then 1 else 0))]) l = some (.lst (il ns)) := by
        rw [upd_ne lb]
        exact upd_same
      refine k b l _ (Same.back s1 hb) hl (s1.trans (Same.new hb)) ⟨Ne.symm lb, ns, _, upd_same, hl2, ?_, ?_⟩
      · by_cases h2 : decide ((2 : Int) < ((il ns).length : Int)) = true
        · rw [if_pos h2]; omega
        · rw [if_neg h2]; omega
      · by_cases h2 : decide ((2 : Int) < ((il ns).length : Int)) = true
        · rw [if_pos h2]; omega
        · rw [if_neg h2]; omega
/-! ### a row -/
theorem sc_law_row : FnScope ["_law_box", "_law_most", "_law_pages", "_law_found", "_law_way", "_law_turn", "_law_page"] ["_law_box", "_law_most"] (defScope (top 21)) := ⟨rfl, rfl, rfl, by decide +kernel, rfl, by decide +kernel, by decide +kernel⟩
theorem ok_law_row (T : Prog K mg) : FnOk P w K mg base CX0 2 T.law_row.f T.law_row.fd ["_law_box", "_law_most"] spRow := by
  have G_law_take := ok_law_take (P := P) (w := w) (base := base) T
  refine T.law_row.fn.ok sc_law_row (fun vs H Q E h => ?len) (fun cdv A outer s H vs Q E hr h => ?body)
  case len =>
    obtain ⟨b, l, m, rfl, _⟩ := h
    rfl
  case body =>
    have hr_law_take : Room 1 _ := hr.mono (by decide)
    have hu := hu_of hr
    obtain ⟨b, l, m, rfl, B, m0, m1, k⟩ := h
    refine ⟨_, PSs.nox (pss_cons (ps_set (i := 2) sc_law_row.nd rfl (Or.inl rfl) (pe_op op_add pe_int (pe_call G_law_take hr_law_take (by rfl) T.law_take.g T.law_take.fn.kp T.law_take.bd .nil pass0 (pa_cons (pv 0) (pa_cons (pe_ix ix_list (pe_lst (pa_cons pe_int (pa_cons pe_int (pa_cons pe_int pa_nil)))) (pe_call G_law_take hr_law_take (by rfl) T.law_take.g T.law_take.fn.kp T.law_take.bd .nil pass0 (pa_cons (pv 0) (pa_cons pe_int pa_nil))) (fun _ _ => rfl)) pa_nil)))))
        (pss_cons (ps_set (i := 3) sc_law_row.nd rfl (Or.inl rfl) (pe_lst pa_nil))
        (pss_cons (ps_set (i := 4) sc_law_row.nd rfl (Or.inl rfl) (pe_call G_law_take hr_law_take (by rfl) T.law_take.g T.law_take.fn.kp T.law_take.bd .nil pass0 (pa_cons (pv 0) (pa_cons pe_int pa_nil))))
        (pss_cons (ps_for PassesOwn.never rfl (pi_range1 (by rfl) T.range (pa_cons (pe_call G_law_take hr_law_take (by rfl) T.law_take.g T.law_take.fn.kp T.law_take.bd .nil pass0 (pa_cons (pv 0) (pa_cons (pe_op op_add (pv 1) pe_int) pa_nil))) pa_nil)) (pg_name (i := 5) sc_law_row.nd rfl (Or.inl rfl))
        (pss_cons (ps_set (i := 6) sc_law_row.nd rfl (Or.inl rfl) (pe_call G_law_take hr_law_take (by rfl) T.law_take.g T.law_take.fn.kp T.law_take.bd .nil pass0 (pa_cons (pv 0) (pa_cons (pv 2) pa_nil))))
        (C8.pss_cut (ps_if (PW.pt (pw_and (pt_cmpR op_eq (pv 4) pe_int (nomark _)) (pw_and (pt_cmpR (op_neD hr.units) (pv 3) (pe_lst pa_nil) (nomark _)) (pw_and1 (pt_cmpR op_gt (pe_call G_law_take hr_law_take (by rfl) T.law_take.g T.law_take.fn.kp T.law_take.bd .nil pass0 (pa_cons (pv 0) (pa_cons pe_int pa_nil))) pe_int (nomark _))))))
        (pss_one (ps_set (i := 6) sc_law_row.nd rfl (Or.inl rfl) (pe_ix ix_list (pv 3) (pe_op op_sub (pe_op op_sub (pe_callB call_len_seq (by rfl) T.len PySem.boot_len (pa_cons (pv 3) pa_nil)) pe_int) (pe_call G_law_take hr_law_take (by rfl) T.law_take.g T.law_take.fn.kp T.law_take.bd .nil pass0 (pa_cons (pv 0) (pa_cons (pe_callB (call_min2 rfl) (by rfl) T.min (by decide +kernel) (pa_cons pe_int (pa_cons (pe_callB call_len_seq (by rfl) T.len PySem.boot_len (pa_cons (pv 3) pa_nil)) pa_nil))) pa_nil)))) (fun _ _ => rfl))))
        pss_nil)
        (C8.pss_cut (ps_if (PW.pt (pw_and (pt_cmpR op_eq (pv 4) pe_int (nomark _)) (pw_and1 (pt_cmpR op_gt (pe_call G_law_take hr_law_take (by rfl) T.law_take.g T.law_take.fn.kp T.law_take.bd .nil pass0 (pa_cons (pv 0) (pa_cons pe_int pa_nil))) pe_int (nomark _)))))
        (pss_one (ps_set (i := 6) sc_law_row.nd rfl (Or.inl rfl) (pe_op op_mod (pv 5) (pv 2))))
        pss_nil)
        (C8.pss_cut (ps_if (PW.pt (pw_and (pt_cmpR op_eq (pv 4) pe_int (nomark _)) (pw_and (pt_cmpR (op_neD hr.units) (pv 3) (pe_lst pa_nil) (nomark _)) (pw_and1 (pt_cmpR op_gt (pe_call G_law_take hr_law_take (by rfl) T.law_take.g T.law_take.fn.kp T.law_take.bd .nil pass0 (pa_cons (pv 0) (pa_cons pe_int pa_nil))) pe_int (nomark _))))))
        (pss_one (ps_set (i := 6) sc_law_row.nd rfl (Or.inl rfl) (pe_op op_mod (pe_op op_add (pe_op op_add (pe_ix ix_list (pv 3) (pe_un un_neg pe_int) (fun _ _ => rfl)) pe_int) (pe_call G_law_take hr_law_take (by rfl) T.law_take.g T.law_take.fn.kp T.law_take.bd .nil pass0 (pa_cons (pv 0) (pa_cons pe_int pa_nil)))) (pv 2))))
        pss_nil)
        (pss_one (ps_expr (pe_bm PySem.F.plainAttrs_list PySem.F.slot_list_append PySem.F.type_list_append mt_append (pv 3) (pa_cons (pv 6) pa_nil)))))))))
        (pss_one (ps_ret (pv 3))))))), ?_⟩
    -- pages = 1 + take(box, [4, 6, 12][take(box, 3)])
    refine ⟨_, rfl, ⟨szd rfl, fun e he => ?_⟩⟩
    have eb : b ≠ e := by obtain ⟨_, _, h1, _⟩ := B.ex; exact ne_fresh h1 he
    have el : l ≠ e := by obtain ⟨_, _, _, h1, _⟩ := B.ex; exact ne_fresh h1 he
    have s1 : But [b, l] H (upd H e (.lst (il [4, 6, 12]))) := But.new he
    refine ⟨_, rfl, b, l, 3, rfl, B.same (Same.new he), by decide, by decide, fun r H1 r0 r1 k1 B1 => ?_⟩
    have he1 : H1 e = some (.lst (il [4, 6, 12])) := k1 e _ upd_same (by simp [Ne.symm eb, Ne.symm el])
    obtain ⟨v, hv, hat⟩ := il_menu (xs := [4, 6, 12]) r0 r1
    have v0 : 0 < v ∧ v ≤ 12 := by simp at hv; omega
    refine ⟨e, _, _, _, rfl, rfl, SqL.of he1, hat, b, l, v, rfl, B1, v0.1, by omega, fun pg H2 p0 p1 k2 B2 => ?_⟩
    have k02 : But [b, l] H H2 := (s1.trans k1).trans k2
    refine ⟨_, _, rfl, rfl, ?_⟩
    have pgs0 : 0 < 1 + pg ∧ 1 + pg ≤ 12 := by omega
    -- found = []; way = take(box, 4)
    refine ⟨szd rfl, fun f hf => ?_⟩
    have hfH : H f = none := k02.back hf (by
      obtain ⟨_, _, h1, h2, _⟩ := B2.ex
      have := ne_fresh h1 hf
      have := ne_fresh h2 hf
      simp only [List.mem_cons, List.not_mem_nil, or_false, not_or]
      exact ⟨Ne.symm ‹b ≠ f›, Ne.symm ‹l ≠ f›⟩)
    have fb : f ≠ b := by obtain ⟨_, _, h1, _⟩ := B2.ex; exact Ne.symm (ne_fresh h1 hf)
    have fl : f ≠ l := by obtain ⟨_, _, _, h1, _⟩ := B2.ex; exact Ne.symm (ne_fresh h1 hf)
    have fS : f ∉ [b, l] := by simp [fb, fl]
    refine ⟨_, rfl, b, l, 4, rfl, B2.same (Same.new hf), by decide, by decide, fun way H3 w0 w1 k3 B3 => ?_⟩
    -- for turn in range(take(box, most + 1))
    refine ⟨_, rfl, _, rfl, _, _, rfl, rfl, b, l, _, rfl, B3, by omega, by omega, fun j H4 j0 j1 k4 B4 => ?_⟩
    have hf4 : H4 f = some (.lst (il [])) := k4 f _ (k3 f _ upd_same fS) fS
    have k04 : But [b, l] H H4 := ((k02.trans (But.new hf)).trans k3).trans k4
    refine ⟨_, rfl, by omega, by omega, for_range (lo := 0) (n := j.toNat) (fun i σ H' => ∃ (row : List Int) (v5 v6 : Option V), σ = [some (.ref b), some (.int m), some (.int (1 + pg)), some (.ref f), some (.int way), v5, v6] ∧
      H' f = some (.lst (il row)) ∧ BoxAt H' b l ∧ But [b, l] H H' ∧ row.length = i ∧ ∀ p ∈ row, 0 ≤ p ∧ p < (1 + pg)) ⟨[], _, _, rfl, hf4, B4, k04, rfl, by simp⟩ ?_ ?_⟩
    · rintro i σ H5 hi ⟨row, v5, v6, rfl, hf5, B5, k05, hlen, hrow⟩
      -- page = take(box, pages)
      refine ⟨_, rfl, _, rfl, b, l, _, rfl, B5, pgs0.1, by omega, fun pg1 H6 q0 q1 k6 B6 => ?_⟩
      -- what stands between the ifs
      let S : L2.Hp → Prop := fun H' => H' f = some (.lst (il row)) ∧ BoxAt H' b l ∧ But [b, l] H H'
      let M : L2.St → Hp → Prop := fun σ' H' => ∃ p : Int, σ' = [some (.ref b), some (.int m), some (.int (1 + pg)), some (.ref f), some (.int way), some (.int (0 + (i : Int))), some (.int p)] ∧ S H' ∧ 0 ≤ p ∧ p < 1 + pg
      have sNew : ∀ {H' : Hp} {e : Addr} {o : HO}, S H' → H' e = none → S (upd H' e o) := fun {H' e o} h he => ⟨by rw [upd_ne (ne_fresh h.1 he)]; exact h.1, h.2.1.same (Same.new he), h.2.2.trans (But.new he)⟩
      have sTake : ∀ {H' H'' : Hp}, S H' → But [b, l] H' H'' → BoxAt H'' b l → S H'' := fun h k B => ⟨k f _ h.1 fS, B, h.2.2.trans k⟩
      have sM : ∀ {H' : Hp} {p : Int}, S H' → 0 ≤ p → p < 1 + pg → M [some (.ref b), some (.int m), some (.int (1 + pg)), some (.ref f), some (.int way), some (.int (0 + (i : Int))), some (.int p)] H' := fun h p0 p1 => ⟨_, rfl, h, p0, p1⟩
      have s6 : S H6 := ⟨k6 f _ hf5 fS, B6, k05.trans k6⟩
      refine ⟨M, ?_, ?_⟩
      · -- way == 1 and found != [] and take(box, 3) > 0
        refine ⟨_, rfl, rfl, _, rfl, ?_⟩
        refine ite2 (fun _ => ?_) (fun _ => iteF (sM s6 q0 q1))
        refine ⟨_, rfl, szd rfl, fun e he => ?_⟩
        have s7 := sNew (o := .lst []) s6 he
        refine ⟨pd row, pd [], dp_il (SqL.of s7.1), dp_il (ns := []) (SqL.of upd_same), shaped_il _, shaped_il _, _, rfl, ?_⟩
        rw [eqv_il]
        by_cases hr0 : row = []
        · exact ifF (by simp [hr0]) (iteF (sM s7 q0 q1))
        refine ifT (by simp [hr0]) ?_
        have hpos : 0 < row.length := List.length_pos_iff.mpr hr0
        refine ⟨_, rfl, b, l, 3, rfl, s7.2.1, by decide, by decide, fun c H8 c0 c1 k8 B8 => ?_⟩
        have s8 := sTake s7 k8 B8
        refine ⟨_, _, rfl, rfl, _, rfl, ?_⟩
        refine ite2 (fun _ => ?_) (fun _ => sM s8 q0 q1)
        refine ⟨_, rfl, _, rfl, f, _, rfl, .inl (SqL.of s8.1), _, _, rfl, rfl, _, rfl, _, rfl, f, _, rfl, .inl (SqL.of s8.1), _, _, rfl, b, l, _, rfl, B8, ?_, ?_, fun u H9 u0 u1 k9 B9 => ?_⟩
        · rw [il_len]; split <;> omega
        · rw [il_len]; split <;> omega
        have s9 := sTake s8 k9 B9
        rw [il_len] at u1
        have hat : ∃ v, v ∈ row ∧ atI (il row) ((((il row).length : Int) - 1) - u) = some (V.int v) := by
          rw [il_len]
          refine il_menu ?_ ?_
          · split at u1 <;> omega
          · omega
        obtain ⟨v, hv, hat⟩ := hat
        refine ⟨_, _, rfl, rfl, f, _, _, _, rfl, rfl, SqL.of s9.1, hat, ?_⟩
        exact sM s9 (hrow v hv).1 (hrow v hv).2
      · rintro σ' H7 ⟨p, rfl, s7, p0, p1⟩
        refine ⟨M, ?_, ?_⟩
        · -- way == 2 and take(box, 5) > 0
          refine ⟨_, rfl, rfl, _, rfl, ?_⟩
          refine ite2 (fun _ => ?_) (fun _ => iteF (sM s7 p0 p1))
          refine ⟨_, rfl, b, l, 5, rfl, s7.2.1, by decide, by decide, fun c H8 c0 c1 k8 B8 => ?_⟩
          have s8 := sTake s7 k8 B8
          refine ⟨_, _, rfl, rfl, _, rfl, ?_⟩
          refine ite2 (fun _ => ?_) (fun _ => sM s8 p0 p1)
          refine ⟨_, rfl, _, rfl, _, _, rfl, rfl, pgs0.1, ?_⟩
          exact sM s8 (Int.emod_nonneg _ (by omega)) (Int.emod_lt_of_pos _ pgs0.1)
        · rintro σ' H7 ⟨p, rfl, s7, p0, p1⟩
          refine ⟨M, ?_, ?_⟩
          · -- way == 3 and found != [] and take(box, 3) > 0
            refine ⟨_, rfl, rfl, _, rfl, ?_⟩
            refine ite2 (fun _ => ?_) (fun _ => iteF (sM s7 p0 p1))
            refine ⟨_, rfl, szd rfl, fun e he => ?_⟩
            have s8 := sNew (o := .lst []) s7 he
            refine ⟨pd row, pd [], dp_il (SqL.of s8.1), dp_il (ns := []) (SqL.of upd_same), shaped_il _, shaped_il _, _, rfl, ?_⟩
            rw [eqv_il]
            by_cases hr0 : row = []
            · exact ifF (by simp [hr0]) (iteF (sM s8 p0 p1))
            refine ifT (by simp [hr0]) ?_
            refine ⟨_, rfl, b, l, 3, rfl, s8.2.1, by decide, by decide, fun c H9 c0 c1 k9 B9 => ?_⟩
            have s9 := sTake s8 k9 B9
            refine ⟨_, _, rfl, rfl, _, rfl, ?_⟩
            refine ite2 (fun _ => ?_) (fun _ => sM s9 p0 p1)
            obtain ⟨v, hv, hat⟩ := il_last hr0
            refine ⟨_, rfl, _, rfl, f, _, _, _, rfl, rfl, SqL.of s9.1, hat, _, _, rfl, rfl, _, rfl, b, l, 2, rfl, B9, by decide, by decide, fun u H10 u0 u1 k10 B10 => ?_⟩
            have s10 := sTake s9 k10 B10
            refine ⟨_, _, rfl, rfl, _, rfl, _, _, rfl, rfl, pgs0.1, ?_⟩
            exact sM s10 (Int.emod_nonneg _ (by omega)) (Int.emod_lt_of_pos _ pgs0.1)
          · -- found.append(page)
            rintro σ' H8 ⟨p, rfl, s8, p0, p1⟩
            refine ⟨_, rfl, .inl ⟨rfl, _, SqL.of s8.1⟩, _, rfl, f, _, _, rfl, rfl, s8.1, szl (by rw [il_len]; omega), ?_⟩
            refine ⟨row ++ [p], _, _, rfl, ?_, s8.2.1.but (S := [f]) (But.put (by simp)) (by simp [Ne.symm fb]) (by simp [Ne.symm fl]), ?_, by simp [hlen], ?_⟩
            · rw [upd_same, il_snoc]
            · intro c o hc hn
              rw [upd_ne (ne_fresh hc hfH)]
              exact s8.2.2 c o hc hn
            · intro x hx
              rcases List.mem_append.mp hx with hx | hx
              · exact hrow x hx
              · rw [List.mem_singleton.mp hx]
                exact ⟨p0, p1⟩
    · rintro σ H' ⟨row, v5, v6, rfl, hf', B', k', hlen, hrow⟩
      exact ⟨_, rfl, k row f H' hfH (fun p hp => by have := hrow p hp; omega) (by omega) k' hf' B'⟩
end
end CK

namespace CK
open PySem PySem.Spec PyProof.Rows L2
/-! ### two things that read as the same data are alike -/
mutual
/-- no list of it is longer than a thousand -/
def smallD : PyData → Prop
  | .list ds => ds.length ≤ 1000 ∧ smallAll ds
  | .tuple ds => ds.length ≤ 1000 ∧ smallAll ds
  | _ => True
def smallAll : List PyData → Prop
  | [] => True
  | d :: ds => smallD d ∧ smallAll ds
end
theorem small_at : ∀ {ds : List PyData} {i : Nat} {d : PyData}, smallAll ds → ds[i]? = some d → smallD d
  | [], _, _, _, h => by simp at h
  | a :: r, 0, d, s, h => by
    have e : a = d := Option.some.inj h
    rw [← e]
    exact s.1
  | a :: r, i + 1, d, s, h => small_at (ds := r) (i := i) s.2 h
def spAlike (K : PySem.W.Frag) (n : Nat) : Sp := fun vs H Q _ => ∃ (x y : V) (d : PyData), vs = [x, y] ∧ Dp K H x d ∧ Dp K H y d ∧ d.depth < n ∧ smallD d ∧ Q (.bl true) H
theorem dpAll_len {K : PySem.W.Frag} {H : Hp} : ∀ {xs : List V} {ds : List PyData}, DpAll K H xs ds → xs.length = ds.length
  | _, _, .nil => rfl
  | _, _, .cons _ t => congrArg Nat.succ (dpAll_len t)
theorem dpAll_at {K : PySem.W.Frag} {H : Hp} : ∀ {xs : List V} {ds : List PyData} {i : Nat}, DpAll K H xs ds → i < ds.length → ∃ x d, xs[i]? = some x ∧ ds[i]? = some d ∧ Dp K H x d
  | _, _, _, .nil, h => absurd h (Nat.not_lt_zero _)
  | x :: _, d :: _, 0, .cons a _, _ => ⟨x, d, rfl, rfl, a⟩
  | _ :: xs, _ :: ds, i + 1, .cons _ t, h => by
    obtain ⟨x, d, e1, e2, e3⟩ := dpAll_at (i := i) t (Nat.lt_of_succ_lt_succ h)
    exact ⟨x, d, e1, e2, e3⟩
theorem dep_at : ∀ {ds : List PyData} {i : Nat} {d : PyData}, ds[i]? = some d → d.depth ≤ PyData.depthAll ds
  | [], _, _, h => by simp at h
  | a :: r, 0, d, h => by
    have e : a = d := Option.some.inj h
    rw [← e]
    exact Nat.le_max_left _ _
  | a :: r, i + 1, d, h => Nat.le_trans (dep_at (ds := r) (i := i) h) (Nat.le_max_right _ _)
theorem ty_list {K : PySem.W.Frag} {H : Hp} {a : Addr} {xs : List V} (h : SqL K H a xs) : TyX K H (.ref a) (.type "list") := by
  rcases h with (h | ⟨o, h⟩) | ⟨o, its, n, hk, hc, _⟩
  · exact .base (.lst h)
  · exact .base (.frz h)
  · exact .kList hk hc
theorem ty_tup {K : PySem.W.Frag} {H : Hp} {a : Addr} {xs : List V} (h : SqT K H a xs) : TyX K H (.ref a) (.type "tuple") := by
  rcases h with (h | ⟨o, h⟩) | ⟨o, its, n, hk, hc, _⟩
  · exact .base (.tup h)
  · exact .fTuple h
  · exact .kTuple hk hc
section
variable {P : Program} {w : World} {K : PySem.W.Frag} {mg : Str → Option Value} {base : Heap}
theorem sc_law_alike : FnScope ["_law_found", "_law_due", "_law_k"] ["_law_found", "_law_due"] (defScope (top 20)) := ⟨rfl, rfl, rfl, by decide +kernel, rfl, by decide +kernel, by decide +kernel⟩
theorem ok_law_alike (T : Prog K mg) (n : Nat) (G_law_alike : FnOk P w K mg base CX0 n T.law_alike.f T.law_alike.fd ["_law_found", "_law_due"] (spAlike K n)) : FnOk P w K mg base CX0 (n + 1) T.law_alike.f T.law_alike.fd ["_law_found", "_law_due"] (spAlike K (n + 1)) := by
  refine T.law_alike.fn.ok sc_law_alike (fun vs H Q E h => ?len) (fun cdv A outer s H vs Q E hr h => ?body)
  case len =>
    obtain ⟨x, y, d, rfl, _⟩ := h
    rfl
  case body =>
    have hu := hu_of hr
    have hr_law_alike : Room n _ := hr
    obtain ⟨x, y, d, rfl, dx, dy, hn, hsm, k⟩ := h
    refine ⟨_, PSs.nox (pss_cons (ps_if (pt_cmpR op_isN (pv 1) pe_non (nomark _))
        (pss_one (ps_ret (pe_cmpR op_isN (pv 0) pe_non (nomark _))))
        pss_nil)
        (pss_cons (ps_if (pt_val (pe_callB call_isi (by rfl) T.isinstance (by decide +kernel) (pa_cons (pv 1) (pa_cons (pe_bltn (v := L2.V.ty "bool") (by rfl) T.bool_ (by decide +kernel) rfl) pa_nil))))
        (pss_one (ps_ret (pe_and (pe_callB call_isi (by rfl) T.isinstance (by decide +kernel) (pa_cons (pv 0) (pa_cons (pe_bltn (v := L2.V.ty "bool") (by rfl) T.bool_ (by decide +kernel) rfl) pa_nil))) (pe_one (pe_cmpR op_eq (pv 0) (pv 1) (nomark _))))))
        pss_nil)
        (pss_cons (ps_if (pt_val (pe_callB call_isi (by rfl) T.isinstance (by decide +kernel) (pa_cons (pv 1) (pa_cons (pe_bltn (v := L2.V.ty "int") (by rfl) T.int_ (by decide +kernel) rfl) pa_nil))))
        (pss_one (ps_ret (pe_and (pe_callB call_isi (by rfl) T.isinstance (by decide +kernel) (pa_cons (pv 0) (pa_cons (pe_bltn (v := L2.V.ty "int") (by rfl) T.int_ (by decide +kernel) rfl) pa_nil))) (pe_and (pe_not (pe_callB call_isi (by rfl) T.isinstance (by decide +kernel) (pa_cons (pv 0) (pa_cons (pe_bltn (v := L2.V.ty "bool") (by rfl) T.bool_ (by decide +kernel) rfl) pa_nil)))) (pe_one (pe_cmpR op_eq (pv 0) (pv 1) (nomark _)))))))
        pss_nil)
        (pss_cons (ps_if (pt_val (pe_callB call_isi (by rfl) T.isinstance (by decide +kernel) (pa_cons (pv 1) (pa_cons (pe_bltn (v := L2.V.ty "str") (by rfl) T.str_ (by decide +kernel) rfl) pa_nil))))
        (pss_one (ps_ret (pe_and (pe_callB call_isi (by rfl) T.isinstance (by decide +kernel) (pa_cons (pv 0) (pa_cons (pe_bltn (v := L2.V.ty "str") (by rfl) T.str_ (by decide +kernel) rfl) pa_nil))) (pe_one (pe_cmpR op_eq (pv 0) (pv 1) (nomark _))))))
        pss_nil)
        (pss_cons (ps_if (PW.pt (pw_or (pt_cmpR op_ne (pe_callB call_isi (by rfl) T.isinstance (by decide +kernel) (pa_cons (pv 1) (pa_cons (pe_bltn (v := L2.V.ty "tuple") (by rfl) T.tuple_ (by decide +kernel) rfl) pa_nil))) (pe_callB call_isi (by rfl) T.isinstance (by decide +kernel) (pa_cons (pv 0) (pa_cons (pe_bltn (v := L2.V.ty "tuple") (by rfl) T.tuple_ (by decide +kernel) rfl) pa_nil))) (nomark _)) (pw_or1 (pt_cmpR op_ne (pe_callB call_isi (by rfl) T.isinstance (by decide +kernel) (pa_cons (pv 1) (pa_cons (pe_bltn (v := L2.V.ty "list") (by rfl) T.list_ (by decide +kernel) rfl) pa_nil))) (pe_callB call_isi (by rfl) T.isinstance (by decide +kernel) (pa_cons (pv 0) (pa_cons (pe_bltn (v := L2.V.ty "list") (by rfl) T.list_ (by decide +kernel) rfl) pa_nil))) (nomark _)))))
        (pss_one (ps_ret pe_bl))
        pss_nil)
        (pss_cons (ps_if (pt_cmpR op_ne (pe_callB call_len_seq (by rfl) T.len PySem.boot_len (pa_cons (pv 0) pa_nil)) (pe_callB call_len_seq (by rfl) T.len PySem.boot_len (pa_cons (pv 1) pa_nil)) (nomark _))
        (pss_one (ps_ret pe_bl))
        pss_nil)
        (pss_cons (ps_for PassesOwn.never rfl (pi_range1 (by rfl) T.range (pa_cons (pe_callB call_len_seq (by rfl) T.len PySem.boot_len (pa_cons (pv 1) pa_nil)) pa_nil)) (pg_name (i := 2) sc_law_alike.nd rfl (Or.inl rfl))
        (pss_one (ps_if (pt_not (pt_val (pe_call G_law_alike hr_law_alike (by rfl) T.law_alike.g T.law_alike.fn.kp T.law_alike.bd .nil pass0 (pa_cons (pe_ix ix_seq (pv 0) (pv 2) (fun _ _ => rfl)) (pa_cons (pe_ix ix_seq (pv 1) (pv 2) (fun _ _ => rfl)) pa_nil)))))
        (pss_one (ps_ret pe_bl))
        pss_nil)))
        (pss_one (ps_ret pe_bl))))))))), ?_⟩
    refine ⟨_, rfl, rfl, _, rfl, ?_⟩
    cases dy with
    | non =>
      cases dx
      exact ifT rfl ⟨_, rfl, rfl, k⟩
    | bl c =>
      cases dx
      refine ifF rfl ⟨_, rfl, _, _, _, _, _, rfl, .ty _, .base (.bl _), kit_ty (by decide +kernel), _, rfl, iteT ?_⟩
      refine ⟨_, rfl, _, _, _, _, _, rfl, .ty _, .base (.bl _), kit_ty (by decide +kernel), _, rfl, iteT ?_⟩
      refine ⟨_, rfl, _, rfl, rfl, ?_⟩
      rw [decide_eq_true rfl]
      exact k
    | int i =>
      cases dx
      refine ifF rfl ⟨_, rfl, _, _, _, _, _, rfl, .ty _, .base (.int _), kit_ty (by decide +kernel), _, rfl, iteF ?_⟩
      refine ⟨_, rfl, _, _, _, _, _, rfl, .ty _, .base (.int _), kit_ty (by decide +kernel), _, rfl, iteT ?_⟩
      refine ⟨_, rfl, _, _, _, _, _, rfl, .ty _, .base (.int _), kit_ty (by decide +kernel), _, rfl, iteT ?_⟩
      refine ⟨_, rfl, _, _, _, _, _, rfl, .ty _, .base (.int _), kit_ty (r := false) (by decide +kernel), _, rfl, _, rfl, iteT ?_⟩
      refine ⟨_, rfl, _, rfl, rfl, ?_⟩
      rw [decide_eq_true rfl]
      exact k
    | str z =>
      cases dx
      refine ifF rfl ⟨_, rfl, _, _, _, _, _, rfl, .ty _, .base (.str _), kit_ty (by decide +kernel), _, rfl, iteF ?_⟩
      refine ⟨_, rfl, _, _, _, _, _, rfl, .ty _, .base (.str _), kit_ty (by decide +kernel), _, rfl, iteF ?_⟩
      refine ⟨_, rfl, _, _, _, _, _, rfl, .ty _, .base (.str _), kit_ty (by decide +kernel), _, rfl, iteT ?_⟩
      refine ⟨_, rfl, _, _, _, _, _, rfl, .ty _, .base (.str _), kit_ty (by decide +kernel), _, rfl, iteT ?_⟩
      refine ⟨_, rfl, _, rfl, rfl, ?_⟩
      rw [decide_eq_true rfl]
      exact k
    | @lst a xs ds ha hall =>
      cases dx with
      | @lst a' xs' _ ha' hall' =>
      refine ifF rfl ⟨_, rfl, _, _, _, _, _, rfl, .ty _, ty_list ha, kit_ty (by decide +kernel), _, rfl, iteF ?_⟩
      refine ⟨_, rfl, _, _, _, _, _, rfl, .ty _, ty_list ha, kit_ty (by decide +kernel), _, rfl, iteF ?_⟩
      refine ⟨_, rfl, _, _, _, _, _, rfl, .ty _, ty_list ha, kit_ty (by decide +kernel), _, rfl, iteF ?_⟩
      refine ⟨_, rfl, _, _, _, _, _, rfl, .ty _, ty_list ha, kit_ty (r := false) (by decide +kernel), _, rfl, _, _, _, _, _, rfl, .ty _, ty_list ha', kit_ty (r := false) (by decide +kernel), rfl, _, rfl, ?_⟩
      refine ifF rfl ⟨_, rfl, _, _, _, _, _, rfl, .ty _, ty_list ha, kit_ty (r := true) (by decide +kernel), _, rfl, _, _, _, _, _, rfl, .ty _, ty_list ha', kit_ty (r := true) (by decide +kernel), rfl, _, rfl, ?_⟩
      refine ifF rfl ?_
      have e1 := dpAll_len hall
      have e2 := dpAll_len hall'
      have hs1 : ds.length ≤ 1000 := hsm.1
      refine ⟨_, rfl, _, _, rfl, .inl ha', _, rfl, _, _, rfl, .inl ha, rfl, _, rfl, ?_⟩
      refine ifF (by rw [e1, e2]; simp) ?_
      refine ⟨_, rfl, _, _, rfl, .inl ha, _, rfl, by omega, by omega, ?_⟩
      refine for_range (lo := 0) (n := ((xs.length : Int)).toNat) (fun i σ H' => ∃ v, σ = [some (.ref a'), some (.ref a), v] ∧ H' = H) ⟨_, rfl, rfl⟩ ?_ ?_
      · rintro i σ H' hi ⟨v, rfl, rfl⟩
        have hi' : i < ds.length := by omega
        obtain ⟨x1, d1, f1, f2, f3⟩ := dpAll_at hall hi'
        obtain ⟨x2, d2, g1, g2, g3⟩ := dpAll_at hall' hi'
        have ed : d2 = d1 := Option.some.inj (g2.symm.trans f2)
        subst ed
        have hat1 : atI xs (0 + (i : Int)) = some x1 := by rw [Int.zero_add]; exact atI_nat f1
        have hat2 : atI xs' (0 + (i : Int)) = some x2 := by rw [Int.zero_add]; exact atI_nat g1
        have hdep : d2.depth < n := by
          have h1 := dep_at f2
          have h2 : PyData.depthAll ds + 1 < n + 1 := hn
          omega
        refine ⟨_, rfl, _, rfl, .inl ⟨_, _, _, _, rfl, rfl, ha', hat2, _, rfl, _, rfl, .inl ⟨_, _, _, _, rfl, rfl, ha, hat1, ?_⟩⟩⟩
        refine ⟨_, _, d2, rfl, g3, f3, hdep, small_at hsm.2 f2, _, rfl, ?_⟩
        exact iteF ⟨_, rfl, rfl⟩
      · rintro σ H' ⟨v, rfl, rfl⟩
        exact k
    | @tup a xs ds ha hall =>
      cases dx with
      | @tup a' xs' _ ha' hall' =>
      refine ifF rfl ⟨_, rfl, _, _, _, _, _, rfl, .ty _, ty_tup ha, kit_ty (by decide +kernel), _, rfl, iteF ?_⟩
      refine ⟨_, rfl, _, _, _, _, _, rfl, .ty _, ty_tup ha, kit_ty (by decide +kernel), _, rfl, iteF ?_⟩
      refine ⟨_, rfl, _, _, _, _, _, rfl, .ty _, ty_tup ha, kit_ty (by decide +kernel), _, rfl, iteF ?_⟩
      refine ⟨_, rfl, _, _, _, _, _, rfl, .ty _, ty_tup ha, kit_ty (r := true) (by decide +kernel), _, rfl, _, _, _, _, _, rfl, .ty _, ty_tup ha', kit_ty (r := true) (by decide +kernel), rfl, _, rfl, ?_⟩
      refine ifF rfl ⟨_, rfl, _, _, _, _, _, rfl, .ty _, ty_tup ha, kit_ty (r := false) (by decide +kernel), _, rfl, _, _, _, _, _, rfl, .ty _, ty_tup ha', kit_ty (r := false) (by decide +kernel), rfl, _, rfl, ?_⟩
      refine ifF rfl ?_
      have e1 := dpAll_len hall
      have e2 := dpAll_len hall'
      have hs1 : ds.length ≤ 1000 := hsm.1
      refine ⟨_, rfl, _, _, rfl, .inr ha', _, rfl, _, _, rfl, .inr ha, rfl, _, rfl, ?_⟩
      refine ifF (by rw [e1, e2]; simp) ?_
      refine ⟨_, rfl, _, _, rfl, .inr ha, _, rfl, by omega, by omega, ?_⟩
      refine for_range (lo := 0) (n := ((xs.length : Int)).toNat) (fun i σ H' => ∃ v, σ = [some (.ref a'), some (.ref a), v] ∧ H' = H) ⟨_, rfl, rfl⟩ ?_ ?_
      · rintro i σ H' hi ⟨v, rfl, rfl⟩
        have hi' : i < ds.length := by omega
        obtain ⟨x1, d1, f1, f2, f3⟩ := dpAll_at hall hi'
        obtain ⟨x2, d2, g1, g2, g3⟩ := dpAll_at hall' hi'
        have ed : d2 = d1 := Option.some.inj (g2.symm.trans f2)
        subst ed
        have hat1 : atI xs (0 + (i : Int)) = some x1 := by rw [Int.zero_add]; exact atI_nat f1
        have hat2 : atI xs' (0 + (i : Int)) = some x2 := by rw [Int.zero_add]; exact atI_nat g1
        have hdep : d2.depth < n := by
          have h1 := dep_at f2
          have h2 : PyData.depthAll ds + 1 < n + 1 := hn
          omega
        refine ⟨_, rfl, _, rfl, .inr (.inl ⟨_, _, _, _, rfl, rfl, ha', hat2, _, rfl, _, rfl, .inr (.inl ⟨_, _, _, _, rfl, rfl, ha, hat1, ?_⟩)⟩)⟩
        refine ⟨_, _, d2, rfl, g3, f3, hdep, small_at hsm.2 f2, _, rfl, ?_⟩
        exact iteF ⟨_, rfl, rfl⟩
      · rintro σ H' ⟨v, rfl, rfl⟩
        exact k
/-- so of any depth, by its levels -/
theorem ok_alike (T : Prog K mg) : ∀ n : Nat, FnOk P w K mg base CX0 n T.law_alike.f T.law_alike.fd ["_law_found", "_law_due"] (spAlike K n)
  | 0 => ⟨fun vs H Q E ⟨x, y, d, e, _⟩ => by rw [e]; rfl, fun A outer s H args us vs Q E _ _ _ _ ⟨x, y, d, _, _, _, h, _⟩ => absurd h (Nat.not_lt_zero _)⟩
  | n + 1 => ok_law_alike T n (ok_alike T n)
end
end CK

/-! The dial as plain data, and what an ask does to it. -/
namespace CK
structure DS where
  held : List (Option Int)
  marks : List Bool
  hand : Nat
  lacks : Nat
structure DS.WF (s : DS) (n : Nat) : Prop where
  h : s.held.length = n
  m : s.marks.length = n
  n : s.hand < n
def DS.new (n : Nat) : DS := ⟨List.replicate n none, List.replicate n false, 0, 0⟩
/-- the hand past the marked rooms: so many rounds at most -/
def passF : Nat → List Bool → Nat → List Bool × Nat × List Nat
  | 0, m, h => (m, h, [])
  | k + 1, m, h => if m[h]? = some true then
      let r := passF k (m.set h false) ((h + 1) % m.length)
      (r.1, r.2.1, h :: r.2.2)
    else (m, h, [])
def DS.pass (s : DS) : List Bool × Nat × List Nat := passF (s.marks.count true) s.marks s.hand
def DS.lack (s : DS) (p : Int) : DS :=
  ⟨s.held.set s.pass.2.1 (some p), s.pass.1.set s.pass.2.1 true, (s.pass.2.1 + 1) % s.held.length, s.lacks + 1⟩
def DS.hit (s : DS) (p : Int) : DS := { s with marks := s.marks.set (s.held.idxOf (some p)) true }
def DS.ask (s : DS) (p : Int) : DS := if some p ∈ s.held then s.hit p else s.lack p
/-- what an ask tells -/
def DS.tells (s : DS) (p : Int) : Bool × Option Int × List Nat :=
  if some p ∈ s.held then (false, none, []) else (true, (s.held[s.pass.2.1]?).getD none, s.pass.2.2)
def afterL (s : DS) (row : List Int) : DS := row.foldl DS.ask s
def tellsL : DS → List Int → List (Bool × Option Int × List Nat)
  | _, [] => []
  | s, p :: r => s.tells p :: tellsL (s.ask p) r
theorem afterL_snoc (s : DS) (xs : List Int) (p : Int) : afterL s (xs ++ [p]) = (afterL s xs).ask p := by
  unfold afterL
  rw [List.foldl_append]
  rfl
theorem tellsL_snoc : ∀ (s : DS) (xs : List Int) (p : Int), tellsL s (xs ++ [p]) = tellsL s xs ++ [(afterL s xs).tells p]
  | _, [], _ => rfl
  | s, x :: r, p => congrArg (s.tells x :: ·) (tellsL_snoc (s.ask x) r p)
theorem tellsL_len : ∀ (s : DS) (xs : List Int), (tellsL s xs).length = xs.length
  | _, [] => rfl
  | s, x :: r => congrArg Nat.succ (tellsL_len (s.ask x) r)
/-- the places of what is true -/
def placesT : Nat → List Bool → List Nat
  | _, [] => []
  | i, b :: r => if b = true then i :: placesT (i + 1) r else placesT (i + 1) r
theorem placesT_snoc : ∀ (i : Nat) (xs : List Bool) (b : Bool), placesT i (xs ++ [b]) = placesT i xs ++ (if b = true then [i + xs.length] else [])
  | i, [], b => by
    show (if b = true then i :: [] else []) = [] ++ _
    rfl
  | i, x :: r, b => by
    show (if x = true then i :: placesT (i + 1) (r ++ [b]) else placesT (i + 1) (r ++ [b])) = (if x = true then i :: placesT (i + 1) r else placesT (i + 1) r) ++ _
    rw [placesT_snoc (i + 1) r b]
    have e : i + 1 + r.length = i + (x :: r).length := by simp; omega
    rw [e]
    by_cases h : x = true
    · rw [if_pos h, if_pos h]; rfl
    · rw [if_neg h, if_neg h]
theorem placesT_le : ∀ (i : Nat) (xs : List Bool), (placesT i xs).length ≤ xs.length
  | _, [] => Nat.le_refl _
  | i, x :: r => by
    have q := placesT_le (i + 1) r
    unfold placesT
    split
    · simpa using q
    · simp; omega
/-- the line of the other rules -/
def lineStep (n : Nat) (re : Bool) (l : List Int) (p : Int) : List Int :=
  if p ∈ l then (if re = true then l.eraseIdx (l.idxOf p) ++ [p] else l) else (if l.length = n then l.eraseIdx 0 else l) ++ [p]
def lineAt (n : Nat) (re : Bool) (row : List Int) : List Int := row.foldl (lineStep n re) []
def lineL (n : Nat) (re : Bool) : List Int → List Int → List Bool
  | _, [] => []
  | l, p :: r => (!decide (p ∈ l)) :: lineL n re (lineStep n re l p) r
theorem lineAt_snoc (n : Nat) (re : Bool) (xs : List Int) (p : Int) : lineAt n re (xs ++ [p]) = lineStep n re (lineAt n re xs) p := by
  unfold lineAt
  rw [List.foldl_append]
  rfl
theorem lineL_snoc : ∀ (n : Nat) (re : Bool) (l xs : List Int) (p : Int), lineL n re l (xs ++ [p]) = lineL n re l xs ++ [!decide (p ∈ xs.foldl (lineStep n re) l)]
  | _, _, _, [], _ => rfl
  | n, re, l, x :: r, p => congrArg (_ :: ·) (lineL_snoc n re (lineStep n re l x) r p)
theorem lineL_len : ∀ (n : Nat) (re : Bool) (l xs : List Int), (lineL n re l xs).length = xs.length
  | _, _, _, [] => rfl
  | n, re, l, x :: r => congrArg Nat.succ (lineL_len n re (lineStep n re l x) r)
structure LineOk (n : Nat) (l : List Int) : Prop where
  nd : l.Nodup
  le : l.length ≤ n
theorem erase_line {l : List Int} (nd : l.Nodup) (p : Int) : l.eraseIdx (l.idxOf p) = l.filter (· != p) := by
  rw [← List.erase_eq_eraseIdx_of_idxOf (a := p) (l := l) (i := l.idxOf p) rfl]
  exact nd.erase_eq_filter p
theorem line_ok {n : Nat} {re : Bool} {l : List Int} {p : Int} (h : LineOk n l) (hn : 0 < n) : LineOk n (lineStep n re l p) := by
  unfold lineStep
  split
  · rename_i hp
    split
    · have hlt := List.idxOf_lt_length_of_mem hp
      have e := erase_line h.nd p
      refine ⟨?_, ?_⟩
      · rw [e]
        rw [List.nodup_append]
        refine ⟨h.nd.filter _, by simp, fun a ha b hb => ?_⟩
        have hb' : b = p := by simpa using hb
        have ha' : a ≠ p := by
          have := (List.mem_filter.mp ha).2
          simpa using this
        rw [hb']
        exact ha'
      · rw [List.length_append, List.length_eraseIdx_of_lt hlt]
        have := h.le
        simp
        omega
    · exact h
  · rename_i hp
    split
    · rename_i hl
      refine ⟨?_, ?_⟩
      · rw [List.nodup_append]
        refine ⟨h.nd.sublist (List.eraseIdx_sublist _ _), by simp, fun a ha b hb => ?_⟩
        have hb' : b = p := by simpa using hb
        intro z
        rw [z, hb'] at ha
        exact hp ((List.eraseIdx_sublist l 0).subset ha)
      · rw [List.length_append, List.length_eraseIdx_of_lt (by omega)]
        have := h.le
        simp
        omega
    · refine ⟨?_, ?_⟩
      · rw [List.nodup_append]
        refine ⟨h.nd, by simp, fun a ha b hb => ?_⟩
        have hb' : b = p := by simpa using hb
        intro z
        rw [z, hb'] at ha
        exact hp ha
      · rw [List.length_append]
        have := h.le
        simp
        omega
theorem lineAt_ok {n : Nat} {re : Bool} (hn : 0 < n) (row : List Int) : LineOk n (lineAt n re row) := by
  have q : ∀ (row l : List Int), LineOk n l → LineOk n (row.foldl (lineStep n re) l) := by
    intro row
    induction row with
    | nil => exact fun l h => h
    | cons p r ih => exact fun l h => ih _ (line_ok h hn)
  exact q row [] ⟨by simp, by simp⟩
/-- the lacks by a rule: which asks, their places -/
inductive Rl where
  | hand | unseen | first
def Rl.s : Rl → PySem.Str
  | .hand => "hand"
  | .unseen => "unseen"
  | .first => "first"
def lackB (n : Nat) : Rl → List Int → List Bool
  | .hand, row => (tellsL (DS.new n) row).map (·.1)
  | .unseen, row => lineL n true [] row
  | .first, row => lineL n false [] row
def lacksR (n : Nat) (rule : Rl) (row : List Int) : List Nat := placesT 0 (lackB n rule row)
/-- what the law's own going keeps by a rule -/
def keptR (n : Nat) : Rl → List Int → List Int
  | .hand, _ => []
  | .unseen, row => lineAt n true row
  | .first, row => lineAt n false row
def dialR (n : Nat) : Rl → List Int → DS
  | .hand, row => afterL (DS.new n) row
  | _, _ => DS.new n
def lackR (n : Nat) (rule : Rl) (row : List Int) (p : Int) : Bool := match rule with
  | .hand => ((afterL (DS.new n) row).tells p).1
  | _ => !decide (p ∈ keptR n rule row)
theorem lackB_snoc (n : Nat) (rule : Rl) (row : List Int) (p : Int) : lackB n rule (row ++ [p]) = lackB n rule row ++ [lackR n rule row p] := by
  cases rule
  · show (tellsL (DS.new n) (row ++ [p])).map (·.1) = _
    rw [tellsL_snoc, List.map_append]
    rfl
  · exact lineL_snoc n true [] row p
  · exact lineL_snoc n false [] row p
theorem lackB_len (n : Nat) (rule : Rl) (row : List Int) : (lackB n rule row).length = row.length := by
  cases rule
  · show ((tellsL (DS.new n) row).map (·.1)).length = _
    rw [List.length_map, tellsL_len]
  · exact lineL_len _ _ _ _
  · exact lineL_len _ _ _ _
theorem lacksR_le (n : Nat) (rule : Rl) (row : List Int) : (lacksR n rule row).length ≤ row.length := by
  have q := placesT_le 0 (lackB n rule row)
  rw [lackB_len] at q
  exact q
theorem count_set {m : List Bool} {h : Nat} (e : m[h]? = some true) : (m.set h false).count true + 1 = m.count true := by
  induction m generalizing h with
  | nil => simp at e
  | cons a r ih =>
    cases h with
    | zero =>
      have ea : a = true := Option.some.inj e
      subst ea
      simp
    | succ h =>
      have e' : r[h]? = some true := e
      have q := ih e'
      simp only [List.set_cons_succ, List.count_cons]
      omega
theorem count_pos {m : List Bool} {h : Nat} (e : m[h]? = some true) : 0 < m.count true := by
  have := count_set e
  omega
theorem passF_len : ∀ (k : Nat) (m : List Bool) (h : Nat), (passF k m h).1.length = m.length
  | 0, _, _ => rfl
  | k + 1, m, h => by
    unfold passF
    split
    · have q := passF_len k (m.set h false) ((h + 1) % m.length)
      rw [List.length_set] at q
      exact q
    · rfl
theorem passF_lt : ∀ (k : Nat) (m : List Bool) (h : Nat), h < m.length → (passF k m h).2.1 < m.length
  | 0, _, _, l => l
  | k + 1, m, h, l => by
    unfold passF
    split
    · have q := passF_lt k (m.set h false) ((h + 1) % m.length) (by rw [List.length_set]; exact Nat.mod_lt _ (by omega))
      rw [List.length_set] at q
      exact q
    · exact l
/-- the loop's own word: from (m, h), with l passed so far, the end is e -/
structure PassInv (e : List Bool × Nat × List Nat) (m : List Bool) (h : Nat) (l : List Nat) : Prop where
  a : (passF (m.count true) m h).1 = e.1
  b : (passF (m.count true) m h).2.1 = e.2.1
  c : l ++ (passF (m.count true) m h).2.2 = e.2.2
theorem PassInv.start (m : List Bool) (h : Nat) : PassInv (passF (m.count true) m h) m h [] := ⟨rfl, rfl, rfl⟩
theorem passF_step {m : List Bool} {h : Nat} (e : m[h]? = some true) : passF (m.count true) m h =
    ((passF ((m.set h false).count true) (m.set h false) ((h + 1) % m.length)).1, (passF ((m.set h false).count true) (m.set h false) ((h + 1) % m.length)).2.1, h :: (passF ((m.set h false).count true) (m.set h false) ((h + 1) % m.length)).2.2) := by
  rw [← count_set e]
  show (if m[h]? = some true then _ else _) = _
  rw [if_pos e]
theorem passF_stop {m : List Bool} {h k : Nat} (e : m[h]? = some false) : passF k m h = (m, h, []) := by
  cases k with
  | zero => rfl
  | succ k =>
    show (if m[h]? = some true then _ else _) = _
    rw [if_neg (by rw [e]; simp)]
theorem PassInv.go {e : List Bool × Nat × List Nat} {m : List Bool} {h : Nat} {l : List Nat} (I : PassInv e m h l) (t : m[h]? = some true) : PassInv e (m.set h false) ((h + 1) % m.length) (l ++ [h]) := by
  obtain ⟨a, b, c⟩ := I
  rw [passF_step t] at a b c
  refine ⟨a, b, ?_⟩
  rw [← c, List.append_assoc]
  rfl
theorem PassInv.end {e : List Bool × Nat × List Nat} {m : List Bool} {h : Nat} {l : List Nat} (I : PassInv e m h l) (t : m[h]? = some false) : e = (m, h, l) := by
  obtain ⟨a, b, c⟩ := I
  rw [passF_stop t] at a b c
  obtain ⟨x, y, z⟩ := e
  simp only [List.append_nil] at a b c
  rw [a, b, c]
theorem DS.WF.pos {s : DS} {n : Nat} (w : s.WF n) : 0 < n := Nat.lt_of_le_of_lt (Nat.zero_le _) w.n
theorem DS.WF.passlt {s : DS} {n : Nat} (w : s.WF n) : s.pass.2.1 < n := by
  have q := passF_lt (s.marks.count true) s.marks s.hand (by rw [w.m]; exact w.n)
  rw [w.m] at q
  exact q
theorem DS.WF.passm {s : DS} {n : Nat} (w : s.WF n) : s.pass.1.length = n := by
  have q := passF_len (s.marks.count true) s.marks s.hand
  rw [w.m] at q
  exact q
theorem DS.new_wf {n : Nat} (h : 0 < n) : (DS.new n).WF n := ⟨List.length_replicate, List.length_replicate, h⟩
theorem DS.lack_wf {s : DS} {n : Nat} {p : Int} (w : s.WF n) : (s.lack p).WF n := by
  refine ⟨?_, ?_, ?_⟩
  · show (s.held.set _ _).length = n
    rw [List.length_set]; exact w.h
  · show (s.pass.1.set _ _).length = n
    rw [List.length_set]; exact w.passm
  · show (s.pass.2.1 + 1) % s.held.length < n
    rw [w.h]; exact Nat.mod_lt _ w.pos
theorem DS.hit_wf {s : DS} {n : Nat} {p : Int} (w : s.WF n) : (s.hit p).WF n :=
  ⟨w.h, by show (s.marks.set _ _).length = n; rw [List.length_set]; exact w.m, w.n⟩
theorem DS.ask_wf {s : DS} {n : Nat} {p : Int} (w : s.WF n) : (s.ask p).WF n := by
  unfold DS.ask
  split
  · exact hit_wf w
  · exact lack_wf w
theorem afterL_wf {s : DS} {n : Nat} (w : s.WF n) : ∀ row : List Int, (afterL s row).WF n := by
  intro row
  induction row generalizing s with
  | nil => exact w
  | cons p r ih => exact ih (DS.ask_wf w)
/-- the first place of a thing -/
theorem idx_at {α : Type} [BEq α] [LawfulBEq α] {l : List α} {x : α} (h : x ∈ l) : l[l.idxOf x]? = some x := by
  have q := List.idxOf_lt_length_of_mem h
  rw [List.getElem?_eq_getElem q]
  exact congrArg some (List.getElem_idxOf q)
theorem idx_no {α : Type} [BEq α] [LawfulBEq α] : ∀ {l : List α} {x y : α} {m : Nat}, m < l.idxOf x → l[m]? = some y → ¬ y = x
  | [], _, _, _, h, _ => by simp at h
  | a :: r, x, y, m, h, e => by
    intro q
    subst q
    by_cases ha : a = y
    · subst ha
      simp [List.idxOf_cons] at h
    · have hb : (a == y) = false := by simpa using ha
      rw [List.idxOf_cons, hb] at h
      cases m with
      | zero => exact ha (Option.some.inj e)
      | succ m => exact idx_no (l := r) (m := m) (by simpa using h) e rfl
theorem take_snoc {α : Type} {l : List α} {i : Nat} {x : α} (h : l[i]? = some x) : l.take (i + 1) = l.take i ++ [x] := by
  rw [List.take_add_one, h]
  rfl
/-! ### as values -/
open PySem L2
def pgV : Option Int → V
  | none => .non
  | some p => .int p
abbrev HL (l : List (Option Int)) : List V := l.map pgV
abbrev BL (l : List Bool) : List V := l.map V.bl
theorem flat_hl (l : List (Option Int)) : (HL l).all flatV = true := by
  rw [List.all_eq_true]
  intro x hx
  obtain ⟨n, _, rfl⟩ := List.mem_map.mp hx
  cases n <;> rfl
theorem eqV_pg (a : Option Int) (p : Int) : eqV (pgV a) (.int p) = decide (a = some p) := by
  cases a with
  | none => rfl
  | some n =>
    show (n == p) = _
    by_cases h : n = p <;> simp [h]
theorem inV_hl (p : Int) (l : List (Option Int)) : inV (V.int p) (HL l) = decide (some p ∈ l) := by
  induction l with
  | nil => rfl
  | cons a r ih =>
    show (eqV (pgV a) (V.int p) || inV (V.int p) (HL r)) = _
    rw [ih, eqV_pg]
    by_cases h : a = some p
    · simp [h]
    · have h2 : ¬ some p = a := fun z => h z.symm
      simp [h, h2]
theorem hl_set {l : List (Option Int)} {j : Nat} {p : Int} : (HL l).set j (V.int p) = HL (l.set j (some p)) := by
  show (l.map pgV).set j (pgV (some p)) = (l.set j (some p)).map pgV
  rw [List.map_set]
theorem bl_set {l : List Bool} {j : Nat} {b : Bool} : (BL l).set j (V.bl b) = BL (l.set j b) := by
  show (l.map V.bl).set j (V.bl b) = (l.set j b).map V.bl
  rw [List.map_set]
theorem bl_at {l : List Bool} {j : Nat} {b : Bool} (h : l[j]? = some b) : (BL l)[j]? = some (V.bl b) := by
  rw [List.getElem?_map, h]
  rfl
theorem hl_at {l : List (Option Int)} {j : Nat} {b : Option Int} (h : l[j]? = some b) : (HL l)[j]? = some (pgV b) := by
  rw [List.getElem?_map, h]
  rfl
abbrev NL (l : List Nat) : List V := l.map fun n : Nat => V.int (n : Int)
/-- rReps: n times one thing -/
theorem rep_one {x : V} {n : Nat} : (List.replicate n [x]).flatten = List.replicate n x := by
  induction n with
  | zero => rfl
  | succ n ih =>
    rw [List.replicate_succ, List.flatten_cons, ih, List.replicate_succ]
    rfl
theorem hl_new (n : Nat) : HL (DS.new n).held = List.replicate n .non := by
  show (List.replicate n none).map pgV = _
  rw [List.map_replicate]
  rfl
theorem bl_new (n : Nat) : BL (DS.new n).marks = List.replicate n (.bl false) := by
  show (List.replicate n false).map V.bl = _
  rw [List.map_replicate]
end CK

/-! The program's checks. -/
namespace CK
open PySem PySem.Spec PyProof.Rows L2
theorem NL_snoc {ns : List Nat} {n : Nat} : NL ns ++ [V.int (n : Int)] = NL (ns ++ [n]) := by
  show ns.map _ ++ _ = (ns ++ [n]).map _
  rw [List.map_append]
  rfl
theorem NL_il (ns : List Nat) : NL ns = il (ns.map fun n : Nat => (n : Int)) := by
  show ns.map _ = (ns.map _).map V.int
  rw [List.map_map]
  rfl
theorem BoxAt.off {H : Hp} {b l c : Addr} (B : BoxAt H b l) (h : H c = none) : c ∉ [b, l] := by
  obtain ⟨_, _, q1, q2, _⟩ := B.ex
  have z1 := ne_fresh q1 h
  have z2 := ne_fresh q2 h
  simp [Ne.symm z1, Ne.symm z2]
theorem BoxAt.notup {H : Hp} {b l : Addr} (B : BoxAt H b l) : ∀ d ∈ [b, l], ∀ u, H d ≠ some (.tup u) := by
  obtain ⟨_, _, q1, q2, _⟩ := B.ex
  intro d hd u z
  rcases List.mem_cons.mp hd with e | e
  · rw [e, q1] at z; cases z
  · rw [List.mem_singleton.mp e, q2] at z; cases z
def spCheckRooms : Sp := fun vs H Q _ => ∃ n : Int, vs = [.int n] ∧ 1 ≤ n ∧ n ≤ 8 ∧ Q .non H
def spIsPage : Sp := fun vs H Q _ => ∃ p : Int, vs = [.int p] ∧ Q (.bl (decide (0 ≤ p ∧ p < 12))) H
/-- a row as it may be handed in -/
def RowOk (row : List Int) : Prop := row.length ≤ 100 ∧ ∀ p ∈ row, 0 ≤ p ∧ p < 12
def spCheckRow (K : PySem.W.Frag) : Sp := fun vs H Q _ => ∃ (r : Addr) (row : List Int), vs = [.ref r] ∧ SqL K H r (il row) ∧ RowOk row ∧ ∀ H', Same H H' → Q .non H'
def spLaw (K : PySem.W.Frag) : Sp := fun vs H Q _ => ∃ (a : Addr) (ns : List Int), vs = [.ref a] ∧ SqL K H a (il ns) ∧ ns.length ≤ 63 ∧ ∀ H', Q (.bl true) H'
theorem depth_pd (a : List Int) : (pd a).depth = 1 := by
  show PyData.depthAll _ + 1 = 1
  rw [dep_il]
theorem small_ints : ∀ a : List Int, smallAll (a.map PyData.int)
  | [] => trivial
  | _ :: r => ⟨trivial, small_ints r⟩
theorem small_pd {a : List Int} (h : a.length ≤ 1000) : smallD (pd a) := ⟨by rw [List.length_map]; exact h, small_ints a⟩
section
variable {P : Program} {w : World} {K : PySem.W.Frag} {mg : Str → Option Value} {base : Heap}
theorem sc_check_rooms : FnScope ["rooms"] ["rooms"] (defScope (top 8)) := ⟨rfl, rfl, rfl, by decide +kernel, rfl, by decide +kernel, by decide +kernel⟩
theorem ok_check_rooms (T : Prog K mg) : FnOk P w K mg base CX0 1 T.check_rooms.f T.check_rooms.fd ["rooms"] spCheckRooms := by
  refine T.check_rooms.fn.ok sc_check_rooms (fun vs H Q E h => ?len) (fun cdv A outer s H vs Q E hr h => ?body)
  case len =>
    obtain ⟨n, rfl, _⟩ := h
    rfl
  case body =>
    have hu := hu_of hr
    obtain ⟨n, rfl, n1, n8, k⟩ := h
    refine ⟨_, PSs.nox (pss_one (ps_if (pt_not (pt_chain op_le op_le pe_int (pv 0) (pe_glob (v := L2.V.int 8) rfl T.g_MOST_ROOMS ⟨_, rfl⟩)))
        (pss_one ps_never)
        pss_nil)), ?_⟩
    refine ⟨_, rfl, _, _, rfl, rfl, _, rfl, ifT (decide_eq_true n1) ⟨_, _, rfl, rfl, _, rfl, ?_⟩⟩
    exact ifF (by rw [decide_eq_true n8]; rfl) k
theorem sc_is_page : FnScope ["page"] ["page"] (defScope (top 9)) := ⟨rfl, rfl, rfl, by decide +kernel, rfl, by decide +kernel, by decide +kernel⟩
theorem ok_is_page (T : Prog K mg) : FnOk P w K mg base CX0 1 T.is_page.f T.is_page.fd ["page"] spIsPage := by
  refine T.is_page.fn.ok sc_is_page (fun vs H Q E h => ?len) (fun cdv A outer s H vs Q E hr h => ?body)
  case len =>
    obtain ⟨n, rfl, _⟩ := h
    rfl
  case body =>
    have hu := hu_of hr
    obtain ⟨p, rfl, k⟩ := h
    refine ⟨_, PSs.nox (pss_one (ps_ret (pe_chain op_le op_lt pe_int (pv 0) (pe_glob (v := L2.V.int 12) rfl T.g_PAGES ⟨_, rfl⟩)))), ?_⟩
    refine ⟨_, rfl, _, _, rfl, rfl, _, rfl, ?_⟩
    by_cases h0 : 0 ≤ p
    · refine ifT (decide_eq_true h0) ⟨_, _, rfl, rfl, ?_⟩
      have e : decide (p < 12) = decide (0 ≤ p ∧ p < 12) := by simp [h0]
      rw [← e] at k
      exact k
    · refine ifF (decide_eq_false h0) ?_
      have e : false = decide (0 ≤ p ∧ p < 12) := by simp [h0]
      rw [← e] at k
      exact k
theorem sc_check_row : FnScope ["row", "place", "page"] ["row"] (defScope (top 10)) := ⟨rfl, rfl, rfl, by decide +kernel, rfl, by decide +kernel, by decide +kernel⟩
theorem ok_check_row (T : Prog K mg) : FnOk P w K mg base CX0 2 T.check_row.f T.check_row.fd ["row"] (spCheckRow K) := by
  have G_is_page := ok_is_page (P := P) (w := w) (base := base) T
  refine T.check_row.fn.ok sc_check_row (fun vs H Q E h => ?len) (fun cdv A outer s H vs Q E hr h => ?body)
  case len =>
    obtain ⟨r, row, rfl, _⟩ := h
    rfl
  case body =>
    have hr_is_page : Room 1 _ := hr.mono (by decide)
    have hu := hu_of hr
    obtain ⟨r, row, rfl, hS, hR, k⟩ := h
    refine ⟨_, PSs.nox (pss_one (ps_for PassesOwn.never rfl (pi_enum (by rfl) T.enumerate (pa_cons (pv 0) pa_nil)) (pg_tup rfl (pgs_cons (pg_name (i := 1) sc_check_row.nd rfl (Or.inl rfl)) (pgs_cons (pg_name (i := 2) sc_check_row.nd rfl (Or.inl rfl)) pgs_nil)))
        (pss_one (ps_if (PW.pt (pw_or (pt_cmpR op_eq (pv 1) (pe_glob (v := L2.V.int 100) rfl T.g_MOST_ASKS ⟨_, rfl⟩) (nomark _)) (pw_or1 (pt_not (pt_val (pe_call G_is_page hr_is_page (by rfl) T.is_page.g T.is_page.fn.kp T.is_page.bd .nil pass0 (pa_cons (pv 2) pa_nil)))))))
        (pss_one ps_never)
        pss_nil)))), ?_⟩
    refine ⟨_, rfl, r, _, rfl, hS, for_it (walk_enum (K := K) (a := r) (xs := il row)) (fun i σ H' => (∃ v1 v2, σ = [some (.ref r), v1, v2]) ∧ Same H H') ⟨⟨_, _, rfl⟩, Same.refl H⟩ (fun i σ H' _ h => h.2.seq hS) ?_ ?_⟩
    · rintro i x σ H1 H2 hi ⟨⟨v1, v2, rfl⟩, s1⟩ ⟨t, a, b, rfl, ht, rfl, ha, hb⟩
      have ea : V.int (i : Nat) = a := Option.some.inj ha
      subst ea
      obtain ⟨p, hp, rfl⟩ := il_get hb
      have hpg := hR.2 p (List.mem_of_getElem? hp)
      rw [il_len] at hi
      have hlen := hR.1
      refine ⟨t, _, rfl, SqT.of upd_same, rfl, _, _, rfl, _, _, rfl, rfl, ?_⟩
      refine ⟨_, rfl, rfl, _, rfl, ifF (decide_eq_false (by intro z; injection z with z; omega)) ?_⟩
      refine ⟨_, rfl, p, rfl, _, rfl, ifF (by rw [decide_eq_true hpg]; rfl) ?_⟩
      exact ⟨⟨_, _, rfl⟩, s1.trans (Same.new ht)⟩
    · rintro σ H' ⟨⟨v1, v2, rfl⟩, s1⟩
      exact k H' s1
end
end CK

/-! Spells as plain data. -/
namespace CK
open PySem PySem.Spec PyProof.Rows L2
/-- where p was asked for last, ahead of i -/
def lastB (row : List Int) (p : Int) : Nat → Option Nat
  | 0 => none
  | i + 1 => if row[i]? = some p then some i else lastB row p i
theorem lastB_lt {row : List Int} {p : Int} : ∀ {i b : Nat}, lastB row p i = some b → b < i ∧ row[b]? = some p
  | 0, b, h => by cases h
  | i + 1, b, h => by
    unfold lastB at h
    by_cases q : row[i]? = some p
    · rw [if_pos q] at h
      have e := Option.some.inj h
      subst e
      exact ⟨Nat.lt_succ_self _, q⟩
    · rw [if_neg q] at h
      have ⟨z1, z2⟩ := lastB_lt h
      exact ⟨Nat.lt_succ_of_lt z1, z2⟩
def spOf : Option Nat → Nat → List (Nat × Nat)
  | some b, i => [(b, i)]
  | none, _ => []
/-- the spell that ends at i -/
def spellAt (row : List Int) (i : Nat) : List (Nat × Nat) :=
  match row[i]? with
  | some p => spOf (lastB row p i) i
  | none => []
theorem spellAt_eq {row : List Int} {i : Nat} {p : Int} (hp : row[i]? = some p) : spellAt row i = spOf (lastB row p i) i := by
  unfold spellAt
  rw [hp]
def spellsTo (row : List Int) : Nat → List (Nat × Nat)
  | 0 => []
  | i + 1 => spellsTo row i ++ spellAt row i
def spellsL (row : List Int) : List (Nat × Nat) := spellsTo row row.length
theorem spellAt_one (row : List Int) (i : Nat) : (spellAt row i).length ≤ 1 := by
  cases hp : row[i]? with
  | none => unfold spellAt; rw [hp]; exact Nat.zero_le _
  | some p =>
    rw [spellAt_eq hp]
    cases lastB row p i with
    | none => exact Nat.zero_le _
    | some b => exact Nat.le_refl _
theorem spellsTo_le (row : List Int) : ∀ i, (spellsTo row i).length ≤ i
  | 0 => Nat.le_refl _
  | i + 1 => by
    have h1 := spellsTo_le row i
    have h2 := spellAt_one row i
    show (spellsTo row i ++ spellAt row i).length ≤ i + 1
    rw [List.length_append]
    omega
theorem spellsL_le (row : List Int) : (spellsL row).length ≤ row.length := spellsTo_le row _
theorem spellAt_lt {row : List Int} {i : Nat} {x : Nat × Nat} (h : x ∈ spellAt row i) : x.1 < x.2 ∧ x.2 = i := by
  cases hp : row[i]? with
  | none => unfold spellAt at h; rw [hp] at h; simp at h
  | some p =>
    rw [spellAt_eq hp] at h
    cases hb : lastB row p i with
    | none => rw [hb] at h; simp [spOf] at h
    | some b =>
      rw [hb] at h
      have e : x = (b, i) := by simpa [spOf] using h
      rw [e]
      exact ⟨(lastB_lt hb).1, rfl⟩
/-! ### lists of pairs -/
/-- the tuples at as are the pairs xs -/
structure PairsAt (H : Hp) (as : List Addr) (xs : List (Nat × Nat)) : Prop where
  len : as.length = xs.length
  at_ : ∀ (i : Nat) (a : Addr) (x : Nat × Nat), as[i]? = some a → xs[i]? = some x → H a = some (.tup [.int (x.1 : Nat), .int (x.2 : Nat)])
theorem PairsAt.nil {H : Hp} : PairsAt H [] [] := ⟨rfl, fun i a x h => by simp at h⟩
theorem PairsAt.mem {H : Hp} {as : List Addr} {xs : List (Nat × Nat)} (h : PairsAt H as xs) {a : Addr} (ha : a ∈ as) : ∃ u, H a = some (.tup u) := by
  obtain ⟨i, hi, e⟩ := List.mem_iff_getElem.mp ha
  have hx : i < xs.length := by rw [← h.len]; exact hi
  exact ⟨_, h.at_ i a _ (by rw [List.getElem?_eq_getElem hi, e]) (List.getElem?_eq_getElem hx)⟩
theorem PairsAt.same {H H' : Hp} {as : List Addr} {xs : List (Nat × Nat)} (h : PairsAt H as xs) (k : Same H H') : PairsAt H' as xs :=
  ⟨h.len, fun i a x ha hx => k _ _ (h.at_ i a x ha hx)⟩
/-- a list that is written is none of the tuples -/
theorem PairsAt.put {H : Hp} {as : List Addr} {xs : List (Nat × Nat)} (h : PairsAt H as xs) {d : Addr} {o o' : HO} (e : H d = some o) (ne : ∀ u, o ≠ .tup u) : PairsAt (upd H d o') as xs :=
  ⟨h.len, fun i a x ha hx => by
    have q := h.at_ i a x ha hx
    rw [upd_ne (ne_of q e fun z => ne _ z.symm)]
    exact q⟩
theorem PairsAt.but {S : List Addr} {H H' : Hp} {as : List Addr} {xs : List (Nat × Nat)} (h : PairsAt H as xs) (k : But S H H') (n : ∀ d ∈ S, ∀ u, H d ≠ some (.tup u)) : PairsAt H' as xs :=
  ⟨h.len, fun i a x ha hx => by
    have q := h.at_ i a x ha hx
    exact k _ _ q fun z => n _ z _ q⟩
theorem PairsAt.snoc {H : Hp} {as : List Addr} {xs : List (Nat × Nat)} (h : PairsAt H as xs) {t : Addr} {x : Nat × Nat} (e : H t = some (.tup [.int (x.1 : Nat), .int (x.2 : Nat)])) : PairsAt H (as ++ [t]) (xs ++ [x]) := by
  refine ⟨by simp [h.len], fun j c y hc hy => ?_⟩
  by_cases hj : j < as.length
  · rw [List.getElem?_append_left hj] at hc
    rw [List.getElem?_append_left (by rw [← h.len]; exact hj)] at hy
    exact h.at_ j c y hc hy
  · have ej : j = as.length := by
      have := (List.getElem?_eq_some_iff.mp hc).1
      simp at this
      omega
    subst ej
    rw [List.getElem?_append_right (Nat.le_refl _), Nat.sub_self] at hc
    rw [List.getElem?_append_right (by rw [h.len]; exact Nat.le_refl _), h.len, Nat.sub_self] at hy
    have ec : t = c := Option.some.inj hc
    have ex : x = y := Option.some.inj hy
    rw [← ec, ← ex]
    exact e
theorem PairsAt.tail {H : Hp} {a : Addr} {x : Nat × Nat} {as : List Addr} {xs : List (Nat × Nat)} (h : PairsAt H (a :: as) (x :: xs)) : H a = some (.tup [.int (x.1 : Nat), .int (x.2 : Nat)]) ∧ PairsAt H as xs :=
  ⟨h.at_ 0 a x rfl rfl, Nat.succ.inj h.len, fun i c y hc hy => h.at_ (i + 1) c y hc hy⟩
theorem PairsAt.app {H : Hp} : ∀ {as bs : List Addr} {xs ys : List (Nat × Nat)}, PairsAt H as xs → PairsAt H bs ys → PairsAt H (as ++ bs) (xs ++ ys) := by
  intro as bs
  induction bs generalizing as with
  | nil =>
    intro xs ys h1 h2
    cases ys with
    | nil => rw [List.append_nil, List.append_nil]; exact h1
    | cons y ys => exact absurd h2.len (by simp)
  | cons b bs ih =>
    intro xs ys h1 h2
    cases ys with
    | nil => exact absurd h2.len (by simp)
    | cons y ys =>
      have q := ih (h1.snoc h2.tail.1) h2.tail.2
      rw [List.append_assoc, List.append_assoc] at q
      exact q
/-! ### pairs as data -/
def pdp (x : Nat × Nat) : PyData := .tuple [.int (x.1 : Nat), .int (x.2 : Nat)]
def pds (xs : List (Nat × Nat)) : PyData := .list (xs.map pdp)
theorem dp_pairsAll {K : PySem.W.Frag} {H : Hp} : ∀ {as : List Addr} {xs : List (Nat × Nat)}, PairsAt H as xs → DpAll K H (as.map V.ref) (xs.map pdp)
  | [], [], _ => .nil
  | [], _ :: _, h => absurd h.len (by simp)
  | _ :: _, [], h => absurd h.len (by simp)
  | a :: as, x :: xs, h => .cons (.tup (SqT.of h.tail.1) (.cons (.int _) (.cons (.int _) .nil))) (dp_pairsAll h.tail.2)
theorem dp_pairs {K : PySem.W.Frag} {H : Hp} {d : Addr} {as : List Addr} {xs : List (Nat × Nat)} (e : SqL K H d (as.map V.ref)) (h : PairsAt H as xs) : Dp K H (.ref d) (pds xs) := .lst e (dp_pairsAll h)
theorem depAll_pairs : ∀ xs : List (Nat × Nat), PyData.depthAll (xs.map pdp) ≤ 1
  | [] => Nat.zero_le _
  | x :: xs => Nat.max_le.mpr ⟨Nat.le_refl _, depAll_pairs xs⟩
theorem depth_pds (xs : List (Nat × Nat)) : (pds xs).depth ≤ 2 := Nat.succ_le_succ (depAll_pairs xs)
theorem small_pairsAll : ∀ xs : List (Nat × Nat), smallAll (xs.map pdp)
  | [] => trivial
  | _ :: xs => ⟨⟨by show 2 ≤ 1000; decide, trivial, trivial, trivial⟩, small_pairsAll xs⟩
theorem small_pds {xs : List (Nat × Nat)} (h : xs.length ≤ 1000) : smallD (pds xs) := ⟨by rw [List.length_map]; exact h, small_pairsAll xs⟩
end CK

/-! The program's spells. -/
namespace CK
open PySem PySem.Spec PyProof.Rows L2
/-- a new list of the spells of a row -/
def spFind (K : PySem.W.Frag) : Sp := fun vs H Q _ => ∃ (r : Addr) (row : List Int), vs = [.ref r] ∧ SqL K H r (il row) ∧ row.length ≤ 1000 ∧
  ∀ (d : Addr) (as : List Addr) (H' : Hp), H d = none → Same H H' → H' d = some (.lst (as.map V.ref)) → PairsAt H' as (spellsL row) → Q (.ref d) H'
def lastV (row : List Int) (i : Nat) (p : Int) : Option V := (lastB row p i).map fun n => V.int (n : Nat)
section
variable {P : Program} {w : World} {K : PySem.W.Frag} {mg : Str → Option Value} {base : Heap}
theorem sc_find_spells : FnScope ["row", "latest", "found", "place", "page"] ["row"] (defScope (top 14)) := ⟨rfl, rfl, rfl, by decide +kernel, rfl, by decide +kernel, by decide +kernel⟩
theorem ok_find_spells (T : Prog K mg) : FnOk P w K mg base CX0 1 T.find_spells.f T.find_spells.fd ["row"] (spFind K) := by
  refine T.find_spells.fn.ok sc_find_spells (fun vs H Q E h => ?len) (fun cdv A outer s H vs Q E hr h => ?body)
  case len =>
    obtain ⟨r, row, rfl, _⟩ := h
    rfl
  case body =>
    have hu := hu_of hr
    obtain ⟨r, row, rfl, hS, hlen, k⟩ := h
    refine ⟨_, PSs.nox (pss_cons (ps_set (i := 1) sc_find_spells.nd rfl (Or.inl rfl) pe_dnewK)
        (pss_cons (ps_set (i := 2) sc_find_spells.nd rfl (Or.inl rfl) (pe_lst pa_nil))
        (pss_cons (ps_for PassesOwn.never rfl (pi_enum (by rfl) T.enumerate (pa_cons (pv 0) pa_nil)) (pg_tup rfl (pgs_cons (pg_name (i := 3) sc_find_spells.nd rfl (Or.inl rfl)) (pgs_cons (pg_name (i := 4) sc_find_spells.nd rfl (Or.inl rfl)) pgs_nil)))
        (C8.pss_cut (ps_if (pt_cmp (pc_din hu (pv 4) (pv 1)))
        (pss_one (ps_expr (pe_bm PySem.F.plainAttrs_list PySem.F.slot_list_append PySem.F.type_list_append mt_append (pv 2) (pa_cons (pe_tup (pa_cons (pe_dget hu (pv 1) (pv 4) (fun _ _ => rfl)) (pa_cons (pv 3) pa_nil))) pa_nil))))
        pss_nil)
        (pss_one (ps_dput hu (pv 1) (pv 4) (pv 3) rfl))))
        (pss_one (ps_ret (pv 2)))))), ?_⟩
    refine fun l hl => ⟨szd rfl, fun c hc => ?_⟩
    have s1 : Same H (upd (upd H l (.dK [])) c (.lst [])) := (Same.new hl).trans (Same.new hc)
    have lc : l ≠ c := ne_fresh (H := upd H l (.dK [])) upd_same hc
    have cH : H c = none := Same.back (Same.new hl) hc
    refine ⟨_, rfl, r, _, rfl, s1.seq hS, for_it (walk_enum (K := K) (a := r) (xs := il row)) (fun i σ H' => (∃ v3 v4, σ = [some (.ref r), some (.ref l), some (.ref c), v3, v4]) ∧ Same H H' ∧ (∃ kvs : List (Key × V), H' l = some (.dK kvs) ∧ kvs.length ≤ i ∧ ∀ p, valV kvs (Sum.inl p) = lastV row i p) ∧
      ∃ as : List Addr, H' c = some (.lst (as.map V.ref)) ∧ PairsAt H' as (spellsTo row i))
      ⟨⟨_, _, rfl⟩, s1, ⟨[], by rw [upd_ne lc]; exact upd_same, Nat.le_refl _, fun p => rfl⟩, [], upd_same, PairsAt.nil⟩ (fun i σ H' _ h => h.2.1.seq hS) ?_ ?_⟩
    · rintro i x σ H1 H2 hi ⟨⟨v3, v4, rfl⟩, s2, ⟨kvs, hl1, hkl, hkv⟩, as, hc1, hp1⟩ ⟨t, x1, x2, rfl, ht, rfl, ha, hb⟩
      have ea : V.int (i : Nat) = x1 := Option.some.inj ha
      subst ea
      obtain ⟨p, hp, rfl⟩ := il_get hb
      rw [il_len] at hi
      have sT := Same.new (o := .tup [V.int (i : Nat), V.int p]) ht
      have hl2 := sT _ _ hl1
      have hc2 := sT _ _ hc1
      have hp2 := hp1.same sT
      have hal : as.length ≤ i := by rw [hp1.len]; exact spellsTo_le row i
      refine ⟨t, _, rfl, SqT.of upd_same, rfl, _, _, rfl, _, _, rfl, rfl, ?_⟩
      refine ⟨fun σ' H' => σ' = [some (.ref r), some (.ref l), some (.ref c), some (.int (i : Nat)), some (.int p)] ∧ Same H H' ∧ H' l = some (.dK kvs) ∧ ∃ as : List Addr, H' c = some (.lst (as.map V.ref)) ∧ PairsAt H' as (spellsTo row (i + 1)), ?_, ?_⟩
      · refine ⟨_, rfl, _, rfl, l, _, rfl, DGet.k (k := Sum.inl p) hl2, _, rfl, ?_⟩
        have e0 : spellsTo row (i + 1) = spellsTo row i ++ spellAt row i := rfl
        have e1 := spellAt_eq hp
        rw [e0, e1]
        have ev := hkv p
        unfold lastV at ev
        cases eb : lastB row p i with
        | none =>
          rw [eb] at ev
          refine ifF (by rw [ev]; rfl) ?_
          refine ⟨rfl, s2.trans sT, hl2, as, hc2, ?_⟩
          show PairsAt _ as (spellsTo row i ++ [])
          rw [List.append_nil]
          exact hp2
        | some b =>
          rw [eb] at ev
          refine ifT (by rw [ev]; rfl) ?_
          refine ⟨_, rfl, .inl ⟨rfl, _, SqL.of hc2⟩, _, rfl, _, rfl, l, V.int (b : Nat), rfl, (by have q := DGet.k (k := Sum.inl p) hl2; rw [ev] at q; exact q), _, rfl, szd rfl, fun q hq => ?_⟩
          have sQ := Same.new (o := .tup [V.int (b : Nat), V.int (i : Nat)]) hq
          have hc3 := sQ _ _ hc2
          refine ⟨c, _, _, rfl, rfl, hc3, szl (by rw [List.length_map]; omega), ?_⟩
          refine ⟨rfl, Same.put ((s2.trans sT).trans sQ) cH, ?_, as ++ [q], ?_, ?_⟩
          · rw [upd_ne lc]; exact sQ _ _ hl2
          · rw [upd_same, List.map_append]; rfl
          · exact ((hp2.same sQ).snoc (x := (b, i)) upd_same).put hc3 (by intro u z; cases z)
      · rintro σ' H' ⟨rfl, s3, hl3, as', hc3, hp3⟩
        refine ⟨_, rfl, _, rfl, _, rfl, l, _, rfl, DPut.k (k := Sum.inl p) hl3 (szl (by omega)), ?_⟩
        refine ⟨⟨_, _, rfl⟩, Same.put s3 hl, ⟨_, upd_same, ?_, fun q => ?_⟩, as', ?_, hp3.put hl3 (by intro u z; cases z)⟩
        · have := length_putK kvs (Sum.inl p) (V.int (i : Nat))
          omega
        · rw [valV_put]
          unfold lastV lastB
          by_cases e : p = q
          · subst e
            rw [if_pos rfl, if_pos hp]
            rfl
          · rw [if_neg (by intro z; injection z with z; exact e z.symm), if_neg (by intro z; rw [hp] at z; exact e (Option.some.inj z))]
            exact hkv q
        · rw [upd_ne (Ne.symm lc)]; exact hc3
    · rintro σ H' ⟨⟨v3, v4, rfl⟩, s2, _, as, hc1, hp1⟩
      rw [il_len] at hp1
      exact ⟨_, rfl, k c as H' cH s2 hc1 hp1⟩
end
end CK

/-! What the program says of papers. -/
namespace CK
open PySem PySem.Spec PyProof.Rows L2
/-- a paper: a rising list of places, all below n -/
def PaperOk (n : Nat) (ps : List Nat) : Prop := ps.Pairwise (· < ·) ∧ ∀ p ∈ ps, p < n
theorem PaperOk.le {n : Nat} : ∀ {ps : List Nat}, PaperOk n ps → ps.length ≤ n := by
  have q : ∀ (ps : List Nat) (m : Nat), ps.Pairwise (· < ·) → (∀ p ∈ ps, m ≤ p ∧ p < n) → m ≤ n → ps.length ≤ n - m := by
    intro ps
    induction ps with
    | nil => intro m _ _ _; exact Nat.zero_le _
    | cons a r ih =>
      intro m h1 h2 h3
      have ha := h2 a (by simp)
      have hr := List.pairwise_cons.mp h1
      have q := ih (a + 1) hr.2 (fun p hp => ⟨hr.1 p hp, (h2 p (by simp [hp])).2⟩) (by omega)
      show r.length + 1 ≤ n - m
      omega
  intro ps h
  have := q ps 0 h.1 (fun p hp => ⟨Nat.zero_le _, h.2 p hp⟩) (Nat.zero_le _)
  omega
/-- whether a place lies within a spell -/
def within (x : Nat × Nat) (ps : List Nat) : Bool := ps.any fun q => decide (x.1 < q) && decide (q < x.2)
/-- how many lacks a paper shows -/
def shownN (n : Int) (row : List Int) (ps : List Nat) : Int :=
  (row.length : Int) - (((spellsL row).filter fun x => !within x ps).length : Int) - (n - 1) * (ps.length : Int)
def spSpells (K : PySem.W.Frag) : Sp := fun vs H Q _ => ∃ (r : Addr) (row : List Int), vs = [.ref r] ∧ SqL K H r (il row) ∧ RowOk row ∧
  ∀ (d : Addr) (as : List Addr) (H' : Hp), H d = none → Same H H' → H' d = some (.lst (as.map V.ref)) → PairsAt H' as (spellsL row) → Q (.ref d) H'
def spCheckPaper (K : PySem.W.Frag) : Sp := fun vs H Q _ => ∃ (r q : Addr) (row : List Int) (ps : List Nat), vs = [.ref r, .ref q] ∧ SqL K H r (il row) ∧ SqL K H q (NL ps) ∧ PaperOk row.length ps ∧ Q .non H
def spHasWithin (K : PySem.W.Frag) : Sp := fun vs H Q _ => ∃ (t q : Addr) (x : Nat × Nat) (ps : List Nat), vs = [.ref t, .ref q] ∧ H t = some (.tup [.int (x.1 : Nat), .int (x.2 : Nat)]) ∧ SqL K H q (NL ps) ∧ ps.length ≤ 1000 ∧
  ∀ H' : Hp, Same H H' → Q (.bl (within x ps)) H'
def spShown (K : PySem.W.Frag) : Sp := fun vs H Q _ => ∃ (n : Int) (r q : Addr) (row : List Int) (ps : List Nat), vs = [.int n, .ref r, .ref q] ∧ 1 ≤ n ∧ n ≤ 8 ∧ SqL K H r (il row) ∧ RowOk row ∧ SqL K H q (NL ps) ∧ PaperOk row.length ps ∧
  ∀ H' : Hp, Same H H' → Q (.int (shownN n row ps)) H'
theorem NL_at {ns : List Nat} {j : Nat} {y : V} (h : (NL ns)[j]? = some y) : ∃ n, ns[j]? = some n ∧ y = V.int (n : Int) := by
  rw [List.getElem?_map] at h
  cases e : ns[j]? with
  | none => rw [e] at h; cases h
  | some n => rw [e] at h; exact ⟨n, rfl, (Option.some.inj h).symm⟩
section
variable {P : Program} {w : World} {K : PySem.W.Frag} {mg : Str → Option Value} {base : Heap}
theorem sc_spells : FnScope ["row"] ["row"] (defScope (top 12)) := ⟨rfl, rfl, rfl, by decide +kernel, rfl, by decide +kernel, by decide +kernel⟩
theorem ok_spells (T : Prog K mg) : FnOk P w K mg base CX0 3 T.spells.f T.spells.fd ["row"] (spSpells K) := by
  have G_check_row := ok_check_row (P := P) (w := w) (base := base) T
  have G_find_spells := ok_find_spells (P := P) (w := w) (base := base) T
  refine T.spells.fn.ok sc_spells (fun vs H Q E h => ?len) (fun cdv A outer s H vs Q E hr h => ?body)
  case len =>
    obtain ⟨r, row, rfl, _⟩ := h
    rfl
  case body =>
    have hr_check_row : Room 2 _ := hr.mono (by decide)
    have hr_find_spells : Room 1 _ := hr.mono (by decide)
    have hu := hu_of hr
    obtain ⟨r, row, rfl, hS, hR, k⟩ := h
    refine ⟨_, PSs.nox (pss_cons (ps_expr (pe_call G_check_row hr_check_row (by rfl) T.check_row.g T.check_row.fn.kp T.check_row.bd .nil pass0 (pa_cons (pv 0) pa_nil)))
        (pss_one (ps_ret (pe_call G_find_spells hr_find_spells (by rfl) T.find_spells.g T.find_spells.fn.kp T.find_spells.bd .nil pass0 (pa_cons (pv 0) pa_nil))))), ?_⟩
    refine ⟨_, rfl, r, row, rfl, hS, hR, fun H1 s1 => ?_⟩
    have hR1 := hR.1
    exact ⟨_, rfl, r, row, rfl, s1.seq hS, by omega, fun d as H2 hd s2 h1 h2 => k d as H2 (Same.back s1 hd) (s1.trans s2) h1 h2⟩
theorem sc_check_paper : FnScope ["row", "places", "before", "place"] ["row", "places"] (defScope (top 15)) := ⟨rfl, rfl, rfl, by decide +kernel, rfl, by decide +kernel, by decide +kernel⟩
theorem ok_check_paper (T : Prog K mg) : FnOk P w K mg base CX0 1 T.check_paper.f T.check_paper.fd ["row", "places"] (spCheckPaper K) := by
  refine T.check_paper.fn.ok sc_check_paper (fun vs H Q E h => ?len) (fun cdv A outer s H vs Q E hr h => ?body)
  case len =>
    obtain ⟨r, q, row, ps, rfl, _⟩ := h
    rfl
  case body =>
    have hu := hu_of hr
    obtain ⟨r, q, row, ps, rfl, hS, hq, hP, k⟩ := h
    refine ⟨_, PSs.nox (pss_cons (ps_set (i := 2) sc_check_paper.nd rfl (Or.inl rfl) (pe_un un_neg pe_int))
        (pss_one (ps_for PassesOwn.never rfl (pi_list (pv 1)) (pg_name (i := 3) sc_check_paper.nd rfl (Or.inl rfl))
        (pss_cons (ps_if (pt_not (pt_chain op_lt op_lt (pv 2) (pv 3) (pe_callB call_len_seq (by rfl) T.len PySem.boot_len (pa_cons (pv 0) pa_nil))))
        (pss_one ps_never)
        pss_nil)
        (pss_one (ps_set (i := 2) sc_check_paper.nd rfl (Or.inl rfl) (pv 3))))))), ?_⟩
    refine ⟨_, rfl, _, rfl, q, rfl, ⟨_, hq⟩, for_list (K := K) (a := q) (xs := NL ps) (fun i σ H' => H' = H ∧ ∃ (b : Int) (v : Option V), σ = [some (.ref r), some (.ref q), some (.int b), v] ∧ ∀ p, ps[i]? = some p → b < (p : Int))
      ⟨rfl, -1, none, rfl, fun p _ => by omega⟩ (fun i σ H' _ h => by rw [h.1]; exact hq) ?_ ?_⟩
    · rintro i x σ H' hx ⟨rfl, b, v, rfl, hb⟩
      obtain ⟨p, hp, rfl⟩ := NL_at hx
      have hlt := hP.2 p (List.mem_of_getElem? hp)
      refine ⟨_, rfl, _, rfl, _, _, rfl, rfl, _, rfl, ifT (decide_eq_true (hb p hp)) ⟨_, rfl, r, _, rfl, .inl hS, _, _, rfl, rfl, _, rfl, ?_⟩⟩
      refine ifF (by rw [il_len, decide_eq_true (by omega)]; rfl) ?_
      refine ⟨_, rfl, rfl, _, _, rfl, fun p' hp' => ?_⟩
      have q1 : i < ps.length := (List.getElem?_eq_some_iff.mp hp).1
      have q2 : i + 1 < ps.length := (List.getElem?_eq_some_iff.mp hp').1
      have q3 := (List.pairwise_iff_getElem.mp hP.1) i (i + 1) q1 q2 (Nat.lt_succ_self _)
      have e1 := (List.getElem?_eq_some_iff.mp hp).2
      have e2 := (List.getElem?_eq_some_iff.mp hp').2
      rw [e1, e2] at q3
      omega
    · rintro σ H' ⟨rfl, b, v, rfl, _⟩
      exact k
theorem sc_has_within : FnScope ["spell", "places", "begin", "end", "place"] ["spell", "places"] (defScope (top 16)) := ⟨rfl, rfl, rfl, by decide +kernel, rfl, by decide +kernel, by decide +kernel⟩
theorem ok_has_within (T : Prog K mg) : FnOk P w K mg base CX0 1 T.has_within.f T.has_within.fd ["spell", "places"] (spHasWithin K) := by
  refine T.has_within.fn.ok sc_has_within (fun vs H Q E h => ?len) (fun cdv A outer s H vs Q E hr h => ?body)
  case len =>
    obtain ⟨t, q, x, ps, rfl, _⟩ := h
    rfl
  case body =>
    have hu := hu_of hr
    obtain ⟨t, q, x, ps, rfl, ht, hq, hl, k⟩ := h
    refine ⟨_, PSs.nox (pss_cons (ps_asg (pv 0) (pg_tup rfl (pgs_cons (pg_name (i := 2) sc_has_within.nd rfl (Or.inr rfl)) (pgs_cons (pg_name (i := 3) sc_has_within.nd rfl (Or.inr rfl)) pgs_nil))))
        (pss_one (ps_ret (pe_callB (cr_any rfl) (by rfl) T.any (by decide +kernel) (pa_cons (pe_lc (own := [("place", 4)]) (g := gName 4) rfl sc_has_within.nd ((pi_list (pv 1))) (blkOk_by (own := [("place", 4)]) (N := ["spell", "places", "begin", "end", "place"]) (sc := defScope (top 16)) (by decide +kernel)) (fun _ _ _ _ _ => (by exact (pg_name (i := 4) sc_has_within.nd rfl (Or.inl rfl)))) (fun _ _ _ _ _ => (by exact pts_nil)) (fun _ _ _ _ _ => (by exact (pe_chain op_lt op_lt (pv 2) (pv 4) (pv 3))))) pa_nil))))), ?_⟩
    refine ⟨_, rfl, t, _, rfl, SqT.of ht, rfl, _, _, rfl, _, _, rfl, rfl, ?_⟩
    refine ⟨_, rfl, q, rfl, ⟨_, hq⟩, fun d hd => ?_⟩
    refine lc_list (K := K) (a := q) (xs := NL ps) (fun i H' => H' d = some (.lst (((ps.take i).map fun z => decide (x.1 < z) && decide (z < x.2)).map V.bl)) ∧ Same H H') ⟨upd_same, Same.new hd⟩ (fun i H' _ h => h.2.seq hq) ?_ ?_
    · rintro i y H' hy ⟨h1, s1⟩
      obtain ⟨p, hp, rfl⟩ := NL_at hy
      have hi : i < ps.length := (List.getElem?_eq_some_iff.mp hp).1
      have e0 : (((ps.take (i + 1)).map fun z => decide (x.1 < z) && decide (z < x.2)).map V.bl) = (((ps.take i).map fun z => decide (x.1 < z) && decide (z < x.2)).map V.bl) ++ [V.bl (decide (x.1 < p) && decide (p < x.2))] := by
        rw [take_snoc hp, List.map_append, List.map_append]
        rfl
      rw [e0]
      have fin : ∀ c : Bool, c = (decide (x.1 < p) && decide (p < x.2)) → ∃ acc, H' d = some (.lst acc) ∧ acc.length < sizeLine ∧ upd H' d (.lst (acc ++ [V.bl c])) d = some (.lst ((((ps.take i).map fun z => decide (x.1 < z) && decide (z < x.2)).map V.bl) ++ [V.bl (decide (x.1 < p) && decide (p < x.2))])) ∧ Same H (upd H' d (.lst (acc ++ [V.bl c]))) := by
        rintro c rfl
        exact ⟨_, h1, szl (by rw [List.length_map, List.length_map, List.length_take]; omega), upd_same, Same.put s1 hd⟩
      refine ⟨rfl, _, rfl, _, rfl, _, _, rfl, rfl, _, rfl, ?_⟩
      by_cases h2 : x.1 < p
      · refine ifT (decide_eq_true (by omega)) ⟨_, rfl, _, _, rfl, rfl, ?_⟩
        refine fin _ ?_
        by_cases h3 : p < x.2
        · rw [decide_eq_true (show (p : Int) < (x.2 : Int) by omega), decide_eq_true h2, decide_eq_true h3]; rfl
        · rw [decide_eq_false (show ¬ (p : Int) < (x.2 : Int) by omega), decide_eq_false h3, decide_eq_true h2]; rfl
      · exact ifF (decide_eq_false (by omega)) (fin false (by rw [decide_eq_false h2]; rfl))
    · rintro H' ⟨h1, s1⟩
      rw [List.take_of_length_le (by simp)] at h1
      refine ⟨d, _, rfl, SqL.of h1, ?_⟩
      have e : within x ps = List.any ((ps.map fun z => decide (x.1 < z) && decide (z < x.2))) id := by
        unfold within
        rw [List.any_map]
        rfl
      rw [← e]
      exact k H' s1
theorem sc_shown : FnScope ["rooms", "row", "places", "free", "spell"] ["rooms", "row", "places"] (defScope (top 13)) := ⟨rfl, rfl, rfl, by decide +kernel, rfl, by decide +kernel, by decide +kernel⟩
theorem ok_shown (T : Prog K mg) : FnOk P w K mg base CX0 3 T.shown.f T.shown.fd ["rooms", "row", "places"] (spShown K) := by
  have G_check_rooms := ok_check_rooms (P := P) (w := w) (base := base) T
  have G_check_row := ok_check_row (P := P) (w := w) (base := base) T
  have G_check_paper := ok_check_paper (P := P) (w := w) (base := base) T
  have G_find_spells := ok_find_spells (P := P) (w := w) (base := base) T
  have G_has_within := ok_has_within (P := P) (w := w) (base := base) T
  refine T.shown.fn.ok sc_shown (fun vs H Q E h => ?len) (fun cdv A outer s H vs Q E hr h => ?body)
  case len =>
    obtain ⟨n, r, q, row, ps, rfl, _⟩ := h
    rfl
  case body =>
    have hr_check_rooms : Room 1 _ := hr.mono (by decide)
    have hr_check_row : Room 2 _ := hr.mono (by decide)
    have hr_check_paper : Room 1 _ := hr.mono (by decide)
    have hr_find_spells : Room 1 _ := hr.mono (by decide)
    have hr_has_within : Room 1 _ := hr.mono (by decide)
    have hu := hu_of hr
    obtain ⟨n, r, q, row, ps, rfl, n1, n8, hS, hR, hq, hP, k⟩ := h
    refine ⟨_, PSs.nox (pss_cons (ps_expr (pe_call G_check_rooms hr_check_rooms (by rfl) T.check_rooms.g T.check_rooms.fn.kp T.check_rooms.bd .nil pass0 (pa_cons (pv 0) pa_nil)))
        (pss_cons (ps_expr (pe_call G_check_row hr_check_row (by rfl) T.check_row.g T.check_row.fn.kp T.check_row.bd .nil pass0 (pa_cons (pv 1) pa_nil)))
        (pss_cons (ps_expr (pe_call G_check_paper hr_check_paper (by rfl) T.check_paper.g T.check_paper.fn.kp T.check_paper.bd .nil pass0 (pa_cons (pv 1) (pa_cons (pv 2) pa_nil))))
        (pss_cons (ps_setLc (i := 3) (own := [("spell", 4)]) (g := gName 4) rfl sc_shown.nd rfl rfl (sw_true rfl rfl rfl (by decide +kernel)) ((pi_list (pe_call G_find_spells hr_find_spells (by rfl) T.find_spells.g T.find_spells.fn.kp T.find_spells.bd .nil pass0 (pa_cons (pv 1) pa_nil)))) (blkOk_by (own := [("spell", 4)]) (N := ["rooms", "row", "places", "free", "spell"]) (sc := defScope (top 13)) (by decide +kernel)) (fun _ _ _ _ _ => (by exact (pg_name (i := 4) sc_shown.nd rfl (Or.inl rfl)))) (fun _ _ _ _ _ => (by exact (pts_one (pt_not (pt_val (pe_call G_has_within hr_has_within (by rfl) T.has_within.g T.has_within.fn.kp T.has_within.bd .nil pass0 (pa_cons (pv 4) (pa_cons (pv 2) pa_nil)))))))) (fun _ _ _ _ _ => (by exact (pv 4))))
        (pss_one (ps_ret (pe_op op_sub (pe_op op_sub (pe_callB call_len_seq (by rfl) T.len PySem.boot_len (pa_cons (pv 1) pa_nil)) (pe_callB call_len_seq (by rfl) T.len PySem.boot_len (pa_cons (pv 3) pa_nil))) (pe_op op_mul (pe_op op_sub (pv 0) pe_int) (pe_callB call_len_seq (by rfl) T.len PySem.boot_len (pa_cons (pv 2) pa_nil)))))))))), ?_⟩
    have hR1 := hR.1
    have hpl := hP.le
    refine ⟨_, rfl, n, rfl, n1, n8, ?_⟩
    refine ⟨_, rfl, r, row, rfl, hS, hR, fun H1 s1 => ?_⟩
    refine ⟨_, rfl, _, rfl, r, q, row, ps, rfl, s1.seq hS, s1.seq hq, hP, ?_⟩
    -- free = [..]
    refine ⟨_, rfl, r, row, rfl, s1.seq hS, by omega, fun l as H2 hl s2 hl2 hp2 => ?_⟩
    have s02 := s1.trans s2
    refine ⟨l, rfl, ⟨_, SqL.of hl2⟩, fun d hd => ?_⟩
    have hsl := spellsL_le row
    refine lc_list (K := K) (a := l) (xs := as.map V.ref) (fun i H' => (∃ fs : List V, H' d = some (.lst fs) ∧ fs.length = (((spellsL row).take i).filter fun x => !within x ps).length) ∧ Same H2 H') ⟨⟨[], upd_same, rfl⟩, Same.new hd⟩ (fun i H' _ h => SqL.of (h.2 _ _ hl2)) ?_ ?_
    · rintro i y H' hy ⟨⟨fs, h1, h3⟩, s3⟩
      rw [List.getElem?_map] at hy
      cases ea : as[i]? with
      | none => rw [ea] at hy; cases hy
      | some a =>
        rw [ea] at hy
        have ey := Option.some.inj hy
        subst ey
        have hi : i < (spellsL row).length := by rw [← hp2.len]; exact (List.getElem?_eq_some_iff.mp ea).1
        have ex : (spellsL row)[i]? = some ((spellsL row)[i]'hi) := List.getElem?_eq_getElem hi
        have ha := hp2.at_ i a _ ea ex
        rw [take_snoc ex, List.filter_append]
        generalize (spellsL row)[i]'hi = x at *
        have hfl := List.length_filter_le (fun x => !within x ps) ((spellsL row).take i)
        rw [List.length_take] at hfl
        refine ⟨rfl, _, rfl, _, rfl, a, q, x, ps, rfl, s3 _ _ ha, (s02.trans s3).seq hq, by omega, fun H3 s4 => ?_⟩
        have h4 : H3 d = some (.lst fs) := s4 _ _ h1
        have s34 := s3.trans s4
        by_cases hw : within x ps = true
        · refine ⟨_, rfl, ?_⟩
          rw [hw]
          refine iteF ⟨⟨fs, h4, ?_⟩, s34⟩
          rw [List.length_append, h3]
          simp [hw]
        · have hw' : within x ps = false := by simpa using hw
          refine ⟨_, rfl, ?_⟩
          rw [hw']
          refine iteT ⟨_, rfl, fs, h4, szl (by omega), ⟨_, upd_same, ?_⟩, Same.put s34 hd⟩
          rw [List.length_append, List.length_append, h3]
          simp [hw']
    · rintro H' ⟨⟨fs, h1, h3⟩, s3⟩
      rw [List.take_of_length_le (by rw [List.length_map, hp2.len]; exact Nat.le_refl _)] at h3
      have s4 := s02.trans s3
      refine ⟨_, rfl, r, _, rfl, .inl (s4.seq hS), _, rfl, d, _, rfl, .inl (SqL.of h1), _, _, rfl, rfl, _, rfl, _, _, rfl, rfl, _, rfl, q, _, rfl, .inl (s4.seq hq), _, _, rfl, rfl, .inl ⟨by omega, by omega⟩, _, _, rfl, rfl, ?_⟩
      have e := k H' s4
      unfold shownN at e
      rw [← h3] at e
      rw [il_len, List.length_map]
      exact e
end
end CK

/-! Begins of spells, as the laws look for them. -/
namespace CK
open PySem PySem.Spec PyProof.Rows L2
/-- the earlier asks for the page that is asked for at e, the first i looked at -/
def begsTo (row : List Int) (e : Nat) (i : Nat) : List Nat := (List.range i).filter fun b => decide (row[b]? = row[e]?)
theorem begsTo_succ (row : List Int) (e i : Nat) : begsTo row e (i + 1) = begsTo row e i ++ (if row[i]? = row[e]? then [i] else []) := by
  unfold begsTo
  rw [List.range_succ, List.filter_append]
  by_cases h : row[i]? = row[e]?
  · rw [if_pos h]; simp [h]
  · rw [if_neg h]; simp [h]
theorem begsTo_le (row : List Int) (e i : Nat) : (begsTo row e i).length ≤ i := by
  have h := List.length_filter_le (fun b => decide (row[b]? = row[e]?)) (List.range i)
  rw [List.length_range] at h
  exact h
theorem begs_last {row : List Int} {e : Nat} {p : Int} (hp : row[e]? = some p) : ∀ i, (begsTo row e i).getLast? = lastB row p i
  | 0 => rfl
  | i + 1 => by
    rw [begsTo_succ, hp]
    unfold lastB
    by_cases h : row[i]? = some p
    · rw [if_pos h, if_pos h, List.getLast?_append]
      rfl
    · rw [if_neg h, if_neg h, List.append_nil]
      exact begs_last hp i
theorem cut_last (ns : List Nat) : cutV (NL ns) (some (-1)) none = NL ns.getLast?.toList := by
  unfold cutV
  rw [HT.sIx_none]
  by_cases h : ns = []
  · rw [h]; rfl
  · obtain ⟨r, a, rfl⟩ : ∃ r a, ns = r ++ [a] := ⟨ns.dropLast, ns.getLast h, (List.dropLast_concat_getLast h).symm⟩
    have e : HT.sIx (NL (r ++ [a])).length 0 (some (-1)) = r.length := by
      show (if (-1 : Int) < 0 then ((-1 : Int) + ((NL (r ++ [a])).length : Int)).toNat else min (-1 : Int).toNat (NL (r ++ [a])).length) = r.length
      rw [if_pos (by decide)]
      simp
      omega
    rw [e]
    have e2 : (NL (r ++ [a])).drop r.length = NL [a] := by
      show ((r ++ [a]).map _).drop r.length = _
      rw [← List.map_drop, List.drop_left]
    rw [e2, List.getLast?_append]
    show (NL [a]).take _ = NL [a]
    exact List.take_of_length_le (by simp)
theorem begs_cut {row : List Int} {e : Nat} (he : e < row.length) : cutV (NL (begsTo row e e)) (some (-1)) none = NL ((spellAt row e).map (·.1)) ∧ spellAt row e = ((spellAt row e).map (·.1)).map fun b => (b, e) := by
  have hp : row[e]? = some (row[e]'he) := List.getElem?_eq_getElem he
  have q := begs_last hp e
  rw [cut_last, q]
  rw [spellAt_eq hp]
  cases lastB row (row[e]'he) e with
  | none => exact ⟨rfl, rfl⟩
  | some b => exact ⟨rfl, rfl⟩
end CK

/-! What a paper shows, as the laws count. -/
namespace CK
open PySem PySem.Spec PyProof.Rows L2
section
variable {P : Program} {w : World} {K : PySem.W.Frag} {mg : Str → Option Value} {base : Heap}
def spLShown (K : PySem.W.Frag) : Sp := fun vs H Q _ => ∃ (n : Int) (r q : Addr) (row : List Int) (ps : List Nat), vs = [.int n, .ref r, .ref q] ∧ 1 ≤ n ∧ n ≤ 8 ∧ SqL K H r (il row) ∧ row.length ≤ 100 ∧ SqL K H q (NL ps) ∧ ps.length ≤ 1000 ∧
  ∀ H' : Hp, Same H H' → Q (.int (shownN n row ps)) H'
theorem within_nil {x : Nat × Nat} {ps : List Nat} : within x ps = !decide (ps.filter (fun z => decide (x.1 < z) && decide (z < x.2)) = []) := by
  unfold within
  cases h : ps.any fun q => decide (x.1 < q) && decide (q < x.2) with
  | true =>
    obtain ⟨q, h1, h2⟩ := List.any_eq_true.mp h
    have : q ∈ ps.filter (fun z => decide (x.1 < z) && decide (z < x.2)) := List.mem_filter.mpr ⟨h1, h2⟩
    rw [decide_eq_false (by intro z; rw [z] at this; simp at this)]
    rfl
  | false =>
    have : ps.filter (fun z => decide (x.1 < z) && decide (z < x.2)) = [] := by
      rw [List.filter_eq_nil_iff]
      intro q hq
      have := List.any_eq_false.mp h q hq
      exact this
    rw [decide_eq_true this]
    rfl
theorem eqv_nl (a b : List Nat) : PyData.eqv (pd (a.map fun n : Nat => (n : Int))) (pd (b.map fun n : Nat => (n : Int))) = decide (a = b) := by
  rw [eqv_il]
  by_cases h : a = b
  · simp [h]
  · rw [decide_eq_false h, decide_eq_false]
    intro z
    exact h (List.map_inj_right (fun x y q => by omega) |>.mp z)
theorem sc_law_shown : FnScope ["_law_rooms", "_law_row_here", "_law_places", "_law_found", "_law_end", "_law_begins", "_law_begin", "_law_at", "_law_place"] ["_law_rooms", "_law_row_here", "_law_places"] (defScope (top 22)) := ⟨rfl, rfl, rfl, by decide +kernel, rfl, by decide +kernel, by decide +kernel⟩
theorem ok_law_shown (T : Prog K mg) : FnOk P w K mg base CX0 1 T.law_shown.f T.law_shown.fd ["_law_rooms", "_law_row_here", "_law_places"] (spLShown K) := by
  refine T.law_shown.fn.ok sc_law_shown (fun vs H Q E h => ?len) (fun cdv A outer s H vs Q E hr h => ?body)
  case len =>
    obtain ⟨n, r, q, row, ps, rfl, _⟩ := h
    rfl
  case body =>
    have hu := hu_of hr
    obtain ⟨n, r, q, row, ps, rfl, n1, n8, hS, hR1, hq, hpl, k⟩ := h
    refine ⟨_, PSs.nox (pss_cons (ps_set (i := 3) sc_law_shown.nd rfl (Or.inl rfl) (pe_op op_sub (pe_callB call_len_seq (by rfl) T.len PySem.boot_len (pa_cons (pv 1) pa_nil)) (pe_op op_mul (pe_op op_sub (pv 0) pe_int) (pe_callB call_len_seq (by rfl) T.len PySem.boot_len (pa_cons (pv 2) pa_nil)))))
        (pss_cons (ps_for PassesOwn.never rfl (pi_range1 (by rfl) T.range (pa_cons (pe_callB call_len_seq (by rfl) T.len PySem.boot_len (pa_cons (pv 1) pa_nil)) pa_nil)) (pg_name (i := 4) sc_law_shown.nd rfl (Or.inr rfl))
        (pss_cons (ps_setLc (i := 5) (own := [("_law_at", 7)]) (g := gName 7) (tt := (tTest (tOp rEq (tOp (rIxL K) (tVar 1) (tVar 7)) (tOp (rIxL K) (tVar 1) (tVar 4))))) (te := (tVar 7)) rfl sc_law_shown.nd rfl rfl (sw_true rfl rfl rfl (by decide +kernel)) ((pi_range1 (by rfl) T.range (pa_cons (pv 4) pa_nil))) (blkOk_by (own := [("_law_at", 7)]) (N := ["_law_rooms", "_law_row_here", "_law_places", "_law_found", "_law_end", "_law_begins", "_law_begin", "_law_at", "_law_place"]) (sc := defScope (top 22)) (by decide +kernel)) (fun _ _ _ _ _ => (by exact (pg_name (i := 7) sc_law_shown.nd rfl (Or.inl rfl)))) (fun _ _ _ _ _ => (by exact (pts_one (pt_cmpR op_eq (pe_ix ix_list (pv 1) (pv 7) (fun _ _ => rfl)) (pe_ix ix_list (pv 1) (pv 4) (fun _ _ => rfl)) (nomark _))))) (fun _ _ _ _ _ => (by exact (pv 7))))
        (pss_one (ps_for PassesOwn.never rfl (pi_list (pe_slice sl_list (pv 5) (po_some (pe_un un_neg pe_int)) po_none)) (pg_name (i := 6) sc_law_shown.nd rfl (Or.inr rfl))
        (pss_one (ps_if (pt_cmpR (op_eqD hr.units) (pe_lc (own := [("_law_place", 8)]) (g := gName 8) rfl sc_law_shown.nd ((pi_list (pv 2))) (blkOk_by (own := [("_law_place", 8)]) (N := ["_law_rooms", "_law_row_here", "_law_places", "_law_found", "_law_end", "_law_begins", "_law_begin", "_law_at", "_law_place"]) (sc := defScope (top 22)) (by decide +kernel)) (fun _ _ _ _ _ => (by exact (pg_name (i := 8) sc_law_shown.nd rfl (Or.inl rfl)))) (fun _ _ _ _ _ => (by exact (pts_one (pt_chain op_lt op_lt (pv 6) (pv 8) (pv 4))))) (fun _ _ _ _ _ => (by exact (pv 8)))) (pe_lst pa_nil) (nomark _))
        (pss_one (ps_set (i := 3) sc_law_shown.nd rfl (Or.inl rfl) (pe_op op_sub (pv 3) pe_int)))
        pss_nil))))))
        (pss_one (ps_ret (pv 3))))), ?_⟩
    refine ⟨_, rfl, r, _, rfl, .inl hS, _, rfl, _, _, rfl, rfl, _, rfl, q, _, rfl, .inl hq, _, _, rfl, rfl, .inl ⟨by omega, by omega⟩, _, _, rfl, rfl, ?_⟩
    -- for end in range(len(row))
    refine ⟨_, rfl, r, _, rfl, .inl hS, _, rfl, by omega, by rw [il_len]; omega, ?_⟩
    refine for_range (lo := 0) (n := ((il row).length : Int).toNat) (fun i σ H' => (∃ (z : Int) (v4 v5 v6 v7 v8 : Option V), σ = [some (.int n), some (.ref r), some (.ref q), some (.int z), v4, v5, v6, v7, v8] ∧ z = (row.length : Int) - (n - 1) * (ps.length : Int) - (((spellsTo row i).filter fun x => !within x ps).length : Int)) ∧ Same H H') ?_ ?_ ?_
    · refine ⟨⟨_, _, _, _, _, _, rfl, ?_⟩, Same.refl H⟩
      rw [il_len, List.length_map]
      simp [spellsTo]
    · rintro i σ H1 hi ⟨⟨z, v4, v5, v6, v7, v8, rfl, ez⟩, s1⟩
      have hi : i < row.length := by rw [il_len] at hi; omega
      have ei : row[i]? = some (row[i]'hi) := List.getElem?_eq_getElem hi
      -- begins = [..]
      refine ⟨_, rfl, _, rfl, by omega, by omega, fun d hd => ?_⟩
      refine lc_range (lo := 0) (n := (0 + (i : Int)).toNat) (fun j H' => H' d = some (.lst (NL (begsTo row i j))) ∧ Same H H' ∧ H1 d = none) ⟨upd_same, s1.trans (Same.new hd), hd⟩ ?_ ?_
      · rintro j H2 hj ⟨hd2, s2, hd0⟩
        have hj' : j < row.length := by omega
        have ej : row[j]? = some (row[j]'hj') := List.getElem?_eq_getElem hj'
        have a1 : atI (il row) (0 + (j : Int)) = some (V.int (row[j]'hj')) := by rw [Int.zero_add]; exact atI_nat (il_at ej)
        have a2 : atI (il row) (0 + (i : Int)) = some (V.int (row[i]'hi)) := by rw [Int.zero_add]; exact atI_nat (il_at ei)
        refine ⟨rfl, _, rfl, _, rfl, r, _, _, _, rfl, rfl, s2.seq hS, a1, _, rfl, _, rfl, r, _, _, _, rfl, rfl, s2.seq hS, a2, rfl, _, rfl, ?_⟩
        rw [begsTo_succ, ej, ei]
        generalize row[j]'hj' = x
        generalize row[i]'hi = y
        have hle := begsTo_le row i j
        by_cases e : x = y
        · refine ifT (decide_eq_true (by rw [e])) ⟨_, rfl, _, hd2, szl (by rw [List.length_map]; omega), ?_, Same.put s2 (Same.back s1 hd0), hd0⟩
          rw [if_pos (by rw [e]), upd_same, Int.zero_add, NL_snoc]
        · refine ifF (decide_eq_false (by intro z; injection z with z; exact e z)) ⟨?_, s2, hd0⟩
          rw [if_neg (by intro z; injection z with z; exact e z), List.append_nil]
          exact hd2
      · rintro H2 ⟨hd2, s2, hd0⟩
        have e0 : (0 + (i : Int)).toNat = i := by omega
        rw [e0] at hd2
        have bc := begs_cut hi
        -- for begin in begins[-1:]
        refine ⟨_, rfl, _, rfl, _, rfl, d, _, rfl, SqL.of hd2, fun m hm => ?_⟩
        rw [bc.1]
        have h1 := spellAt_one row i
        have h2 := bc.2
        have eS : spellsTo row (i + 1) = spellsTo row i ++ spellAt row i := rfl
        rw [eS, List.filter_append]
        refine ⟨m, rfl, ⟨_, SqL.of upd_same⟩, for_list (K := K) (a := m) (xs := NL ((spellAt row i).map (·.1))) (fun j σ H' => (∃ (z2 : Int) (v5 v6 v7 v8 : Option V), σ = [some (.int n), some (.ref r), some (.ref q), some (.int z2), some (.int (0 + (i : Int))), v5, v6, v7, v8] ∧ z2 = z - ((((spellAt row i).take j).filter fun x => !within x ps).length : Int)) ∧ Same H H' ∧ H' m = some (.lst (NL ((spellAt row i).map (·.1))))) ?_ (fun j σ H' _ h => SqL.of h.2.2) ?_ ?_⟩
        · exact ⟨⟨_, _, _, _, _, rfl, by simp⟩, s2.trans (Same.new hm), upd_same⟩
        · rintro j x σ H3 hx ⟨⟨z2, v5, v6, v7, v8, rfl, ez2⟩, s3, hm3⟩
          obtain ⟨b, hb, rfl⟩ := NL_at hx
          have hj : j < (spellAt row i).length := by
            have := (List.getElem?_eq_some_iff.mp hb).1
            rw [List.length_map] at this
            exact this
          have exj : (spellAt row i)[j]? = some (b, i) := by
            rw [h2, List.getElem?_map, hb]
            rfl
          rw [take_snoc exj, List.filter_append]
          -- [place for place in places if begin < place < end]
          refine ⟨_, rfl, q, rfl, ⟨_, s3.seq hq⟩, fun e he => ?_⟩
          refine lc_list (K := K) (a := q) (xs := NL ps) (fun t H' => H' e = some (.lst (NL ((ps.take t).filter fun z => decide (b < z) && decide (z < i)))) ∧ Same H3 H') ⟨upd_same, Same.new he⟩ (fun t H' _ h => (s3.trans h.2).seq hq) ?_ ?_
          · rintro t y H4 hy ⟨he4, s4⟩
            obtain ⟨z, hz, rfl⟩ := NL_at hy
            have hle := List.length_filter_le (fun z => decide (b < z) && decide (z < i)) (ps.take t)
            rw [List.length_take] at hle
            rw [take_snoc hz, List.filter_append]
            refine ⟨rfl, _, rfl, _, rfl, _, _, rfl, rfl, _, rfl, ?_⟩
            by_cases c1 : b < z
            · refine ifT (decide_eq_true (by omega)) ⟨_, rfl, _, _, rfl, rfl, _, rfl, ?_⟩
              by_cases c2 : z < i
              · refine ifT (decide_eq_true (by omega)) ⟨_, rfl, _, he4, szl (by rw [List.length_map]; omega), ?_, Same.put s4 he⟩
                rw [upd_same, NL_snoc]
                simp [c1, c2]
              · refine ifF (decide_eq_false (by omega)) ⟨?_, s4⟩
                simpa [c1, c2] using he4
            · refine ifF (decide_eq_false (by omega)) ⟨_, rfl, iteF ⟨?_, s4⟩⟩
              simpa [c1] using he4
          · rintro H4 ⟨he4, s4⟩
            rw [List.take_of_length_le (by simp)] at he4
            refine ⟨szd rfl, fun u hu' => ?_⟩
            have s5 := Same.new (o := .lst []) hu'
            have he5 := s5 _ _ he4
            rw [NL_il] at he5
            refine ⟨pd _, pd (([] : List Nat).map fun n : Nat => (n : Int)), dp_il (SqL.of he5), dp_il (SqL.of upd_same), shaped_il _, shaped_il _, _, rfl, ?_⟩
            rw [eqv_nl]
            have hw : within (b, i) ps = !decide (ps.filter (fun z => decide (b < z) && decide (z < i)) = []) := within_nil
            have s35 : Same H (upd H4 u (.lst [])) := (s3.trans s4).trans s5
            have hm5 : upd H4 u (.lst []) m = some (.lst (NL ((spellAt row i).map (·.1)))) := s5 _ _ (s4 _ _ hm3)
            refine ite2 (fun h => ?_) (fun h => ?_)
            · refine ⟨_, rfl, _, _, rfl, rfl, ⟨_, _, _, _, _, rfl, ?_⟩, s35, hm5⟩
              rw [h] at hw
              rw [List.length_append, ez2]
              simp [hw]
              omega
            · refine ⟨⟨_, _, _, _, _, rfl, ?_⟩, s35, hm5⟩
              rw [(by simpa using h : decide (ps.filter (fun z => decide (b < z) && decide (z < i)) = []) = false)] at hw
              rw [List.length_append, ez2]
              simp [hw]
        · rintro σ H3 ⟨⟨z2, v5, v6, v7, v8, rfl, ez2⟩, s3, hm3⟩
          rw [List.take_of_length_le (by simp)] at ez2
          refine ⟨⟨_, _, _, _, _, _, rfl, ?_⟩, s3⟩
          rw [List.length_append, ez2, ez]
          omega
    · rintro σ H1 ⟨⟨z, v4, v5, v6, v7, v8, rfl, ez⟩, s1⟩
      refine ⟨_, rfl, ?_⟩
      have e := k H1 s1
      unfold shownN spellsL at e
      have e0 : ((il row).length : Int).toNat = row.length := by rw [il_len]; omega
      rw [e0] at ez
      have e1 : (row.length : Int) - (n - 1) * (ps.length : Int) - (((spellsTo row row.length).filter fun x => !within x ps).length : Int) = (row.length : Int) - (((spellsTo row row.length).filter fun x => !within x ps).length : Int) - (n - 1) * (ps.length : Int) := by omega
      rw [e1] at ez
      rw [ez]
      exact e
end
end CK

/-! The law of papers read. -/
namespace CK
open PySem PySem.Spec PyProof.Rows L2
section
variable {P : Program} {w : World} {K : PySem.W.Frag} {mg : Str → Option Value} {base : Heap}
theorem sc_law : FnScope ["_law_script", "_law_box", "_law_turn", "_law_rooms", "_law_row_here", "_law_due", "_law_end", "_law_begins", "_law_handed", "_law_again", "_law_found", "_law_often", "_law_places", "_law_kept", "_law_many", "_law_at", "_law_begin", "_law_place"] ["_law_script"] (defScope (top 23)) := ⟨rfl, rfl, rfl, by decide +kernel, rfl, by decide +kernel, by decide +kernel⟩
theorem ok_law (T : Prog K mg) {f : Addr} {fd : FuncData} (F : FunD K "law" "law" (defArgs (top 23)) (defBody (top 23)) (defScope (top 23)) [] [] f fd) : FnOk P w K mg base CX0 6 f fd ["_law_script"] (spLaw K) := by
  have G_law_begun := ok_law_begun (P := P) (w := w) (base := base) T
  have G_law_row := ok_law_row (P := P) (w := w) (base := base) T
  have G_law_take := ok_law_take (P := P) (w := w) (base := base) T
  have G_spells := ok_spells (P := P) (w := w) (base := base) T
  have G_law_shown := ok_law_shown (P := P) (w := w) (base := base) T
  have G_law_alike := ok_alike (P := P) (w := w) (base := base) T 5
  have G_shown := ok_shown (P := P) (w := w) (base := base) T
  refine F.ok sc_law (fun vs H Q E h => ?len) (fun cdv A outer s H vs Q E hr h => ?body)
  case len =>
    obtain ⟨a, ns, rfl, _⟩ := h
    rfl
  case body =>
    have hr_law_begun : Room 1 _ := hr.mono (by decide)
    have hr_law_row : Room 2 _ := hr.mono (by decide)
    have hr_law_take : Room 1 _ := hr.mono (by decide)
    have hr_spells : Room 3 _ := hr.mono (by decide)
    have hr_law_shown : Room 1 _ := hr.mono (by decide)
    have hr_law_alike : Room 5 _ := hr.mono (by decide)
    have hr_shown : Room 3 _ := hr.mono (by decide)
    have hu := hu_of hr
    obtain ⟨a, ns, rfl, hS, hl63, k⟩ := h
    refine ⟨_, PSs.nox (pss_cons (ps_set (i := 1) sc_law.nd rfl (Or.inr rfl) (pe_call G_law_begun hr_law_begun (by rfl) T.law_begun.g T.law_begun.fn.kp T.law_begun.bd .nil pass0 (pa_cons (pv 0) pa_nil)))
        (pss_cons (ps_for PassesOwn.never rfl (pi_range1 (by rfl) T.range (pa_cons pe_int pa_nil)) (pg_name (i := 2) sc_law.nd rfl (Or.inl rfl))
        (pss_cons (ps_set (i := 3) sc_law.nd rfl (Or.inl rfl) (pe_op op_add pe_int (pe_call G_law_take hr_law_take (by rfl) T.law_take.g T.law_take.fn.kp T.law_take.bd .nil pass0 (pa_cons (pv 1) (pa_cons pe_int pa_nil)))))
        (pss_cons (ps_set (i := 4) sc_law.nd rfl (Or.inr rfl) (pe_call G_law_row hr_law_row (by rfl) T.law_row.g T.law_row.fn.kp T.law_row.bd .nil pass0 (pa_cons (pv 1) (pa_cons pe_int pa_nil))))
        (pss_cons (ps_set (i := 5) sc_law.nd rfl (Or.inl rfl) (pe_lst pa_nil))
        (pss_cons (ps_for PassesOwn.never rfl (pi_range1 (by rfl) T.range (pa_cons (pe_callB call_len_seq (by rfl) T.len PySem.boot_len (pa_cons (pv 4) pa_nil)) pa_nil)) (pg_name (i := 6) sc_law.nd rfl (Or.inr rfl))
        (pss_cons (ps_setLc (i := 7) (own := [("_law_at", 15)]) (g := gName 15) (tt := (tTest (tOp rEq (tOp (rIxL K) (tVar 4) (tVar 15)) (tOp (rIxL K) (tVar 4) (tVar 6))))) (te := (tVar 15)) rfl sc_law.nd rfl rfl (sw_true rfl rfl rfl (by decide +kernel)) ((pi_range1 (by rfl) T.range (pa_cons (pv 6) pa_nil))) (blkOk_by (own := [("_law_at", 15)]) (N := ["_law_script", "_law_box", "_law_turn", "_law_rooms", "_law_row_here", "_law_due", "_law_end", "_law_begins", "_law_handed", "_law_again", "_law_found", "_law_often", "_law_places", "_law_kept", "_law_many", "_law_at", "_law_begin", "_law_place"]) (sc := defScope (top 23)) (by decide +kernel)) (fun _ _ _ _ _ => (by exact (pg_name (i := 15) sc_law.nd rfl (Or.inl rfl)))) (fun _ _ _ _ _ => (by exact (pts_one (pt_cmpR op_eq (pe_ix ix_list (pv 4) (pv 15) (fun _ _ => rfl)) (pe_ix ix_list (pv 4) (pv 6) (fun _ _ => rfl)) (nomark _))))) (fun _ _ _ _ _ => (by exact (pv 15))))
        (pss_one (ps_set (i := 5) sc_law.nd rfl (Or.inl rfl) (pe_op op_cat (pv 5) (pe_lc (own := [("_law_begin", 16)]) (g := gName 16) rfl sc_law.nd ((pi_list (pe_slice sl_list (pv 7) (po_some (pe_un un_neg pe_int)) po_none))) (blkOk_by (own := [("_law_begin", 16)]) (N := ["_law_script", "_law_box", "_law_turn", "_law_rooms", "_law_row_here", "_law_due", "_law_end", "_law_begins", "_law_handed", "_law_again", "_law_found", "_law_often", "_law_places", "_law_kept", "_law_many", "_law_at", "_law_begin", "_law_place"]) (sc := defScope (top 23)) (by decide +kernel)) (fun _ _ _ _ _ => (by exact (pg_name (i := 16) sc_law.nd rfl (Or.inl rfl)))) (fun _ _ _ _ _ => (by exact pts_nil)) (fun _ _ _ _ _ => (by exact (pe_tup (pa_cons (pv 16) (pa_cons (pv 6) pa_nil)))))))))))
        (pss_cons (ps_set (i := 8) sc_law.nd rfl (Or.inl rfl) (pe_callTy call_list_of (by rfl) T.list_ (by decide +kernel) (pa_cons (pv 4) pa_nil)))
        (pss_cons (ps_for PassesOwn.never rfl (pi_range1 (by rfl) T.range (pa_cons pe_int pa_nil)) (pg_name (i := 9) sc_law.nd rfl (Or.inl rfl))
        (pss_cons (ps_set (i := 10) sc_law.nd rfl (Or.inl rfl) (pe_call G_spells hr_spells (by rfl) T.spells.g T.spells.fn.kp T.spells.bd .nil pass0 (pa_cons (pv 8) pa_nil)))
        (pss_cons (ps_if (PW.pt (pw_or (pt_not (pt_val (pe_call G_law_alike hr_law_alike (by rfl) T.law_alike.g T.law_alike.fn.kp T.law_alike.bd .nil pass0 (pa_cons (pv 10) (pa_cons (pv 5) pa_nil))))) (pw_or1 (pt_cmpR (op_neD hr.units) (pv 8) (pv 4) (nomark _)))))
        (pss_one (ps_ret pe_bl))
        pss_nil)
        (pss_one (ps_expr (pe_bm PySem.F.plainAttrs_list PySem.F.slot_list_append PySem.F.type_list_append mt_append (pv 10) (pa_cons (pe_tup pa_nil) pa_nil)))))))
        (pss_one (ps_for PassesOwn.never rfl (pi_range1 (by rfl) T.range (pa_cons (pe_call G_law_take hr_law_take (by rfl) T.law_take.g T.law_take.fn.kp T.law_take.bd .nil pass0 (pa_cons (pv 1) (pa_cons pe_int pa_nil))) pa_nil)) (pg_name (i := 9) sc_law.nd rfl (Or.inl rfl))
        (pss_cons (ps_set (i := 11) sc_law.nd rfl (Or.inr rfl) (pe_op op_add pe_int (pe_call G_law_take hr_law_take (by rfl) T.law_take.g T.law_take.fn.kp T.law_take.bd .nil pass0 (pa_cons (pv 1) (pa_cons pe_int pa_nil)))))
        (pss_cons (ps_setLc (i := 12) (own := [("_law_place", 17)]) (g := gName 17) rfl sc_law.nd rfl rfl (sw_true rfl rfl rfl (by decide +kernel)) ((pi_range1 (by rfl) T.range (pa_cons (pe_callB call_len_seq (by rfl) T.len PySem.boot_len (pa_cons (pv 4) pa_nil)) pa_nil))) (blkOk_by (own := [("_law_place", 17)]) (N := ["_law_script", "_law_box", "_law_turn", "_law_rooms", "_law_row_here", "_law_due", "_law_end", "_law_begins", "_law_handed", "_law_again", "_law_found", "_law_often", "_law_places", "_law_kept", "_law_many", "_law_at", "_law_begin", "_law_place"]) (sc := defScope (top 23)) (by decide +kernel)) (fun _ _ _ _ _ => (by exact (pg_name (i := 17) sc_law.nd rfl (Or.inl rfl)))) (fun _ _ _ _ _ => (by exact (pts_one (pt_cmpR op_eq (pe_call G_law_take hr_law_take (by rfl) T.law_take.g T.law_take.fn.kp T.law_take.bd .nil pass0 (pa_cons (pv 1) (pa_cons (pv 11) pa_nil))) pe_int (nomark _))))) (fun _ _ _ _ _ => (by exact (pv 17))))
        (pss_cons (ps_set (i := 13) sc_law.nd rfl (Or.inl rfl) (pe_callTy call_list_of (by rfl) T.list_ (by decide +kernel) (pa_cons (pv 12) pa_nil)))
        (pss_cons (ps_set (i := 14) sc_law.nd rfl (Or.inl rfl) (pe_call G_law_shown hr_law_shown (by rfl) T.law_shown.g T.law_shown.fn.kp T.law_shown.bd .nil pass0 (pa_cons (pv 3) (pa_cons (pv 4) (pa_cons (pv 13) pa_nil)))))
        (pss_one (ps_if (PW.pt (pw_or (pt_not (pt_val (pe_call G_law_alike hr_law_alike (by rfl) T.law_alike.g T.law_alike.fn.kp T.law_alike.bd .nil pass0 (pa_cons (pe_call G_shown hr_shown (by rfl) T.shown.g T.shown.fn.kp T.shown.bd .nil pass0 (pa_cons (pv 3) (pa_cons (pv 8) (pa_cons (pv 12) pa_nil)))) (pa_cons (pv 14) pa_nil))))) (pw_or1 (pt_cmpR (op_neD hr.units) (pv 12) (pv 13) (nomark _)))))
        (pss_one (ps_ret pe_bl))
        pss_nil)))))))))))))))
        (pss_one (ps_ret pe_bl)))), ?_⟩
    -- box = begun(script)
    refine ⟨_, rfl, a, ns, rfl, hS, hl63, fun b l H1 hb hl s1 B1 => ?_⟩
    refine ⟨3, rfl, by decide, by decide, for_range (lo := 0) (n := 3) (fun i σ H' => (∃ v2 v3 v4 v5 v6 v7 v8 v9 v10 v11 v12 v13 v14 v15 v16 v17 : Option V, σ = [some (.ref a), some (.ref b), v2, v3, v4, v5, v6, v7, v8, v9, v10, v11, v12, v13, v14, v15, v16, v17]) ∧ BoxAt H' b l) ⟨⟨_, _, _, _, _, _, _, _, _, _, _, _, _, _, _, _, rfl⟩, B1⟩ ?_ ?_⟩
    · rintro i σ H2 hi ⟨⟨v2, v3, v4, v5, v6, v7, v8, v9, v10, v11, v12, v13, v14, v15, v16, v17, rfl⟩, B2⟩
      -- rooms, row
      refine ⟨_, rfl, b, l, 8, rfl, B2, by decide, by decide, fun r0 H3 r00 r01 k3 B3 => ⟨_, _, rfl, rfl, ?_⟩⟩
      refine ⟨_, rfl, b, l, 100, rfl, B3, by decide, by decide, fun row r H4 hr4 hrow hlen k4 hrr B4 => ?_⟩
      have hR : RowOk row := ⟨by omega, hrow⟩
      have hR1 := hR.1
      have bl4 : r ∉ [b, l] := by
        obtain ⟨_, _, q1, q2, _⟩ := B3.ex
        have z1 := ne_fresh q1 hr4
        have z2 := ne_fresh q2 hr4
        simp [Ne.symm z1, Ne.symm z2]
      -- due = []; for end in range(len(row))
      refine ⟨szd rfl, fun d0 hd0 => ?_⟩
      have s5 := Same.new (o := .lst []) hd0
      refine ⟨_, rfl, r, _, rfl, .inl (SqL.of (s5 _ _ hrr)), _, rfl, by omega, by rw [il_len]; omega, ?_⟩
      refine for_range (lo := 0) (n := ((il row).length : Int).toNat) (fun j σ H' => ∃ (d : Addr) (as : List Addr), (∃ v6 v7 v8 v9 v10 v11 v12 v13 v14 v15 v16 v17 : Option V, σ = [some (.ref a), some (.ref b), some (.int (0 + (i : Int))), some (.int (1 + r0)), some (.ref r), some (.ref d), v6, v7, v8, v9, v10, v11, v12, v13, v14, v15, v16, v17]) ∧ Same H4 H' ∧ H4 d = none ∧ H' d = some (.lst (as.map V.ref)) ∧ PairsAt H' as (spellsTo row j)) ?_ ?_ ?_
      · exact ⟨d0, [], ⟨_, _, _, _, _, _, _, _, _, _, _, _, rfl⟩, s5, hd0, upd_same, PairsAt.nil⟩
      · rintro j σ H5 hj ⟨d, as, ⟨v6, v7, v8, v9, v10, v11, v12, v13, v14, v15, v16, v17, rfl⟩, s6, d4, hd5, hp5⟩
        have hj : j < row.length := by rw [il_len] at hj; omega
        have ei : row[j]? = some (row[j]'hj) := List.getElem?_eq_getElem hj
        have hal : as.length ≤ j := by rw [hp5.len]; exact spellsTo_le row j
        refine ⟨_, rfl, _, rfl, by omega, by omega, fun e he => ?_⟩
        refine lc_range (lo := 0) (n := (0 + (j : Int)).toNat) (fun t H' => H' e = some (.lst (NL (begsTo row j t))) ∧ Same H5 H') ⟨upd_same, Same.new he⟩ ?_ ?_
        · rintro t H6 ht ⟨he6, s7⟩
          have ht' : t < row.length := by omega
          have et : row[t]? = some (row[t]'ht') := List.getElem?_eq_getElem ht'
          have a1 : atI (il row) (0 + (t : Int)) = some (V.int (row[t]'ht')) := by rw [Int.zero_add]; exact atI_nat (il_at et)
          have a2 : atI (il row) (0 + (j : Int)) = some (V.int (row[j]'hj)) := by rw [Int.zero_add]; exact atI_nat (il_at ei)
          have hr6 := (s6.trans s7) _ _ hrr
          refine ⟨rfl, _, rfl, _, rfl, r, _, _, _, rfl, rfl, SqL.of hr6, a1, _, rfl, _, rfl, r, _, _, _, rfl, rfl, SqL.of hr6, a2, rfl, _, rfl, ?_⟩
          rw [begsTo_succ, et, ei]
          generalize row[t]'ht' = x
          generalize row[j]'hj = y
          have hle := begsTo_le row j t
          by_cases q : x = y
          · refine ifT (decide_eq_true (by rw [q])) ⟨_, rfl, _, he6, szl (by rw [List.length_map]; omega), ?_, Same.put s7 he⟩
            rw [if_pos (by rw [q]), upd_same, Int.zero_add, NL_snoc]
          · refine ifF (decide_eq_false (by intro z; injection z with z; exact q z)) ⟨?_, s7⟩
            rw [if_neg (by intro z; injection z with z; exact q z), List.append_nil]
            exact he6
        · rintro H6 ⟨he6, s7⟩
          have e0 : (0 + (j : Int)).toNat = j := by omega
          rw [e0] at he6
          have bc := begs_cut hj
          refine ⟨_, rfl, _, rfl, _, rfl, _, rfl, e, _, rfl, SqL.of he6, fun m hm => ?_⟩
          rw [bc.1]
          have h1 := spellAt_one row j
          have h2 := bc.2
          have s8 := Same.new (o := .lst (NL ((spellAt row j).map (·.1)))) hm
          refine ⟨m, rfl, ⟨_, SqL.of upd_same⟩, fun D hD => ?_⟩
          refine lc_list (K := K) (a := m) (xs := NL ((spellAt row j).map (·.1))) (fun t H' => Same H6 H' ∧ H' m = some (.lst (NL ((spellAt row j).map (·.1)))) ∧ ∃ bs : List Addr, H' D = some (.lst (bs.map V.ref)) ∧ PairsAt H' bs ((spellAt row j).take t)) ?_ (fun t H' _ h => SqL.of h.2.1) ?_ ?_
          · exact ⟨s8.trans (Same.new hD), Same.new hD _ _ upd_same, [], upd_same, PairsAt.nil⟩
          · rintro t x H7 hx ⟨s9, hm7, bs, hD7, hp7⟩
            obtain ⟨bg, hbg, rfl⟩ := NL_at hx
            have ht : t < (spellAt row j).length := by
              have := (List.getElem?_eq_some_iff.mp hbg).1
              rw [List.length_map] at this
              exact this
            have ext : (spellAt row j)[t]? = some (bg, j) := by
              rw [h2, List.getElem?_map, hbg]
              rfl
            rw [take_snoc ext]
            refine ⟨rfl, _, rfl, _, rfl, szd rfl, fun u hu' => ?_⟩
            have sU := Same.new (o := .tup [V.int (bg : Nat), V.int (0 + (j : Int))]) hu'
            have hD8 := sU _ _ hD7
            have hbl : bs.length ≤ 1 := by rw [hp7.len, List.length_take]; omega
            have hDm : D ≠ m := Ne.symm (ne_fresh (H := upd H6 m (.lst (NL ((spellAt row j).map (·.1))))) upd_same hD)
            refine ⟨_, hD8, szl (by rw [List.length_map]; omega), Same.put (s9.trans sU) (Same.back s8 hD), ?_, bs ++ [u], ?_, ?_⟩
            · rw [upd_ne (Ne.symm hDm)]; exact sU _ _ hm7
            · rw [upd_same, List.map_append]; rfl
            · refine ((hp7.same sU).snoc (x := (bg, j)) ?_).put hD8 (by intro u z; cases z)
              rw [upd_same, Int.zero_add]
          · rintro H7 ⟨s9, hm7, bs, hD7, hp7⟩
            rw [List.take_of_length_le (by simp)] at hp7
            have hbl : bs.length ≤ 1 := by rw [hp7.len]; exact h1
            have hd7 : H7 d = some (.lst (as.map V.ref)) := s9 _ _ (s7 _ _ hd5)
            refine ⟨d, D, _, _, rfl, rfl, hd7, hD7, sz (by rw [List.length_map, List.length_map]; omega), fun p hp => ?_⟩
            have sP := Same.new (o := .lst (as.map V.ref ++ bs.map V.ref)) hp
            refine ⟨p, as ++ bs, ⟨_, _, _, _, _, _, _, _, _, _, _, _, rfl⟩, ((s6.trans s7).trans s9).trans sP, Same.back ((s6.trans s7).trans s9) hp, ?_, ?_⟩
            · rw [upd_same, List.map_append]
            · exact ((hp5.same (s7.trans (s9.trans sP))).app (hp7.same sP))
      · rintro σ H5 ⟨d, as, ⟨v6, v7, v8, v9, v10, v11, v12, v13, v14, v15, v16, v17, rfl⟩, s6, d4, hd5, hp5⟩
        have e0 : ((il row).length : Int).toNat = row.length := by rw [il_len]; omega
        rw [e0] at hp5
        have hr5 := s6 _ _ hrr
        have B5 := B4.same s6
        -- handed = list(row)
        refine ⟨_, rfl, r, _, rfl, .inl (SqL.of hr5), fun hd hhd => ?_⟩
        have sH := Same.new (o := .lst (il row)) hhd
        have hsl := spellsL_le row
        -- what stands on
        let St : Hp → Prop := fun H' => BoxAt H' b l ∧ H' r = some (.lst (il row)) ∧ H' hd = some (.lst (il row)) ∧ H' d = some (.lst (as.map V.ref)) ∧ PairsAt H' as (spellsL row)
        have St0 : St (upd H5 hd (.lst (il row))) := ⟨B5.same sH, sH _ _ hr5, upd_same, sH _ _ hd5, hp5.same sH⟩
        have StS : ∀ {H' H'' : Hp}, St H' → Same H' H'' → St H'' := fun h s => ⟨h.1.same s, s _ _ h.2.1, s _ _ h.2.2.1, s _ _ h.2.2.2.1, h.2.2.2.2.same s⟩
        -- for again in range(2)
        refine ⟨2, rfl, by decide, by decide, for_range (lo := 0) (n := 2) (fun j σ H' => (∃ v6 v7 v9 v10 v11 v12 v13 v14 v15 v16 v17 : Option V, σ = [some (.ref a), some (.ref b), some (.int (0 + (i : Int))), some (.int (1 + r0)), some (.ref r), some (.ref d), v6, v7, some (.ref hd), v9, v10, v11, v12, v13, v14, v15, v16, v17]) ∧ St H') ⟨⟨_, _, _, _, _, _, _, _, _, _, _, rfl⟩, St0⟩ ?_ ?_⟩
        · rintro j σ H6 hj ⟨⟨v6, v7, v9, v10, v11, v12, v13, v14, v15, v16, v17, rfl⟩, S6⟩
          refine ⟨_, rfl, hd, row, rfl, SqL.of S6.2.2.1, hR, fun fo fs H7 hfo s7 hfo7 hp7 => ?_⟩
          have S7 := StS S6 s7
          refine ⟨_, rfl, _, rfl, _, _, pds (spellsL row), rfl, dp_pairs (SqL.of hfo7) hp7, dp_pairs (SqL.of S7.2.2.2.1) S7.2.2.2.2, Nat.lt_of_le_of_lt (depth_pds _) (by decide), small_pds (by omega), _, rfl, ?_⟩
          refine iteF ⟨_, rfl, _, rfl, pd row, pd row, dp_il (SqL.of S7.2.2.1), dp_il (SqL.of S7.2.1), shaped_il _, shaped_il _, _, rfl, ?_⟩
          rw [eqv_il]
          refine ifF (by simp) ?_
          refine ⟨_, rfl, .inl ⟨rfl, _, SqL.of hfo7⟩, szd rfl, fun t ht => ?_⟩
          have sT := Same.new (o := .tup []) ht
          have S8 := StS S7 sT
          have hfl : fs.length ≤ 100 := by rw [hp7.len]; omega
          refine ⟨fo, _, _, rfl, rfl, sT _ _ hfo7, szl (by rw [List.length_map]; omega), ⟨_, _, _, _, _, _, _, _, _, _, _, rfl⟩, ?_⟩
          have nf : ∀ {c : Addr} {o : HO}, H6 c = some o → c ≠ fo := fun q => ne_fresh q hfo
          refine ⟨?_, ?_, ?_, ?_, ?_⟩
          · obtain ⟨_, _, q1, q2, _⟩ := S6.1.ex
            exact S8.1.but (S := [fo]) (But.put (by simp)) (by simp [nf q1]) (by simp [nf q2])
          · rw [upd_ne (nf S6.2.1)]; exact S8.2.1
          · rw [upd_ne (nf S6.2.2.1)]; exact S8.2.2.1
          · rw [upd_ne (nf S6.2.2.2.1)]; exact S8.2.2.2.1
          · exact S8.2.2.2.2.put (sT _ _ hfo7) (by intro u z; cases z)
        · rintro σ H6 ⟨⟨v6, v7, v9, v10, v11, v12, v13, v14, v15, v16, v17, rfl⟩, S6⟩
          -- for again in range(take(box, 4))
          have rS := bl4
          have hdS : hd ∉ [b, l] := B4.off (Same.back s6 hhd)
          have dS : d ∉ [b, l] := B4.off d4
          have StB : ∀ {H' H'' : Hp}, St H' → But [b, l] H' H'' → BoxAt H'' b l → St H'' := fun h k B => ⟨B, k _ _ h.2.1 rS, k _ _ h.2.2.1 hdS, k _ _ h.2.2.2.1 dS, h.2.2.2.2.but k h.1.notup⟩
          refine ⟨_, rfl, b, l, 4, rfl, S6.1, by decide, by decide, fun t0 H7 t00 t01 k7 B7 => ?_⟩
          have S7 := StB S6 k7 B7
          refine ⟨_, rfl, by omega, by omega, for_range (lo := 0) (n := t0.toNat) (fun j σ H' => (∃ v6 v7 v9 v10 v11 v12 v13 v14 v15 v16 v17 : Option V, σ = [some (.ref a), some (.ref b), some (.int (0 + (i : Int))), some (.int (1 + r0)), some (.ref r), some (.ref d), v6, v7, some (.ref hd), v9, v10, v11, v12, v13, v14, v15, v16, v17]) ∧ St H') ⟨⟨_, _, _, _, _, _, _, _, _, _, _, rfl⟩, S7⟩ ?_ ?_⟩
          · rintro j σ H8 hj ⟨⟨v6, v7, v9, v10, v11, v12, v13, v14, v15, v16, v17, rfl⟩, S8⟩
            -- often
            refine ⟨_, rfl, b, l, 12, rfl, S8.1, by decide, by decide, fun o0 H9 o00 o01 k9 B9 => ⟨_, _, rfl, rfl, ?_⟩⟩
            have S9 := StB S8 k9 B9
            -- places
            refine ⟨_, rfl, r, _, rfl, .inl (SqL.of S9.2.1), _, rfl, by omega, by rw [il_len]; omega, fun D hD => ?_⟩
            have DS : D ∉ [b, l] := B9.off hD
            refine lc_range (lo := 0) (n := ((il row).length : Int).toNat) (fun t H' => St H' ∧ ∃ ps : List Nat, H' D = some (.lst (NL ps)) ∧ ps.Pairwise (· < ·) ∧ (∀ p ∈ ps, p < t) ∧ ps.length ≤ t) ?_ ?_ ?_
            · exact ⟨StS S9 (Same.new hD), [], upd_same, List.Pairwise.nil, fun p hp => by simp at hp, Nat.le_refl _⟩
            · rintro t H10 ht ⟨S10, ps, hD10, pw, plt, ple⟩
              have ht' : t < row.length := by rw [il_len] at ht; omega
              refine ⟨rfl, _, rfl, _, rfl, b, l, _, rfl, S10.1, by omega, by omega, fun u H11 u0 u1 k11 B11 => ⟨rfl, _, rfl, ?_⟩⟩
              have S11 := StB S10 k11 B11
              have hD11 := k11 _ _ hD10 DS
              refine ite2 (fun _ => ?_) (fun _ => ⟨S11, ps, hD11, pw, fun p hp => Nat.lt_succ_of_lt (plt p hp), by omega⟩)
              have ne : ∀ {c : Addr} {o : HO}, H9 c = some o → c ≠ D := fun q => ne_fresh q hD
              refine ⟨_, rfl, _, hD11, szl (by rw [List.length_map]; omega), ⟨?_, ?_, ?_, ?_, ?_⟩, ps ++ [t], ?_, ?_, ?_, by rw [List.length_append]; simp; omega⟩
              · obtain ⟨_, _, q1, q2, _⟩ := B9.ex
                exact B11.but (S := [D]) (But.put (by simp)) (by simp [ne q1]) (by simp [ne q2])
              · rw [upd_ne (ne S9.2.1)]; exact S11.2.1
              · rw [upd_ne (ne S9.2.2.1)]; exact S11.2.2.1
              · rw [upd_ne (ne S9.2.2.2.1)]; exact S11.2.2.2.1
              · exact S11.2.2.2.2.put hD11 (by intro u z; cases z)
              · rw [upd_same, Int.zero_add, NL_snoc]
              · rw [List.pairwise_append]
                refine ⟨pw, List.pairwise_singleton _ _, fun x hx y hy => ?_⟩
                rw [List.mem_singleton.mp hy]
                exact plt x hx
              · intro p hp
                rcases List.mem_append.mp hp with q | q
                · exact Nat.lt_succ_of_lt (plt p q)
                · rw [List.mem_singleton.mp q]; exact Nat.lt_succ_self _
            · rintro H10 ⟨S10, ps, hD10, pw, plt, ple⟩
              have hP : PaperOk row.length ps := ⟨pw, fun p hp => by have := plt p hp; rw [il_len] at this; omega⟩
              have hpl := hP.le
              -- kept, many
              refine ⟨_, rfl, D, _, rfl, .inl (SqL.of hD10), fun kp hkp => ?_⟩
              have sK := Same.new (o := .lst (NL ps)) hkp
              have S11 := StS S10 sK
              have hD11 := sK _ _ hD10
              refine ⟨_, rfl, _, rfl, _, rfl, 1 + r0, r, kp, row, ps, rfl, by omega, by omega, SqL.of S11.2.1, hR1, SqL.of upd_same, by omega, fun H12 s12 => ?_⟩
              have S12 := StS S11 s12
              have hD12 := s12 _ _ hD11
              have hk12 := s12 _ _ (upd_same (H := H10) (a := kp) (o := .lst (NL ps)))
              -- shown
              refine ⟨_, rfl, _, rfl, _, rfl, 1 + r0, hd, D, row, ps, rfl, by omega, by omega, SqL.of S12.2.2.1, hR, SqL.of hD12, hP, fun H13 s13 => ?_⟩
              have S13 := StS S12 s13
              refine ⟨_, rfl, _, _, .int _, rfl, .int _, .int _, (by show 0 < 5; decide), trivial, _, rfl, ?_⟩
              have hD13 := s13 _ _ hD12
              have hk13 := s13 _ _ hk12
              rw [NL_il] at hD13 hk13
              refine iteF ⟨_, rfl, _, rfl, pd _, pd _, dp_il (SqL.of hD13), dp_il (SqL.of hk13), shaped_il _, shaped_il _, _, rfl, ?_⟩
              rw [eqv_il]
              refine ifF (by simp) ?_
              exact ⟨⟨_, _, _, _, _, _, _, _, _, _, _, rfl⟩, S13⟩
          · rintro σ H8 ⟨⟨v6, v7, v9, v10, v11, v12, v13, v14, v15, v16, v17, rfl⟩, S8⟩
            exact ⟨⟨_, _, _, _, _, _, _, _, _, _, _, _, _, _, _, _, rfl⟩, S8.1⟩
    · rintro σ H' ⟨_, _⟩
      exact k H'
end
end CK

namespace CK
open PySem PySem.Spec PyProof.Rows L2
/-! ### the head: facts by names, one run of the top -/
def fn : List He.DefD := [
  ⟨("check_rooms", none), "check_rooms", "check_rooms", defArgs (top 8), defBody (top 8), defScope (top 8), [], []⟩,
  ⟨("is_page", none), "is_page", "is_page", defArgs (top 9), defBody (top 9), defScope (top 9), [], []⟩,
  ⟨("check_row", none), "check_row", "check_row", defArgs (top 10), defBody (top 10), defScope (top 10), [], []⟩,
  ⟨("spells", none), "spells", "spells", defArgs (top 12), defBody (top 12), defScope (top 12), [], []⟩,
  ⟨("shown", none), "shown", "shown", defArgs (top 13), defBody (top 13), defScope (top 13), [], []⟩,
  ⟨("find_spells", none), "find_spells", "find_spells", defArgs (top 14), defBody (top 14), defScope (top 14), [], []⟩,
  ⟨("_check_paper", none), "_check_paper", "_check_paper", defArgs (top 15), defBody (top 15), defScope (top 15), [], []⟩,
  ⟨("_has_within", none), "_has_within", "_has_within", defArgs (top 16), defBody (top 16), defScope (top 16), [], []⟩,
  ⟨("_law_begun", none), "_law_begun", "_law_begun", defArgs (top 18), defBody (top 18), defScope (top 18), [], []⟩,
  ⟨("_law_take", none), "_law_take", "_law_take", defArgs (top 19), defBody (top 19), defScope (top 19), [], []⟩,
  ⟨("_law_alike", none), "_law_alike", "_law_alike", defArgs (top 20), defBody (top 20), defScope (top 20), [], []⟩,
  ⟨("_law_row", none), "_law_row", "_law_row", defArgs (top 21), defBody (top 21), defScope (top 21), [], []⟩,
  ⟨("_law_shown", none), "_law_shown", "_law_shown", defArgs (top 22), defBody (top 22), defScope (top 22), [], []⟩,
  ⟨("law", none), "law", "law", defArgs (top 23), defBody (top 23), defScope (top 23), [], []⟩]
def fa : List He.Fa := [
  .glo "check_rooms", .glo "is_page", .glo "check_row", .glo "spells", .glo "shown", .glo "find_spells", .glo "_check_paper", .glo "_has_within", .glo "_law_begun", .glo "_law_take", .glo "_law_alike", .glo "_law_row", .glo "_law_shown", .glo "law", .int "MOST_ROOMS" 8, .int "PAGES" 12, .int "MOST_ASKS" 100, .free "any", .free "bool", .free "enumerate", .free "int", .free "isinstance", .free "len", .free "list", .free "min", .free "range", .free "str", .free "tuple"]
def xt (K : PySem.W.Frag) : Bool := true
theorem mkProg {K : PySem.W.Frag} {h : Heap} {mg : Str → Option Value} (X : K.In h) (G : h.Ns mainGlobals mg) (c : He.SaysD fa fn K) (cx : xt K = true) : Nonempty (Prog K mg) := by
  obtain ⟨_, F0⟩ := c.def_ 0 rfl
  obtain ⟨_, F1⟩ := c.def_ 1 rfl
  obtain ⟨_, F2⟩ := c.def_ 2 rfl
  obtain ⟨_, F3⟩ := c.def_ 3 rfl
  obtain ⟨_, F4⟩ := c.def_ 4 rfl
  obtain ⟨_, F5⟩ := c.def_ 5 rfl
  obtain ⟨_, F6⟩ := c.def_ 6 rfl
  obtain ⟨_, F7⟩ := c.def_ 7 rfl
  obtain ⟨_, F8⟩ := c.def_ 8 rfl
  obtain ⟨_, F9⟩ := c.def_ 9 rfl
  obtain ⟨_, F10⟩ := c.def_ 10 rfl
  obtain ⟨_, F11⟩ := c.def_ 11 rfl
  obtain ⟨_, F12⟩ := c.def_ 12 rfl
  obtain ⟨t_MOST_ROOMS, i_MOST_ROOMS⟩ := He.int_ok X G (c.fact 14 rfl)
  obtain ⟨t_PAGES, i_PAGES⟩ := He.int_ok X G (c.fact 15 rfl)
  obtain ⟨t_MOST_ASKS, i_MOST_ASKS⟩ := He.int_ok X G (c.fact 16 rfl)
  exact ⟨{
    check_rooms := ⟨_, _, F0, (FunD.bindsN F0 fun _ _ _ _ _ _ us hl => match us, hl with | [_], _ => rfl), He.glo_ok X G (c.fact 0 rfl)⟩,
    is_page := ⟨_, _, F1, (FunD.bindsN F1 fun _ _ _ _ _ _ us hl => match us, hl with | [_], _ => rfl), He.glo_ok X G (c.fact 1 rfl)⟩,
    check_row := ⟨_, _, F2, (FunD.bindsN F2 fun _ _ _ _ _ _ us hl => match us, hl with | [_], _ => rfl), He.glo_ok X G (c.fact 2 rfl)⟩,
    spells := ⟨_, _, F3, (FunD.bindsN F3 fun _ _ _ _ _ _ us hl => match us, hl with | [_], _ => rfl), He.glo_ok X G (c.fact 3 rfl)⟩,
    shown := ⟨_, _, F4, (FunD.bindsN F4 fun _ _ _ _ _ _ us hl => match us, hl with | [_, _, _], _ => rfl), He.glo_ok X G (c.fact 4 rfl)⟩,
    find_spells := ⟨_, _, F5, (FunD.bindsN F5 fun _ _ _ _ _ _ us hl => match us, hl with | [_], _ => rfl), He.glo_ok X G (c.fact 5 rfl)⟩,
    check_paper := ⟨_, _, F6, (FunD.bindsN F6 fun _ _ _ _ _ _ us hl => match us, hl with | [_, _], _ => rfl), He.glo_ok X G (c.fact 6 rfl)⟩,
    has_within := ⟨_, _, F7, (FunD.bindsN F7 fun _ _ _ _ _ _ us hl => match us, hl with | [_, _], _ => rfl), He.glo_ok X G (c.fact 7 rfl)⟩,
    law_begun := ⟨_, _, F8, (FunD.bindsN F8 fun _ _ _ _ _ _ us hl => match us, hl with | [_], _ => rfl), He.glo_ok X G (c.fact 8 rfl)⟩,
    law_take := ⟨_, _, F9, (FunD.bindsN F9 fun _ _ _ _ _ _ us hl => match us, hl with | [_, _], _ => rfl), He.glo_ok X G (c.fact 9 rfl)⟩,
    law_alike := ⟨_, _, F10, (FunD.bindsN F10 fun _ _ _ _ _ _ us hl => match us, hl with | [_, _], _ => rfl), He.glo_ok X G (c.fact 10 rfl)⟩,
    law_row := ⟨_, _, F11, (FunD.bindsN F11 fun _ _ _ _ _ _ us hl => match us, hl with | [_, _], _ => rfl), He.glo_ok X G (c.fact 11 rfl)⟩,
    law_shown := ⟨_, _, F12, (FunD.bindsN F12 fun _ _ _ _ _ _ us hl => match us, hl with | [_, _, _], _ => rfl), He.glo_ok X G (c.fact 12 rfl)⟩,
    t_MOST_ROOMS := t_MOST_ROOMS, g_MOST_ROOMS := i_MOST_ROOMS,
    t_PAGES := t_PAGES, g_PAGES := i_PAGES,
    t_MOST_ASKS := t_MOST_ASKS, g_MOST_ASKS := i_MOST_ASKS,
    any := He.free_ok X G (c.fact 17 rfl),
    bool_ := He.free_ok X G (c.fact 18 rfl),
    enumerate := He.free_ok X G (c.fact 19 rfl),
    int_ := He.free_ok X G (c.fact 20 rfl),
    isinstance := He.free_ok X G (c.fact 21 rfl),
    len := He.free_ok X G (c.fact 22 rfl),
    list_ := He.free_ok X G (c.fact 23 rfl),
    min := He.free_ok X G (c.fact 24 rfl),
    range := He.free_ok X G (c.fact 25 rfl),
    str_ := He.free_ok X G (c.fact 26 rfl),
    tuple_ := He.free_ok X G (c.fact 27 rfl) }⟩

def ts : List He.Tab := []
abbrev R : PySem.W.OpenRow := PySem.W.OpenLaw.row PySem.Challenge.rw_clockhand_k07_papers_read
abbrev hk : PySem.W.Hook := hookX 5 fa fn ts xt
def ob (s : PySem.W.SharedT) : He.AlT × Bool := obsX 5 fa fn ts xt (HandSHeadRun.getT s)
theorem ob_eq (s : PySem.W.SharedT) : ob s = hk.obs s.abs := obsX_eq (HandSHeadRun.getT_eq s)
theorem run (w : World) : HandSHeadRun.RunEq R (PySem.W.view R.prog [23]) hk ob 4000 ["__name__", "PageError", "BadRooms", "BadRow", "MOST_ROOMS", "PAGES", "MOST_ASKS", "check_rooms", "is_page", "check_row", "spells", "shown", "find_spells", "_check_paper", "_has_within", "_law_begun", "_law_take", "_law_alike", "_law_row", "_law_shown"] w := by
  refine PySem.W.byRow2 "special-get-raises" (P := fun w => HandSHeadRun.RunEq R (PySem.W.view R.prog [23]) hk ob 4000 ["__name__", "PageError", "BadRooms", "BadRow", "MOST_ROOMS", "PAGES", "MOST_ASKS", "check_rooms", "is_page", "check_row", "spells", "shown", "find_spells", "_check_paper", "_has_within", "_law_begun", "_law_take", "_law_alike", "_law_row", "_law_shown"] w) (fun w => ?_) (fun w => ?_) w
  all_goals
    intro os
    kernel_rfl
end CK

namespace CK
open PySem PySem.Spec PyProof.Rows L2
theorem facts {P : Program} {w : World} {K : PySem.W.Frag} {h : Heap} {mg : Str → Option Value} {f : Addr} (X : K.In h) (G : h.Ns mainGlobals mg) (hfa : mg ("law" : Str) = some (.ref f)) (c : He.SaysT fa fn ts w K) (cx : xt K = true) :
    ∃ fd : FuncData, (∀ (s : Shared) (v : Value), BindsTo s fd ⟨[v], []⟩ [("_law_script", v)]) ∧ ∀ base : Heap, K.In base → base.Ns mainGlobals mg → FnOk P w K mg base CX0 6 f fd ["_law_script"] (spLaw K) := by
  obtain ⟨T⟩ := mkProg X G c.d cx
  obtain ⟨fd, F⟩ := c.d.def_ 13 rfl
  have e := hfa.symm.trans (He.glo_ok X G (c.d.fact 13 rfl))
  cases e
  have b := FunD.bindsA (ps := ["_law_script"]) F fun _ _ _ _ _ _ us hl => match us, hl with | [_], _ => rfl
  exact ⟨fd, fun s v => b s [v] rfl, fun base _ _ => ok_law T  F⟩
end CK
open PySem PySem.W PySem.Calls PyProof.Rows
set_option maxRecDepth 100000 in
set_option maxHeartbeats 0 in
theorem PySem.Challenge.cw_clockhand_k07_papers_read_holds : PySem.Challenge.rw_clockhand_k07_papers_read.Holds := by
  w_on; o_law
  refine HandSHeadRun.head_any (r := OpenLaw.row PySem.Challenge.rw_clockhand_k07_papers_read) (q := view (OpenLaw.row PySem.Challenge.rw_clockhand_k07_papers_read).prog [23]) (H := CK.hk) (ob := CK.ob) (M := 4000) (loose := ["__name__", "PageError", "BadRooms", "BadRow", "MOST_ROOMS", "PAGES", "MOST_ASKS", "check_rooms", "is_page", "check_row", "spells", "shown", "find_spells", "_check_paper", "_has_within", "_law_begun", "_law_take", "_law_alike", "_law_row", "_law_shown"]) (d := HandSHeadRun.topDef (OpenLaw.row PySem.Challenge.rw_clockhand_k07_papers_read).prog 23) (kwd := []) CK.ob_eq
    (by kernel_rfl) (fun s => by kernel_rfl) CK.run (by kernel_rfl) (by kernel_rfl) (by kernel_rfl) (by rfl) (by first | assumption | decide +kernel) (by decide +kernel) ⟨rfl, rfl, rfl, rfl, rfl, by decide +kernel⟩ ?hw ?hc
  case hw => w_witness2
  case hc =>
    refine L2.walk_ofE (l := PySem.Challenge.rw_clockhand_k07_papers_read) (n := 63) (k := 6) (x := "_law_script") (CX := L2.CX0) rfl (by decide) (by kernel_rfl) ⟨rfl, by decide, by decide⟩ ?F (fun _ _ _ _ z => z)
    intro w mg fa h Y G hmg0
    obtain ⟨K, KX, c, cx⟩ := Y
    have hmg : mg ("law" : PySem.Str) = some (.ref fa) := by
      have e : (HandSHeadRun.topDef (OpenLaw.row PySem.Challenge.rw_clockhand_k07_papers_read).prog 23).name = ("law" : PySem.Str) := by kernel_rfl
      rw [← e]
      exact hmg0
    obtain ⟨fd, hb, hF⟩ := CK.facts (P := (PySem.Challenge.rw_clockhand_k07_papers_read).prog) (w := w) KX G hmg c cx
    exact ⟨K, fd, CK.spLaw K, KX, hb, fun H a ns hl _ hS => ⟨a, ns, rfl, hS, hl, fun _ => rfl⟩, hF⟩
