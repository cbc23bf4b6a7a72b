import PyProof.Rows.All
import Wide.All
import OpenK.AllK
import Wide.FinOn
import KE.KStateDown
import HandS.ForMost
import HandS.Defaults
import HandS.IsInst
import HandS.Conv
import HandS.Style
import HandS.Evl
import HandS.Head0
import HandS.Head1
import HandS.Head2
import HandS.HeadEnd
import HandS.HeadHook1
import HandS.HeadHook2
import KE.KRevSl
import HandS.TupSets
import HandS.Deep
import HandS.TupAny
import KE.DatumOrd
import PyProof.Rows.RowBridgeK
import HandS.Walk
import KE.KeyNested
import PySem.Challenge.RW_warmcold_k06_going_on_by_all_ways
set_option Elab.async false
set_option linter.all false
set_option maxRecDepth 100000
set_option maxHeartbeats 2000000
namespace Wc
open PySem PySem.Spec PyProof.Rows L2
open Evl (Ex ex_l ex_t fresh_back)
/-! ### own defs by their promises -/
structure Own (P : Program) (w : World) (K : PySem.W.Frag) (mg : Str → Option Value) (base : Heap) (k : Nat) (x : Str) (ps : List Str) (sp : Sp) : Prop where
  ex : ∃ (f : Addr) (fd : FuncData), FnOk P w K mg base CX0 k f fd ps sp ∧ mg x = some (.ref f) ∧ PySem.W.keepIn K (.ref f) = true ∧ Binds K fd ps []
theorem pe_callO {X : Cx} {k k' : Nat} {x : Str} {ps : List Str} {sp : Sp} {p pos : Pos} {e : Expr} {es : List Expr} {t : TA}
    (O : Own X.prog X.w X.K X.mg X.base k x ps sp) (hr : Room k' X.A) (hk : k ≤ k') (hg : Gl X x) (ha : PA X (e :: es) t)
    (hdb : (x == ("__debug__" : Str)) = false := by decide) (he : starEach (e :: es) X.env = (false, eval e X.env) :: starEach es X.env := by rfl) (hpl : (backTo pos (starEach es X.env)).any (·.1) = false := by rfl) :
    PE X (.Call (.Name x p) (e :: es) [] pos) (tCall sp [] E0 t) := by
  obtain ⟨f, fd, F, hm, hkp, hb⟩ := O.ex
  exact pe_call F (hr.mono hk) hg hm hkp hb .nil pass0 ha hdb he hpl
theorem units65 {k : Nat} {A : Around} (hr : Room k A) : A.units + 65 < cLine := by
  have := hr.un
  omega
abbrev FnP (K : PySem.W.Frag) (x : Str) (st : Stmt) (f : Addr) (fd : FuncData) : Prop := FunD K x x (defArgs st) (defBody st) (defScope st) [] [] f fd
/-! ### the head's facts, with one Bool more -/
def obsY (fa : List He.Fa) (fn : List He.DefD) (ex : PySem.W.Frag → Bool) (K : PySem.W.Frag) : He.AlD × Bool := (He.obsD fa fn K, ex K)
def obsYG (n : Nat) (fa : List He.Fa) (fn : List He.DefD) (ex : PySem.W.Frag → Bool) (g : Addr → Option Obj) : He.AlD × Bool := obsY fa fn ex (He.frG g (He.asD g n))
def SaysY (fa : List He.Fa) (fn : List He.DefD) (ex : PySem.W.Frag → Bool) (K : PySem.W.Frag) : Prop := He.SaysD fa fn K ∧ ex K = true
def hookY (n : Nat) (fa : List He.Fa) (fn : List He.DefD) (ex : PySem.W.Frag → Bool) : PySem.W.Hook where
  α := He.AlD × Bool
  obs := fun s => obsYG n fa fn ex s.heap.get?
  val := fun _ => (He.valD fn, true)
  says := fun _ h => ∃ K : PySem.W.Frag, K.In h ∧ SaysY fa fn ex K
  of := fun _ _ e => ⟨_, He.frG_in, congrArg Prod.fst e, congrArg Prod.snd e⟩
  keeps := fun _ _ _ ⟨K, hK, c⟩ k => ⟨K, PySem.W.Frag.In.keeps hK k, c⟩
theorem obsYG_eq {n : Nat} {fa : List He.Fa} {fn : List He.DefD} {ex : PySem.W.Frag → Bool} {g : Addr → Option Obj} {s : Shared} (h : ∀ a, g a = s.heap.get? a) : obsYG n fa fn ex g = (hookY n fa fn ex).obs s := by
  have e : g = s.heap.get? := funext h
  rw [e]
  rfl
/-! ### built-ins -/
theorem bb_abs : bootBuiltins "abs" = some (.builtin "abs") := by decide +kernel
theorem bb_max : bootBuiltins "max" = some (.builtin "max") := by decide +kernel
theorem bb_min : bootBuiltins "min" = some (.builtin "min") := by decide +kernel
theorem bb_all : bootBuiltins "all" = some (.builtin "all") := by decide +kernel
theorem bb_sum : bootBuiltins "sum" = some (.builtin "sum") := by decide +kernel
theorem bb_sorted : bootBuiltins "sorted" = some (.builtin "sorted") := by decide +kernel
theorem bb_isinstance : bootBuiltins "isinstance" = some (.builtin "isinstance") := by decide +kernel
theorem bt_int : bootBuiltins "int" = some (.type "int") := by decide +kernel
theorem bt_bool : bootBuiltins "bool" = some (.type "bool") := by decide +kernel
theorem bt_str : bootBuiltins "str" = some (.type "str") := by decide +kernel
theorem bt_list : bootBuiltins "list" = some (.type "list") := by decide +kernel
theorem bt_tuple : bootBuiltins "tuple" = some (.type "tuple") := by decide +kernel
abbrev rAbs : List V → Hp → VK → Prop := fun xs H Q => ∃ i, xs = [.int i] ∧ Q (.int (if i < 0 then -i else i)) H
abbrev rMax2 : List V → Hp → VK → Prop := fun xs H Q => ∃ i j, xs = [.int i, .int j] ∧ Q (.int (if j > i then j else i)) H
abbrev rMin2 : List V → Hp → VK → Prop := fun xs H Q => ∃ i j, xs = [.int i, .int j] ∧ Q (.int (if j < i then j else i)) H
abbrev rInt1 : List V → Hp → VK → Prop := fun xs H Q => (∃ i, xs = [.int i] ∧ Q (.int i) H) ∨ ∃ k, xs = [.bl k] ∧ Q (.int (if k then 1 else 0)) H
abbrev rLenQ (K : PySem.W.Frag) : List V → Hp → VK → Prop := fun xs H Q => ∃ p ys, xs = [.ref p] ∧ (SqL K H p ys ∨ SqT K H p ys) ∧ Q (.int ys.length) H
abbrev rListOf (K : PySem.W.Frag) : List V → Hp → VK → Prop := fun xs H Q => ∃ p ys, xs = [.ref p] ∧ (SqL K H p ys ∨ SqT K H p ys) ∧ ∀ l, H l = none → Q (.ref l) (upd H l (.lst ys))
abbrev rTupleOf (K : PySem.W.Frag) : List V → Hp → VK → Prop := fun xs H Q => ∃ p ys, xs = [.ref p] ∧ ((SqL K H p ys ∧ ∀ l, H l = none → Q (.ref l) (upd H l (.tup ys))) ∨ (SqT K H p ys ∧ Q (.ref p) H))
/-! ### words -/
inductive Wo where
  | warm | cold | same
  deriving DecidableEq
def Wo.str : Wo → Str
  | .warm => "warm"
  | .cold => "cold"
  | .same => "same"
def vW (x : Wo) : V := .str x.str
theorem Wo.str_inj {x y : Wo} (h : x.str = y.str) : x = y := by
  revert h
  cases x <;> cases y <;> first | (intro _; rfl) | (intro h; exact absurd h (by decide +kernel))
theorem vW_inj {x y : Wo} (h : vW x = vW y) : x = y := Wo.str_inj (V.str.inj h)
def ab (i : Int) : Int := if i < 0 then -i else i
def word (far near : Int) : Wo := if near < far then .warm else if far < near then .cold else .same
def mv (t e l : Int) : Wo := word (ab (t - e)) (ab (t - l))
def wordsOf (t : Int) : List Int → List Wo
  | e :: l :: r => mv t e l :: wordsOf t (l :: r)
  | _ => []
theorem wordsOf_len (t : Int) : ∀ ns : List Int, (wordsOf t ns).length = ns.length - 1
  | [] => rfl
  | [_] => rfl
  | x :: y :: r => by
    show (wordsOf t (y :: r)).length + 1 = (y :: r).length + 1 - 1
    rw [wordsOf_len t (y :: r)]
    simp
theorem wordsOf_get (t : Int) : ∀ (ns : List Int) (i : Nat) (x y : Int), ns[i]? = some x → ns[i + 1]? = some y → (wordsOf t ns)[i]? = some (mv t x y)
  | [], _, _, _, h, _ => by simp at h
  | [_], 0, _, _, _, h => by simp at h
  | [_], i + 1, _, _, h, _ => by simp at h
  | a :: b :: r, 0, x, y, h, h2 => by
    have e1 : a = x := Option.some.inj h
    have e2 : b = y := Option.some.inj h2
    rw [← e1, ← e2]
    rfl
  | a :: b :: r, i + 1, x, y, h, h2 => wordsOf_get t (b :: r) i x y h h2
/-! ### data -/
theorem dpI {K : PySem.W.Frag} {H : Hp} : ∀ ns : List Int, DpAll K H (ns.map V.int) (ns.map PyData.int)
  | [] => .nil
  | n :: r => .cons (.int n) (dpI r)
theorem dpW {K : PySem.W.Frag} {H : Hp} : ∀ ws : List Wo, DpAll K H (ws.map vW) (ws.map fun x => PyData.str x.str)
  | [] => .nil
  | x :: r => .cons (.str x.str) (dpW r)
theorem shI : ∀ ns : List Int, PyData.canLayAll0 (ns.map PyData.int) = true ∧ PyData.depthAll (ns.map PyData.int) = 0
  | [] => ⟨rfl, rfl⟩
  | n :: r => by
    obtain ⟨h1, h2⟩ := shI r
    constructor
    · show (PyData.canLay0 (PyData.int n) && PyData.canLayAll0 (r.map PyData.int)) = true
      rw [h1] <;> rfl
    · show max (PyData.depth (PyData.int n)) (PyData.depthAll (r.map PyData.int)) = 0
      rw [h2] <;> rfl
theorem strOk_w (x : Wo) : PyData.canLay0 (PyData.str x.str) = true := by
  cases x <;> decide +kernel
theorem shW : ∀ ws : List Wo, PyData.canLayAll0 (ws.map fun x => PyData.str x.str) = true ∧ PyData.depthAll (ws.map fun x => PyData.str x.str) = 0
  | [] => ⟨rfl, rfl⟩
  | x :: r => by
    obtain ⟨h1, h2⟩ := shW r
    constructor
    · show (PyData.canLay0 (PyData.str x.str) && PyData.canLayAll0 (r.map fun x => PyData.str x.str)) = true
      rw [h1, strOk_w] <;> rfl
    · show max (PyData.depth (PyData.str x.str)) (PyData.depthAll (r.map fun x => PyData.str x.str)) = 0
      rw [h2] <;> rfl
theorem shaped_l {ds : List PyData} (h : PyData.canLayAll0 ds = true ∧ PyData.depthAll ds = 0) : SeqAt.shaped (.list ds) = true := by
  unfold SeqAt.shaped
  have e1 : PyData.canLay0 (.list ds) = true := h.1
  have e2 : PyData.depth (.list ds) = 1 := by
    show PyData.depthAll ds + 1 = 1
    rw [h.2]
  rw [e1, e2] <;> rfl
theorem shaped_t {ds : List PyData} (h : PyData.canLayAll0 ds = true ∧ PyData.depthAll ds = 0) : SeqAt.shaped (.tuple ds) = true := by
  unfold SeqAt.shaped
  have e1 : PyData.canLay0 (.tuple ds) = true := h.1
  have e2 : PyData.depth (.tuple ds) = 1 := by
    show PyData.depthAll ds + 1 = 1
    rw [h.2]
  rw [e1, e2] <;> rfl
theorem eqvI : ∀ ns ms : List Int, PyData.eqvAll (ns.map PyData.int) (ms.map PyData.int) = decide (ns = ms)
  | [], [] => rfl
  | [], _ :: _ => rfl
  | _ :: _, [] => rfl
  | n :: r, m :: q => by
    show (PyData.eqv (PyData.int n) (PyData.int m) && PyData.eqvAll (r.map PyData.int) (q.map PyData.int)) = _
    rw [eqvI r q]
    show ((n == m) && decide (r = q)) = _
    by_cases h1 : n = m <;> by_cases h2 : r = q <;> simp [h1, h2]
theorem eqvW : ∀ ns ms : List Wo, PyData.eqvAll (ns.map fun x => PyData.str x.str) (ms.map fun x => PyData.str x.str) = decide (ns = ms)
  | [], [] => rfl
  | [], _ :: _ => rfl
  | _ :: _, [] => rfl
  | n :: r, m :: q => by
    show (PyData.eqv (PyData.str n.str) (PyData.str m.str) && PyData.eqvAll (r.map fun x => PyData.str x.str) (q.map fun x => PyData.str x.str)) = _
    rw [eqvW r q]
    show ((n.str == m.str) && decide (r = q)) = _
    have e : (n.str == m.str) = decide (n = m) := by
      cases n <;> cases m <;> decide +kernel
    rw [e]
    by_cases h1 : n = m <;> by_cases h2 : r = q <;> simp [h1, h2]
/-- two lists of ints, of words, compared -/
theorem eqII {K : PySem.W.Frag} {H : Hp} {a b : Addr} {ns ms : List Int} {Q : VK} (h1 : SqL K H a (ns.map V.int)) (h2 : SqL K H b (ms.map V.int)) (q : Q (.bl (decide (ns = ms))) H) : rEqD K (.ref a) (.ref b) H Q := by
  refine ⟨_, _, .lst h1 (dpI ns), .lst h2 (dpI ms), shaped_l (shI ns), shaped_l (shI ms), ?_⟩
  show Q (.bl (PyData.eqvAll (ns.map PyData.int) (ms.map PyData.int))) H
  rw [eqvI]
  exact q
theorem neII {K : PySem.W.Frag} {H : Hp} {a b : Addr} {ns ms : List Int} {Q : VK} (h1 : SqL K H a (ns.map V.int)) (h2 : SqL K H b (ms.map V.int)) (q : Q (.bl (!decide (ns = ms))) H) : rNeD K (.ref a) (.ref b) H Q := by
  refine ⟨_, _, .lst h1 (dpI ns), .lst h2 (dpI ms), shaped_l (shI ns), shaped_l (shI ms), ?_⟩
  show Q (.bl (!PyData.eqvAll (ns.map PyData.int) (ms.map PyData.int))) H
  rw [eqvI]
  exact q
theorem eqWW {K : PySem.W.Frag} {H : Hp} {a b : Addr} {ns ms : List Wo} {Q : VK} (h1 : SqL K H a (ns.map vW)) (h2 : SqL K H b (ms.map vW)) (q : Q (.bl (decide (ns = ms))) H) : rEqD K (.ref a) (.ref b) H Q := by
  refine ⟨_, _, .lst h1 (dpW ns), .lst h2 (dpW ms), shaped_l (shW ns), shaped_l (shW ms), ?_⟩
  show Q (.bl (PyData.eqvAll (ns.map fun x => PyData.str x.str) (ms.map fun x => PyData.str x.str))) H
  rw [eqvW]
  exact q
theorem neWW {K : PySem.W.Frag} {H : Hp} {a b : Addr} {ns ms : List Wo} {Q : VK} (h1 : SqL K H a (ns.map vW)) (h2 : SqL K H b (ms.map vW)) (q : Q (.bl (!decide (ns = ms))) H) : rNeD K (.ref a) (.ref b) H Q := by
  refine ⟨_, _, .lst h1 (dpW ns), .lst h2 (dpW ms), shaped_l (shW ns), shaped_l (shW ms), ?_⟩
  show Q (.bl (!PyData.eqvAll (ns.map fun x => PyData.str x.str) (ms.map fun x => PyData.str x.str))) H
  rw [eqvW]
  exact q
theorem eqTT {K : PySem.W.Frag} {H : Hp} {a b : Addr} {ns ms : List Int} {Q : VK} (h1 : SqT K H a (ns.map V.int)) (h2 : SqT K H b (ms.map V.int)) (q : Q (.bl (decide (ns = ms))) H) : rEqD K (.ref a) (.ref b) H Q := by
  refine ⟨_, _, .tup h1 (dpI ns), .tup h2 (dpI ms), shaped_t (shI ns), shaped_t (shI ms), ?_⟩
  show Q (.bl (PyData.eqvAll (ns.map PyData.int) (ms.map PyData.int))) H
  rw [eqvI]
  exact q
theorem neTT {K : PySem.W.Frag} {H : Hp} {a b : Addr} {ns ms : List Int} {Q : VK} (h1 : SqT K H a (ns.map V.int)) (h2 : SqT K H b (ms.map V.int)) (q : Q (.bl (!decide (ns = ms))) H) : rNeD K (.ref a) (.ref b) H Q := by
  refine ⟨_, _, .tup h1 (dpI ns), .tup h2 (dpI ms), shaped_t (shI ns), shaped_t (shI ms), ?_⟩
  show Q (.bl (!PyData.eqvAll (ns.map PyData.int) (ms.map PyData.int))) H
  rw [eqvI]
  exact q
/-! ### comprehensions, slices -/
theorem given_all (n : Nat) (v : Nat → V) : Evl.given n (fun _ => true) v = (List.range n).map v := by
  unfold Evl.given
  rw [List.filter_eq_self.mpr (fun _ _ => rfl)]
theorem range_map (ns : List Int) (F : Int → V) : (List.range ns.length).map (fun i => F (ns.getD i 0)) = ns.map F := by
  apply List.ext_getElem?
  intro i
  rw [List.getElem?_map, List.getElem?_map]
  by_cases h : i < ns.length
  · rw [List.getElem?_range h, List.getElem?_eq_getElem h]
    show some (F (ns.getD i 0)) = some (F ns[i])
    rw [List.getD_eq_getElem?_getD, List.getElem?_eq_getElem h]
    rfl
  · rw [List.getElem?_eq_none (by rw [List.length_range]; omega), List.getElem?_eq_none (by omega)]
    rfl
/-- a list of ints, each sent on -/
theorem el_map {K : PySem.W.Frag} {σ : L2.St} {H : Hp} {a : Addr} {ns : List Int} {tl te : TE} {j : Nat} {vs : List Nat} (F : Int → V) (h : Evl.Ev tl σ H (.ref a)) (hx : SqL K H a (ns.map V.int)) (hz : ns.length ≤ 40000)
    (hw : ∀ x, wipe ((wipe σ vs).set j (some x)) vs = wipe σ vs) (he : ∀ n H1, Ex H H1 → n ∈ ns → Evl.Ev te ((wipe σ vs).set j (some (.int n))) H1 (F n)) : Evl.EvL (tLc (iList K tl) (gName j) tYes te vs) σ H (ns.map F) := by
  have r := Evl.el_lcL (K := K) (xs := ns.map V.int) (te := te) (t := tYes) (vs := vs) (j := j) (fun _ => true) (fun i => F (ns.getD i 0)) h hx (by rw [List.length_map]; exact hz) hw (fun i x H1 _ _ => fun H2 _ Q q => q H2 (Ex.refl H2)) (fun i x H1 e hi _ => by
    rw [List.getElem?_map] at hi
    by_cases hl : i < ns.length
    · rw [List.getElem?_eq_getElem hl] at hi
      have ex : x = .int ns[i] := (Option.some.inj hi).symm
      have eg : ns.getD i 0 = ns[i] := by
        rw [List.getD_eq_getElem?_getD, List.getElem?_eq_getElem hl]
        rfl
      rw [ex]
      show Evl.Ev te ((wipe σ vs).set j (some (.int ns[i]))) H1 (F (ns.getD i 0))
      rw [eg]
      exact he ns[i] H1 e (List.getElem_mem hl)
    · rw [List.getElem?_eq_none (by omega)] at hi
      cases hi)
  rw [given_all, List.length_map, range_map] at r
  exact r
/-- the same of any list -/
theorem range_mapG {α : Type} (d : α) (ns : List α) (F : α → V) : (List.range ns.length).map (fun i => F (ns.getD i d)) = ns.map F := by
  apply List.ext_getElem?
  intro i
  rw [List.getElem?_map, List.getElem?_map]
  by_cases h : i < ns.length
  · rw [List.getElem?_range h, List.getElem?_eq_getElem h]
    show some (F (ns.getD i d)) = some (F ns[i])
    rw [List.getD_eq_getElem?_getD, List.getElem?_eq_getElem h]
    rfl
  · rw [List.getElem?_eq_none (by rw [List.length_range]; omega), List.getElem?_eq_none (by omega)]
    rfl
theorem el_mapG {α : Type} (d : α) (em : α → V) {K : PySem.W.Frag} {σ : L2.St} {H : Hp} {a : Addr} {ns : List α} {tl te : TE} {j : Nat} {vs : List Nat} (F : α → V) (h : Evl.Ev tl σ H (.ref a)) (hx : SqL K H a (ns.map em)) (hz : ns.length ≤ 40000)
    (hw : ∀ x, wipe ((wipe σ vs).set j (some x)) vs = wipe σ vs) (he : ∀ n H1, Ex H H1 → n ∈ ns → Evl.Ev te ((wipe σ vs).set j (some (em n))) H1 (F n)) : Evl.EvL (tLc (iList K tl) (gName j) tYes te vs) σ H (ns.map F) := by
  have r := Evl.el_lcL (K := K) (xs := ns.map em) (te := te) (t := tYes) (vs := vs) (j := j) (fun _ => true) (fun i => F (ns.getD i d)) h hx (by rw [List.length_map]; exact hz) hw (fun i x H1 _ _ => fun H2 _ Q q => q H2 (Ex.refl H2)) (fun i x H1 e hi _ => by
    rw [List.getElem?_map] at hi
    by_cases hl : i < ns.length
    · rw [List.getElem?_eq_getElem hl] at hi
      have ex : x = em ns[i] := (Option.some.inj hi).symm
      have eg : ns.getD i d = ns[i] := by
        rw [List.getD_eq_getElem?_getD, List.getElem?_eq_getElem hl]
        rfl
      rw [ex]
      show Evl.Ev te ((wipe σ vs).set j (some (em ns[i]))) H1 (F (ns.getD i d))
      rw [eg]
      exact he ns[i] H1 e (List.getElem_mem hl)
    · rw [List.getElem?_eq_none (by omega)] at hi
      cases hi)
  rw [given_all, List.length_map, range_mapG] at r
  exact r
/-- the whole numbers from lo up to below hi -/
def rng (lo hi : Int) : List Int := (List.range (hi - lo).toNat).map fun i : Nat => lo + (i : Int)
theorem mem_rng {lo hi n : Int} : n ∈ rng lo hi ↔ lo ≤ n ∧ n < hi := by
  unfold rng
  rw [List.mem_map]
  constructor
  · rintro ⟨k, hk, rfl⟩
    have := List.mem_range.mp hk
    omega
  · intro h
    exact ⟨(n - lo).toNat, List.mem_range.mpr (by omega), by omega⟩
theorem rng_len (lo hi : Int) : (rng lo hi).length = (hi - lo).toNat := by
  unfold rng
  rw [List.length_map, List.length_range]
theorem given_rng (lo hi : Int) (f : Int → Bool) (F : Int → V) : Evl.given (hi - lo).toNat (fun i => f (lo + (i : Int))) (fun i => F (lo + (i : Int))) = ((rng lo hi).filter f).map F := by
  unfold Evl.given rng
  rw [List.filter_map, List.map_map]
  rfl
/-- a comprehension over range(lo, hi) that keeps some -/
theorem el_rng {σ : L2.St} {H : Hp} {ta : TA} {t : TT} {te : TE} {j : Nat} {vs : List Nat} {lo hi : Int} (f : Int → Bool) (F : Int → V) (h : Evl.EvA ta σ H [.int lo, .int hi]) (hb : -30000 ≤ lo ∧ lo ≤ 30000 ∧ -30000 ≤ hi ∧ hi ≤ 10000)
    (hw : ∀ x, wipe ((wipe σ vs).set j (some x)) vs = wipe σ vs) (ht : ∀ n H1, Ex H H1 → lo ≤ n → n < hi → Evl.EvT t ((wipe σ vs).set j (some (.int n))) H1 (f n))
    (he : ∀ n H1, Ex H H1 → lo ≤ n → n < hi → f n = true → Evl.Ev te ((wipe σ vs).set j (some (.int n))) H1 (F n)) : Evl.EvL (tLc (iRng2 ta) (gName j) t te vs) σ H (((rng lo hi).filter f).map F) := fun H0 e Q q => h H0 e _ fun H1 e1 =>
  ⟨lo, hi, rfl, ⟨by omega, by omega, by omega, by omega⟩, fun Dl hD =>
    lc_range (lo := lo) (n := (hi - lo).toNat) (Evl.Cw H1 (fun i => f (lo + (i : Int))) (fun i => F (lo + (i : Int))) Dl) ⟨hD, Ex.new hD, upd_same⟩ (fun i H' hi' p =>
      ⟨hw _, Evl.cw_turn p (by omega) (ht (lo + (i : Int)) H1 (e.trans e1) (by omega) (by omega)) (fun hf => he (lo + (i : Int)) H1 (e.trans e1) (by omega) (by omega) hf)⟩)
      (fun H' p => by
        have p3 := p.2.2
        rw [given_rng] at p3
        exact q Dl H' (fresh_back e1 p.1) (e1.trans p.2.1) p3)⟩
theorem given_list (ns : List Int) (f : Int → Bool) (F : Int → V) : Evl.given ns.length (fun i => f (ns.getD i 0)) (fun i => F (ns.getD i 0)) = (ns.filter f).map F := by
  have e : (List.range ns.length).map (fun i => ns.getD i 0) = ns := by
    apply List.ext_getElem?
    intro i
    rw [List.getElem?_map]
    by_cases h : i < ns.length
    · rw [List.getElem?_range h, List.getElem?_eq_getElem h]
      show some (ns.getD i 0) = some ns[i]
      rw [List.getD_eq_getElem?_getD, List.getElem?_eq_getElem h]
      rfl
    · rw [List.getElem?_eq_none (by rw [List.length_range]; omega), List.getElem?_eq_none (by omega)]
      rfl
  unfold Evl.given
  conv => rhs; rw [← e]
  rw [List.filter_map, List.map_map]
  rfl
theorem getD_at {ns : List Int} {i : Nat} {x : V} (hi : (ns.map V.int)[i]? = some x) : ns.getD i 0 ∈ ns ∧ x = .int (ns.getD i 0) := by
  rw [List.getElem?_map] at hi
  by_cases hl : i < ns.length
  · rw [List.getElem?_eq_getElem hl] at hi
    rw [List.getD_eq_getElem?_getD, List.getElem?_eq_getElem hl]
    exact ⟨List.getElem_mem hl, (Option.some.inj hi).symm⟩
  · rw [List.getElem?_eq_none (by omega)] at hi
    cases hi
/-- a comprehension over a list, a tuple, a new tuple of ints that keeps some -/
theorem el_lst {K : PySem.W.Frag} {σ : L2.St} {H : Hp} {a : Addr} {ns : List Int} {tl te : TE} {t : TT} {j : Nat} {vs : List Nat} (f : Int → Bool) (F : Int → V) (h : Evl.Ev tl σ H (.ref a)) (hx : SqL K H a (ns.map V.int)) (hz : ns.length ≤ 40000)
    (hw : ∀ x, wipe ((wipe σ vs).set j (some x)) vs = wipe σ vs) (ht : ∀ n H1, Ex H H1 → n ∈ ns → Evl.EvT t ((wipe σ vs).set j (some (.int n))) H1 (f n))
    (he : ∀ n H1, Ex H H1 → n ∈ ns → f n = true → Evl.Ev te ((wipe σ vs).set j (some (.int n))) H1 (F n)) : Evl.EvL (tLc (iList K tl) (gName j) t te vs) σ H ((ns.filter f).map F) := by
  have r := Evl.el_lcL (K := K) (xs := ns.map V.int) (te := te) (t := t) (vs := vs) (j := j) (fun i => f (ns.getD i 0)) (fun i => F (ns.getD i 0)) h hx (by rw [List.length_map]; exact hz) hw
    (fun i x H1 e hi => by rw [(getD_at hi).2]; exact ht _ H1 e (getD_at hi).1) (fun i x H1 e hi hf => by rw [(getD_at hi).2]; exact he _ H1 e (getD_at hi).1 hf)
  rw [List.length_map, given_list] at r
  exact r
theorem el_tup {K : PySem.W.Frag} {σ : L2.St} {H : Hp} {a : Addr} {ns : List Int} {tl te : TE} {t : TT} {j : Nat} {vs : List Nat} (f : Int → Bool) (F : Int → V) (h : Evl.Ev tl σ H (.ref a)) (hx : SqT K H a (ns.map V.int)) (hz : ns.length ≤ 40000)
    (hw : ∀ x, wipe ((wipe σ vs).set j (some x)) vs = wipe σ vs) (ht : ∀ n H1, Ex H H1 → n ∈ ns → Evl.EvT t ((wipe σ vs).set j (some (.int n))) H1 (f n))
    (he : ∀ n H1, Ex H H1 → n ∈ ns → f n = true → Evl.Ev te ((wipe σ vs).set j (some (.int n))) H1 (F n)) : Evl.EvL (tLc (iTup K tl) (gName j) t te vs) σ H ((ns.filter f).map F) := fun H0 e Q q => h H0 e _ fun H1 e1 =>
  ⟨a, rfl, ⟨_, ex_t (e.trans e1) hx⟩, fun Dl hD =>
    lc_tup (xs := ns.map V.int) (Evl.Cw H1 (fun i => f (ns.getD i 0)) (fun i => F (ns.getD i 0)) Dl) ⟨hD, Ex.new hD, upd_same⟩ (fun i H' _ p => ex_t ((e.trans e1).trans p.2.1) hx) (fun i x H' hi p => by
      have hl : i < ns.length := by
        have := (List.getElem?_eq_some_iff.mp hi).1
        rw [List.length_map] at this
        exact this
      rw [(getD_at hi).2]
      exact ⟨hw _, Evl.cw_turn p (by omega) (ht _ H1 (e.trans e1) (getD_at hi).1) (fun hf => he _ H1 (e.trans e1) (getD_at hi).1 hf)⟩)
      (fun H' p => by
        have p3 := p.2.2
        rw [List.length_map, given_list] at p3
        exact q Dl H' (fresh_back e1 p.1) (e1.trans p.2.1) p3)⟩
theorem el_tupU {K : PySem.W.Frag} {σ : L2.St} {H : Hp} {ns : List Int} {tl te : TE} {t : TT} {j : Nat} {vs : List Nat} (f : Int → Bool) (F : Int → V) (h : Evl.EvU tl σ H (ns.map V.int)) (hz : ns.length ≤ 40000)
    (hw : ∀ x, wipe ((wipe σ vs).set j (some x)) vs = wipe σ vs) (ht : ∀ n H1, Ex H H1 → n ∈ ns → Evl.EvT t ((wipe σ vs).set j (some (.int n))) H1 (f n))
    (he : ∀ n H1, Ex H H1 → n ∈ ns → f n = true → Evl.Ev te ((wipe σ vs).set j (some (.int n))) H1 (F n)) : Evl.EvL (tLc (iTup K tl) (gName j) t te vs) σ H ((ns.filter f).map F) := fun H0 e Q q => h H0 e _ fun a H1 _ e1 hx =>
  ⟨a, rfl, ⟨_, SqT.of hx⟩, fun Dl hD =>
    lc_tup (xs := ns.map V.int) (Evl.Cw H1 (fun i => f (ns.getD i 0)) (fun i => F (ns.getD i 0)) Dl) ⟨hD, Ex.new hD, upd_same⟩ (fun i H' _ p => SqT.of (p.2.1 _ _ hx)) (fun i x H' hi p => by
      have hl : i < ns.length := by
        have := (List.getElem?_eq_some_iff.mp hi).1
        rw [List.length_map] at this
        exact this
      rw [(getD_at hi).2]
      exact ⟨hw _, Evl.cw_turn p (by omega) (ht _ H1 (e.trans e1) (getD_at hi).1) (fun hf => he _ H1 (e.trans e1) (getD_at hi).1 hf)⟩)
      (fun H' p => by
        have p3 := p.2.2
        rw [List.length_map, given_list] at p3
        exact q Dl H' (fresh_back e1 p.1) (e1.trans p.2.1) p3)⟩
theorem yes_ev {σ : L2.St} {H : Hp} : Evl.EvT tYes σ H true := fun H1 _ _ q => q H1 (Ex.refl H1)
theorem filter_yes (ns : List Int) : ns.filter (fun _ => true) = ns := List.filter_eq_self.mpr fun _ _ => rfl
/-- a loop over enumerate of a list that stays -/
theorem for_enum {K : PySem.W.Frag} {a : Addr} {xs : List V} {g : TG} {tb : TS} {D : Ends} {σ : L2.St} {H : Hp} (Pv : Nat → L2.St → Hp → Prop) (h0 : Pv 0 σ H) (hl : ∀ i σ H, i ≤ xs.length → Pv i σ H → SqL K H a xs)
    (hs : ∀ (i : Nat) (x : V) (T : Addr) (σ : L2.St) (H : Hp), xs[i]? = some x → Pv i σ H → H T = none → g (.ref T) σ (upd H T (.tup [.int (i : Nat), x])) fun σ2 H2 => tb { D with nx := Pv (i + 1), ct := Pv (i + 1), bk := D.nx } σ2 H2) (hd : ∀ σ H, Pv xs.length σ H → D.nx σ H) :
    ∃ W : Nat → Nat → L2.St → Hp → Prop, (∃ m, W 0 m σ H) ∧ ∀ i m σ H, W i m σ H →
      ((Ite K a).stop i H ∧ D.nx σ H) ∨ ((Ite K a).go i H ∧ ∃ N : L2.St → Hp → Prop, (∀ σ' H', N σ' H' → ∃ m', m' < m ∧ W (i + 1) m' σ' H') ∧ ∀ v H', (Ite K a).yld i H v H' → g v σ H' fun σ2 H2 => tb { D with nx := N, ct := N, bk := D.nx } σ2 H2) := by
  refine ⟨fun i m σ H => i + m = xs.length ∧ Pv i σ H, ⟨xs.length, Nat.zero_add _, h0⟩, ?_⟩
  rintro i m σ H ⟨hm, p⟩
  have hq := hl i σ H (by omega) p
  by_cases hi : i < xs.length
  · refine .inr ⟨⟨xs, xs[i], hq, List.getElem?_eq_getElem hi⟩, Pv (i + 1), fun σ' H' p' => ⟨m - 1, by omega, by omega, p'⟩, ?_⟩
    rintro v H' ⟨T, x, rfl, nT, rfl, hx⟩
    exact hs i x T σ H (hx xs hq) p nT
  · have e : i = xs.length := by omega
    rw [e] at p
    exact .inl ⟨⟨xs, hq, by omega⟩, hd σ H p⟩
theorem cut1 (xs : List V) : cutV xs (some 1) none = xs.drop 1 := by
  unfold cutV
  have e1 : HT.sIx xs.length 0 (some 1) = min 1 xs.length := HT.sIx_nat xs.length 0 1
  rw [e1, HT.sIx_none]
  match xs with
  | [] => rfl
  | x :: r =>
    have e2 : min 1 (x :: r).length = 1 := Nat.min_eq_left (by simp)
    rw [e2]
    show List.take (r.length + 1 - 1) r = r
    rw [Nat.add_sub_cancel, List.take_length]
/-- a list of places of a path of length l -/
def Places (l : Int) (ns : List Int) : Prop := ∀ n ∈ ns, 1 ≤ n ∧ n ≤ l
/-- the places at which just these words are answered -/
def lies (l : Int) (st : List Int) (ws : List Wo) : List Int := (rng 1 (l + 1)).filter fun t => decide (wordsOf t st = ws)
/-! ### bags -/
def Bag1 (H : Hp) (b : Addr) : Prop := ∃ (d : Addr) (c : Int) (ds : List Int), H b = some (.lst [.ref d, .int c]) ∧ H d = some (.lst (ds.map V.int)) ∧ ds.length = 400
def Bags (bs : List Addr) (H : Hp) : Prop := ∀ b ∈ bs, Bag1 H b
/-- all that is no bag stays -/
def Kp (bs : List Addr) (H H' : Hp) : Prop := ∀ a o, a ∉ bs → H a = some o → H' a = some o
theorem Kp.refl (bs : List Addr) (H : Hp) : Kp bs H H := fun _ _ _ h => h
theorem Kp.trans {bs : List Addr} {H H1 H2 : Hp} (a : Kp bs H H1) (b : Kp bs H1 H2) : Kp bs H H2 := fun c o n h => b c o n (a c o n h)
theorem Kp.ex {bs : List Addr} {H H' : Hp} (e : Ex H H') : Kp bs H H' := fun a o _ h => e a o h
theorem Bag1.ex {H H' : Hp} {b : Addr} (e : Ex H H') (h : Bag1 H b) : Bag1 H' b := by
  obtain ⟨d, c, ds, h1, h2, h3⟩ := h
  exact ⟨d, c, ds, e _ _ h1, e _ _ h2, h3⟩
theorem Bags.ex {bs : List Addr} {H H' : Hp} (e : Ex H H') (h : Bags bs H) : Bags bs H' := fun b hb => (h b hb).ex e
theorem Bags.fresh {bs : List Addr} {H : Hp} (h : Bags bs H) {p : Addr} (n : H p = none) : p ∉ bs := fun hp => by
  obtain ⟨d, c, ds, h1, _⟩ := h p hp
  rw [n] at h1
  cases h1
/-- an object that is no bag, and no bag's draws, may change -/
theorem Bags.mut {bs : List Addr} {H : Hp} {p : Addr} {o : HO} (h : Bags bs H) (n1 : p ∉ bs) (n2 : ∀ d ds, H d = some (.lst (List.map V.int ds)) → ds.length = 400 → d ≠ p) : Bags bs (upd H p o) := fun b hb => by
  obtain ⟨d, c, ds, h1, h2, h3⟩ := h b hb
  have e1 : b ≠ p := fun e => n1 (e ▸ hb)
  exact ⟨d, c, ds, by rw [upd_ne e1]; exact h1, by rw [upd_ne (n2 d ds h2 h3)]; exact h2, h3⟩
/-- the list of the bags is none of them -/
theorem bags_list {bs : List Addr} {H : Hp} {L : Addr} (hB : Bags bs H) (hL : H L = some (.lst (bs.map V.ref))) : L ∉ bs := fun z => by
  obtain ⟨d, c, ds, h1, _⟩ := hB L z
  rw [hL] at h1
  have e2 := HO.lst.inj (Option.some.inj h1)
  match bs, e2 with
  | [_, _], e2 => simp at e2
theorem ref_at {bs : List Addr} {i : Nat} {x : V} (hx : (bs.map V.ref)[i]? = some x) : ∃ b, b ∈ bs ∧ x = V.ref b := by
  rw [List.getElem?_map] at hx
  cases hg : bs[i]? with
  | none =>
    rw [hg] at hx
    cases hx
  | some b =>
    rw [hg] at hx
    exact ⟨b, List.mem_of_getElem? hg, (Option.some.inj hx).symm⟩
theorem int_at {ns : List Int} {i : Nat} {x : V} (hx : (ns.map V.int)[i]? = some x) : ∃ n, ns[i]? = some n ∧ x = V.int n := by
  rw [List.getElem?_map] at hx
  cases hg : ns[i]? with
  | none =>
    rw [hg] at hx
    cases hx
  | some b =>
    rw [hg] at hx
    exact ⟨b, rfl, (Option.some.inj hx).symm⟩
theorem Kp.mut {bs : List Addr} {H0 H : Hp} {p : Addr} {o : HO} (k : Kp bs H0 H) (n : H0 p = none) : Kp bs H0 (upd H p o) := fun a u na h => by
  rw [upd_ne (ne_of_none h n)]
  exact k a u na h
theorem Kp.new {bs : List Addr} {H0 H : Hp} {p : Addr} {o : HO} (k : Kp bs H0 H) (n : H p = none) : Kp bs H0 (upd H p o) := fun a u na h => by
  rw [upd_ne (ne_of_none (k a u na h) n)]
  exact k a u na h
end Wc
namespace Wc
open PySem PySem.Spec PyProof.Rows L2
open Evl (Ex ex_l ex_t fresh_back)
def sp_is_whole (K : PySem.W.Frag) : Sp := fun vs H Q _ => ∃ i : Int, vs = [.int i] ∧ Q (.bl true) H
abbrev N_is_whole : List Str := ["value"]
def t_is_whole (K : PySem.W.Frag) : TS := (tRet (tAndV (tCB (rIsi K) (tCons (tVar 0) (tCons (tC (.ty "int")) tNil))) (tNotV (tCB (rIsi K) (tCons (tVar 0) (tCons (tC (.ty "bool")) tNil))))))
theorem pure_is_whole {K : PySem.W.Frag} {vs : List V} {H : Hp} {Q : VK} {E : XK} (h : sp_is_whole K vs H Q E) : t_is_whole K { nx := fun _ H' => Q .non H', rt := Q } (start N_is_whole vs) H := by
  obtain ⟨i, rfl, q⟩ := h
  refine ⟨_, rfl, .int i, .ty "int", _, _, true, rfl, .ty "int", .base (.int i), kit_ty (by decide +kernel), true, rfl, iteT ?_⟩
  exact ⟨_, rfl, .int i, .ty "bool", _, _, false, rfl, .ty "bool", .base (.int i), kit_ty (by decide +kernel), false, rfl, q⟩
theorem len_is_whole {K : PySem.W.Frag} {vs : List V} {H : Hp} {Q : VK} {E : XK} (h : sp_is_whole K vs H Q E) : vs.length = 1 := by
  obtain ⟨i, rfl, _⟩ := h
  rfl
def sp_is_place (K : PySem.W.Frag) : Sp := fun vs H Q _ => ∃ v l : Int, vs = [.int v, .int l] ∧ Q (.bl (decide (1 ≤ v ∧ v ≤ l))) H
abbrev N_is_place : List Str := ["value", "length"]
def t_is_place (K : PySem.W.Frag) : TS := (tRet (tAndV (tCall (sp_is_whole K) [] E0 (tCons (tVar 0) tNil)) (tChain (rI0 fun i j => .bl (decide (i ≤ j))) (rI0 fun i j => .bl (decide (i ≤ j))) (tC (.int 1)) (tVar 0) (tVar 1))))
theorem pure_is_place {K : PySem.W.Frag} {vs : List V} {H : Hp} {Q : VK} {E : XK} (h : sp_is_place K vs H Q E) : t_is_place K { nx := fun _ H' => Q .non H', rt := Q } (start N_is_place vs) H := by
  obtain ⟨v, l, rfl, q⟩ := h
  refine ⟨_, rfl, v, rfl, true, rfl, iteT ⟨_, rfl, 1, v, rfl, rfl, decide ((1 : Int) ≤ v), rfl, ?_⟩⟩
  by_cases h1 : (1 : Int) ≤ v
  · rw [decide_eq_true h1]
    refine iteT ⟨_, rfl, v, l, rfl, rfl, ?_⟩
    have e : decide (v ≤ l) = decide (1 ≤ v ∧ v ≤ l) := by simp [h1]
    show Q (.bl (decide (v ≤ l))) H
    rw [e]
    exact q
  · rw [decide_eq_false h1]
    refine iteF ?_
    have e : false = decide (1 ≤ v ∧ v ≤ l) := by simp [h1]
    show Q (.bl false) H
    rw [e]
    exact q
theorem len_is_place {K : PySem.W.Frag} {vs : List V} {H : Hp} {Q : VK} {E : XK} (h : sp_is_place K vs H Q E) : vs.length = 2 := by
  obtain ⟨v, l, rfl, _⟩ := h
  rfl
def sp_check_length (K : PySem.W.Frag) : Sp := fun vs H Q _ => ∃ l : Int, vs = [.int l] ∧ 1 ≤ l ∧ l ≤ 60 ∧ Q .non H
abbrev N_check_length : List Str := ["length"]
def t_check_length (K : PySem.W.Frag) : TS := (tIfS (tNot (tB (tCall (sp_is_place K) [] E0 (tCons (tVar 0) (tCons (tC (.int 60)) tNil))))) tNever tNext)
theorem pure_check_length {K : PySem.W.Frag} {vs : List V} {H : Hp} {Q : VK} {E : XK} (h : sp_check_length K vs H Q E) : t_check_length K { nx := fun _ H' => Q .non H', rt := Q } (start N_check_length vs) H := by
  obtain ⟨l, rfl, h1, h2, q⟩ := h
  exact ⟨_, rfl, l, 60, rfl, _, rfl, iteNS ⟨h1, h2⟩ q⟩
theorem len_check_length {K : PySem.W.Frag} {vs : List V} {H : Hp} {Q : VK} {E : XK} (h : sp_check_length K vs H Q E) : vs.length = 1 := by
  obtain ⟨l, rfl, _⟩ := h
  rfl
def sp_check_going_length (K : PySem.W.Frag) : Sp := fun vs H Q _ => ∃ l : Int, vs = [.int l] ∧ 1 ≤ l ∧ l ≤ 16 ∧ Q .non H
abbrev N_check_going_length : List Str := ["length"]
def t_check_going_length (K : PySem.W.Frag) : TS := (tSeq (tDrop (tCall (sp_check_length K) [] E0 (tCons (tVar 0) tNil)))
  (tIfS (tTest (tOp (rI0 fun i j => .bl (decide (j < i))) (tVar 0) (tC (.int 16)))) tNever tNext))
theorem pure_check_going_length {K : PySem.W.Frag} {vs : List V} {H : Hp} {Q : VK} {E : XK} (h : sp_check_going_length K vs H Q E) : t_check_going_length K { nx := fun _ H' => Q .non H', rt := Q } (start N_check_going_length vs) H := by
  obtain ⟨l, rfl, h1, h2, q⟩ := h
  refine ⟨_, rfl, l, rfl, h1, by omega, _, rfl, l, 16, rfl, rfl, _, rfl, ite2 (fun e => ?_) (fun _ => q)⟩
  have := of_decide_eq_true e
  omega
theorem len_check_going_length {K : PySem.W.Frag} {vs : List V} {H : Hp} {Q : VK} {E : XK} (h : sp_check_going_length K vs H Q E) : vs.length = 1 := by
  obtain ⟨l, rfl, _⟩ := h
  rfl
def sp_check_place (K : PySem.W.Frag) : Sp := fun vs H Q _ => ∃ p l : Int, vs = [.int p, .int l] ∧ 1 ≤ p ∧ p ≤ l ∧ Q .non H
abbrev N_check_place : List Str := ["place", "length"]
def t_check_place (K : PySem.W.Frag) : TS := (tIfS (tNot (tB (tCall (sp_is_place K) [] E0 (tCons (tVar 0) (tCons (tVar 1) tNil))))) tNever tNext)
theorem pure_check_place {K : PySem.W.Frag} {vs : List V} {H : Hp} {Q : VK} {E : XK} (h : sp_check_place K vs H Q E) : t_check_place K { nx := fun _ H' => Q .non H', rt := Q } (start N_check_place vs) H := by
  obtain ⟨p, l, rfl, h1, h2, q⟩ := h
  exact ⟨_, rfl, _, rfl, p, l, rfl, _, rfl, iteNS ⟨h1, h2⟩ q⟩
theorem len_check_place {K : PySem.W.Frag} {vs : List V} {H : Hp} {Q : VK} {E : XK} (h : sp_check_place K vs H Q E) : vs.length = 2 := by
  obtain ⟨p, l, rfl, _⟩ := h
  rfl
def sp_check_stretch (K : PySem.W.Frag) : Sp := fun vs H Q _ => ∃ (s : Addr) (l a b : Int), vs = [.ref s, .int l] ∧ H s = some (.tup [.int a, .int b]) ∧ 1 ≤ a ∧ a ≤ b ∧ b ≤ l ∧ Q .non H
abbrev N_check_stretch : List Str := ["stretch", "length", "low", "high"]
def t_check_stretch (K : PySem.W.Frag) : TS := (tSeq (tIfS (tOr (tNot (tB (tCB (rIsi K) (tCons (tVar 0) (tCons (tC (.ty "tuple")) tNil))))) (tTest (tOp rNe (tCB (rLenQ K) (tCons (tVar 0) tNil)) (tC (.int 2))))) tNever tNext)
  (tSeq (tAsg (tVar 0) (gTup K 2 (gCons (gName 2) (gCons (gName 3) gNil))))
  (tIfS (tOr (tNot (tB (tCall (sp_is_place K) [] E0 (tCons (tVar 2) (tCons (tVar 1) tNil))))) (tOr (tNot (tB (tCall (sp_is_place K) [] E0 (tCons (tVar 3) (tCons (tVar 1) tNil))))) (tTest (tOp (rI0 fun i j => .bl (decide (j < i))) (tVar 2) (tVar 3))))) tNever tNext)))
theorem pure_check_stretch {K : PySem.W.Frag} {vs : List V} {H : Hp} {Q : VK} {E : XK} (h : sp_check_stretch K vs H Q E) : t_check_stretch K { nx := fun _ H' => Q .non H', rt := Q } (start N_check_stretch vs) H := by
  obtain ⟨s, l, a, b, rfl, hs, h1, h2, h3, q⟩ := h
  refine ⟨_, rfl, .ref s, .ty "tuple", _, _, true, rfl, .ty "tuple", .base (.tup hs), kit_ty (by decide +kernel), true, rfl, iteF ?_⟩
  refine ⟨_, rfl, s, _, rfl, .inr (SqT.of hs), rfl, _, rfl, ite2 (fun e => absurd e Bool.false_ne_true) (fun _ => ?_)⟩
  refine ⟨_, rfl, s, _, rfl, SqT.of hs, rfl, _, _, rfl, _, [], rfl, rfl, ?_⟩
  refine ⟨_, rfl, _, rfl, a, l, rfl, _, rfl, ?_⟩
  rw [decide_eq_true (show 1 ≤ a ∧ a ≤ l from ⟨h1, by omega⟩)]
  refine iteF ⟨_, rfl, _, rfl, b, l, rfl, _, rfl, ?_⟩
  rw [decide_eq_true (show 1 ≤ b ∧ b ≤ l from ⟨by omega, h3⟩)]
  refine iteF ⟨_, rfl, _, rfl, a, b, rfl, rfl, _, rfl, ite2 (fun e => ?_) (fun _ => q)⟩
  have := of_decide_eq_true e
  omega
theorem len_check_stretch {K : PySem.W.Frag} {vs : List V} {H : Hp} {Q : VK} {E : XK} (h : sp_check_stretch K vs H Q E) : vs.length = 2 := by
  obtain ⟨s, l, a, b, rfl, _⟩ := h
  rfl
/-! ### paths: stretches, mirrors -/
theorem rng_nil {lo hi : Int} (h : hi ≤ lo) : rng lo hi = [] := by
  unfold rng
  have e : (hi - lo).toNat = 0 := by omega
  rw [e]
  rfl
theorem rng_cons {lo hi : Int} (h : lo < hi) : rng lo hi = lo :: rng (lo + 1) hi := by
  unfold rng
  have e : (hi - lo).toNat = (hi - (lo + 1)).toNat + 1 := by omega
  rw [e, List.range_succ_eq_map, List.map_cons, List.map_map]
  congr 1
  · exact Int.add_zero lo
  · refine List.map_congr_left fun k _ => ?_
    show lo + ((k + 1 : Nat) : Int) = lo + 1 + (k : Int)
    omega
theorem rng_snoc {lo hi : Int} (h : lo ≤ hi) : rng lo (hi + 1) = rng lo hi ++ [hi] := by
  unfold rng
  have e : (hi + 1 - lo).toNat = (hi - lo).toNat + 1 := by omega
  rw [e, List.range_succ, List.map_append]
  congr 1
  show [lo + (((hi - lo).toNat : Nat) : Int)] = [hi]
  congr 1
  omega
/-- what a convex wish leaves of a stretch is a stretch -/
theorem rng_convex {p : Int → Bool} (hp : ∀ x y z, x < y → y < z → p x = true → p z = true → p y = true) : ∀ (n : Nat) (lo hi : Int), (hi - lo).toNat = n → ∃ a b, (rng lo hi).filter p = rng a b
  | 0, lo, hi, hn => ⟨0, 0, by rw [rng_nil (by omega), rng_nil (by omega)]; rfl⟩
  | n + 1, lo, hi, hn => by
    have hlt : lo < hi := by omega
    obtain ⟨a, b, e⟩ := rng_convex hp n (lo + 1) hi (by omega)
    rw [rng_cons hlt]
    cases hl : p lo with
    | false =>
      rw [List.filter_cons_of_neg (by rw [hl]; decide)]
      exact ⟨a, b, e⟩
    | true =>
      rw [List.filter_cons_of_pos hl, e]
      by_cases hab : a < b
      · have ha : a ∈ (rng (lo + 1) hi).filter p := by
          rw [e]
          exact mem_rng.mpr ⟨by omega, hab⟩
        obtain ⟨m1, m2⟩ := List.mem_filter.mp ha
        have m3 := mem_rng.mp m1
        have q : p (lo + 1) = true := by
          by_cases z : a = lo + 1
          · rw [← z]
            exact m2
          · exact hp lo (lo + 1) a (by omega) (by omega) hl m2
        have m4 : lo + 1 ∈ rng a b := by
          rw [← e]
          exact List.mem_filter.mpr ⟨mem_rng.mpr ⟨by omega, by omega⟩, q⟩
        have m5 := mem_rng.mp m4
        have z : a = lo + 1 := by omega
        exact ⟨lo, b, by rw [rng_cons (show lo < b by omega), z]⟩
      · rw [rng_nil (by omega : b ≤ a)]
        exact ⟨lo, lo + 1, by rw [rng_cons (by omega), rng_nil (by omega)]⟩
theorem wordsOf_cons2 (t a b : Int) (r : List Int) : wordsOf t (a :: b :: r) = mv t a b :: wordsOf t (b :: r) := rfl
theorem wordsOf_takeS (t : Int) : ∀ (st : List Int) (i : Nat), (wordsOf t st).take i = wordsOf t (st.take (i + 1))
  | [], i => by simp [wordsOf]
  | [a], i => by
    rw [List.take_of_length_le (show ([a] : List Int).length ≤ i + 1 by simp)]
    show ([] : List Wo).take i = []
    rw [List.take_nil]
  | a :: b :: r, 0 => rfl
  | a :: b :: r, i + 1 => by
    rw [wordsOf_cons2, List.take_succ_cons, wordsOf_takeS t (b :: r) i]
    rfl
theorem wordsOf_one (t : Int) {st : List Int} (h : st.length ≤ 1) : wordsOf t st = [] := by
  match st, h with
  | [], _ => rfl
  | [_], _ => rfl
/-- one stand more -/
theorem wordsOf_step (t : Int) (st : List Int) (i : Nat) (h : i + 1 < st.length) : wordsOf t (st.take (i + 2)) = wordsOf t (st.take (i + 1)) ++ [mv t st[i] st[i + 1]] := by
  rw [← wordsOf_takeS, ← wordsOf_takeS, List.take_add_one, wordsOf_get t st i _ _ (List.getElem?_eq_getElem (by omega)) (List.getElem?_eq_getElem h)]
  rfl
theorem lies_step (l t0 : Int) (st : List Int) (i : Nat) (h : i + 1 < st.length) :
    lies l (st.take (i + 2)) ((wordsOf t0 st).take (i + 1)) = (lies l (st.take (i + 1)) ((wordsOf t0 st).take i)).filter fun t => decide (mv t st[i] st[i + 1] = mv t0 st[i] st[i + 1]) := by
  unfold lies
  rw [List.filter_filter]
  refine List.filter_congr fun t _ => ?_
  rw [wordsOf_takeS, wordsOf_takeS, wordsOf_step t st i h, wordsOf_step t0 st i h]
  have e : (wordsOf t (st.take (i + 1)) ++ [mv t st[i] st[i + 1]] = wordsOf t0 (st.take (i + 1)) ++ [mv t0 st[i] st[i + 1]]) ↔ (mv t st[i] st[i + 1] = mv t0 st[i] st[i + 1] ∧ wordsOf t (st.take (i + 1)) = wordsOf t0 (st.take (i + 1))) := by
    constructor
    · intro h2
      obtain ⟨h3, h4⟩ := List.append_inj' h2 rfl
      exact ⟨by simpa using h4, h3⟩
    · rintro ⟨h3, h4⟩
      rw [h3, h4]
  rw [← Bool.decide_and]
  exact decide_eq_decide.mpr e
theorem ab_cases (i : Int) : (0 ≤ i ∧ ab i = i) ∨ (i < 0 ∧ ab i = -i) := by
  unfold ab
  split
  · exact .inr ⟨by omega, rfl⟩
  · exact .inl ⟨by omega, rfl⟩
theorem mv_cases (t b n : Int) : (mv t b n = .warm ∧ ab (t - n) < ab (t - b)) ∨ (mv t b n = .cold ∧ ab (t - b) < ab (t - n)) ∨ (mv t b n = .same ∧ ab (t - b) = ab (t - n)) := by
  unfold mv word
  split
  · exact .inl ⟨rfl, by assumption⟩
  · split
    · exact .inr (.inl ⟨rfl, by assumption⟩)
    · exact .inr (.inr ⟨rfl, by omega⟩)
theorem mv_side (t b n : Int) : (mv t b n = .warm ∧ ((b < n ∧ b + n < 2 * t) ∨ (n < b ∧ 2 * t < b + n))) ∨ (mv t b n = .cold ∧ ((b < n ∧ 2 * t < b + n) ∨ (n < b ∧ b + n < 2 * t))) ∨ (mv t b n = .same ∧ (b = n ∨ 2 * t = b + n)) := by
  have h1 := ab_cases (t - b)
  have h2 := ab_cases (t - n)
  rcases mv_cases t b n with ⟨e, h⟩ | ⟨e, h⟩ | ⟨e, h⟩
  · exact .inl ⟨e, by omega⟩
  · exact .inr (.inl ⟨e, by omega⟩)
  · exact .inr (.inr ⟨e, by omega⟩)
theorem mv_warm {t b n : Int} : mv t b n = .warm ↔ (b < n ∧ b + n < 2 * t) ∨ (n < b ∧ 2 * t < b + n) := by
  rcases mv_side t b n with ⟨e, h⟩ | ⟨e, h⟩ | ⟨e, h⟩
  · exact ⟨fun _ => h, fun _ => e⟩
  · exact ⟨fun z => (by rw [e] at z; cases z), fun z => (by omega)⟩
  · exact ⟨fun z => (by rw [e] at z; cases z), fun z => (by omega)⟩
theorem mv_cold {t b n : Int} : mv t b n = .cold ↔ (b < n ∧ 2 * t < b + n) ∨ (n < b ∧ b + n < 2 * t) := by
  rcases mv_side t b n with ⟨e, h⟩ | ⟨e, h⟩ | ⟨e, h⟩
  · exact ⟨fun z => (by rw [e] at z; cases z), fun z => (by omega)⟩
  · exact ⟨fun _ => h, fun _ => e⟩
  · exact ⟨fun z => (by rw [e] at z; cases z), fun z => (by omega)⟩
theorem mv_same {t b n : Int} : mv t b n = .same ↔ b = n ∨ 2 * t = b + n := by
  rcases mv_side t b n with ⟨e, h⟩ | ⟨e, h⟩ | ⟨e, h⟩
  · exact ⟨fun z => (by rw [e] at z; cases z), fun z => (by omega)⟩
  · exact ⟨fun z => (by rw [e] at z; cases z), fun z => (by omega)⟩
  · exact ⟨fun _ => h, fun _ => e⟩
theorem mv_convex (w : Wo) (b n x y z : Int) (h1 : x < y) (h2 : y < z) (hx : mv x b n = w) (hz : mv z b n = w) : mv y b n = w := by
  cases w with
  | warm =>
    have := mv_warm.mp hx
    have := mv_warm.mp hz
    exact mv_warm.mpr (by omega)
  | cold =>
    have := mv_cold.mp hx
    have := mv_cold.mp hz
    exact mv_cold.mpr (by omega)
  | same =>
    have := mv_same.mp hx
    have := mv_same.mp hz
    exact mv_same.mpr (by omega)
theorem wordsOf_convex (x y z : Int) (h1 : x < y) (h2 : y < z) : ∀ (st : List Int) (ws : List Wo), wordsOf x st = ws → wordsOf z st = ws → wordsOf y st = ws
  | [], ws, hx, _ => hx
  | [_], ws, hx, _ => hx
  | a :: b :: r, ws, hx, hz => by
    rw [wordsOf_cons2] at hx hz ⊢
    cases ws with
    | nil => cases hx
    | cons w ws =>
      obtain ⟨p1, p2⟩ := List.cons.inj hx
      obtain ⟨q1, q2⟩ := List.cons.inj hz
      rw [mv_convex w a b x y z h1 h2 p1 q1, wordsOf_convex x y z h1 h2 (b :: r) ws p2 q2]
theorem lies_stretch (l : Int) (st : List Int) (ws : List Wo) : ∃ a b, lies l st ws = rng a b :=
  rng_convex (fun x y z h1 h2 hx hz => decide_eq_true (wordsOf_convex x y z h1 h2 st ws (of_decide_eq_true hx) (of_decide_eq_true hz))) _ 1 (l + 1) rfl
theorem mem_lies {l t : Int} {st : List Int} {ws : List Wo} : t ∈ lies l st ws ↔ (1 ≤ t ∧ t ≤ l) ∧ wordsOf t st = ws := by
  unfold lies
  rw [List.mem_filter, mem_rng, decide_eq_true_iff]
  constructor
  · rintro ⟨⟨h1, h2⟩, h3⟩
    exact ⟨⟨h1, by omega⟩, h3⟩
  · rintro ⟨⟨h1, h2⟩, h3⟩
    exact ⟨⟨h1, by omega⟩, h3⟩
theorem lies_all (l : Int) {st : List Int} (h : st.length ≤ 1) : lies l st [] = rng 1 (l + 1) := by
  unfold lies
  exact List.filter_eq_self.mpr fun t _ => decide_eq_true (wordsOf_one t h)
theorem mv_mirror (c t e l : Int) : mv (c - t) (c - e) (c - l) = mv t e l := by
  unfold mv
  have h1 : ab (c - t - (c - e)) = ab (t - e) := by
    unfold ab
    split <;> split <;> omega
  have h2 : ab (c - t - (c - l)) = ab (t - l) := by
    unfold ab
    split <;> split <;> omega
  rw [h1, h2]
theorem wordsOf_mirror (c t : Int) : ∀ st : List Int, wordsOf (c - t) (st.map fun p => c - p) = wordsOf t st
  | [] => rfl
  | [_] => rfl
  | a :: b :: r => by
    show mv (c - t) (c - a) (c - b) :: wordsOf (c - t) ((b :: r).map fun p => c - p) = _
    rw [mv_mirror, wordsOf_mirror c t (b :: r)]
    rfl
theorem rng_mirror : ∀ (n : Nat) (lo hi c : Int), (hi - lo).toNat = n → ((rng lo hi).reverse).map (fun x => c - x) = rng (c - hi + 1) (c - lo + 1)
  | 0, lo, hi, c, hn => by
    rw [rng_nil (by omega), rng_nil (by omega)]
    rfl
  | n + 1, lo, hi, c, hn => by
    rw [rng_cons (by omega), List.reverse_cons, List.map_append, rng_mirror n (lo + 1) hi c (by omega)]
    have e : c - (lo + 1) + 1 = c - lo := by omega
    rw [e, rng_snoc (by omega)]
    rfl
theorem lies_mirror (l : Int) (st : List Int) (ws : List Wo) : lies l (st.map fun p => l + 1 - p) ws = ((lies l st ws).reverse).map fun x => l + 1 - x := by
  have e : rng 1 (l + 1) = ((rng 1 (l + 1)).reverse).map fun x => l + 1 - x := by
    rw [rng_mirror _ 1 (l + 1) (l + 1) rfl]
    congr 1 <;> omega
  unfold lies
  rw [← List.filter_reverse]
  conv => lhs; rw [e]
  rw [List.filter_map]
  congr 1
  refine List.filter_congr fun t _ => ?_
  show decide (wordsOf (l + 1 - t) (st.map fun p => l + 1 - p) = ws) = decide (wordsOf t st = ws)
  rw [wordsOf_mirror]
def turn : Wo → Wo
  | .warm => .cold
  | .cold => .warm
  | .same => .same
theorem mv_turn (t e l : Int) : mv t l e = turn (mv t e l) := by
  unfold mv word
  by_cases h1 : ab (t - l) < ab (t - e)
  · rw [if_neg (by omega), if_pos h1, if_pos h1]
    rfl
  · by_cases h2 : ab (t - e) < ab (t - l)
    · rw [if_pos h2, if_neg h1, if_pos h2]
      rfl
    · rw [if_neg h2, if_neg h1, if_neg h1, if_neg h2]
      rfl
theorem wordsOf_snoc (t : Int) : ∀ (xs : List Int) (y x : Int), wordsOf t (xs ++ [y, x]) = wordsOf t (xs ++ [y]) ++ [mv t y x]
  | [], y, x => rfl
  | [a], y, x => rfl
  | a :: b :: r, y, x => by
    show mv t a b :: wordsOf t (b :: r ++ [y, x]) = (mv t a b :: wordsOf t (b :: r ++ [y])) ++ [mv t y x]
    rw [wordsOf_snoc t (b :: r) y x]
    rfl
theorem wordsOf_back (t : Int) : ∀ st : List Int, (wordsOf t st.reverse).reverse = (wordsOf t st).map turn
  | [] => rfl
  | [_] => rfl
  | a :: b :: r => by
    have e : (a :: b :: r).reverse = r.reverse ++ [b, a] := by simp
    have e2 : r.reverse ++ [b] = (b :: r).reverse := by simp
    rw [e, wordsOf_snoc, e2, List.reverse_append, wordsOf_back t (b :: r), wordsOf_cons2, List.map_cons, ← mv_turn]
    rfl
theorem in_ints (t : Int) (ns : List Int) : inV (V.int t) (ns.map V.int) = decide (t ∈ ns) := by
  unfold inV
  rw [List.any_map]
  induction ns with
  | nil => rfl
  | cons n r ih =>
    rw [List.any_cons, ih]
    show ((n == t) || decide (t ∈ r)) = decide (t ∈ n :: r)
    by_cases h1 : n = t
    · subst h1
      simp
    · have h2 : ¬ t = n := fun e => h1 e.symm
      simp [h1, h2]
theorem flat_ints (ns : List Int) : (ns.map V.int).all flatV = true := by
  rw [List.all_map, List.all_eq_true]
  intro n _
  rfl
theorem cut_to (xs : List V) (k : Nat) : cutV xs none (some (k : Int)) = xs.take k := by
  unfold cutV
  rw [HT.sIx_none, HT.sIx_nat, List.drop_zero, Nat.sub_zero]
  by_cases h : k ≤ xs.length
  · rw [Nat.min_eq_left h]
  · rw [Nat.min_eq_right (by omega), List.take_of_length_le (Nat.le_refl _), List.take_of_length_le (by omega)]
/-! ### going on as one is answered -/
def cost (st : Bool) (p q : Int) : Nat := if st then (ab (p - q)).toNat else 1
theorem cost_pos {st : Bool} {p q : Int} (h : q ≠ p) : 1 ≤ cost st p q := by
  unfold cost ab
  split
  · split <;> omega
  · omega
/-- the places from a to b at which w is answered to a move from p to q are those from c to d -/
def IsCut (a b p q : Int) (w : Wo) (c d : Int) : Prop := c ≤ d ∧ ∀ t, (c ≤ t ∧ t ≤ d) ↔ (a ≤ t ∧ t ≤ b ∧ mv t p q = w)
/-- n further stands (steps) are enough -/
inductive En (st : Bool) (L : Int) : Nat → Int → Int → Int → Prop
  | one {n : Nat} {a p : Int} : En st L n a a p
  | go {n : Nat} {a b p : Int} (q : Int) (h1 : 1 ≤ q) (h2 : q ≤ L) (ne : q ≠ p) (hc : cost st p q ≤ n) (h : ∀ w c d, IsCut a b p q w c d → En st L (n - cost st p q) c d q) : En st L n a b p
theorem IsCut.inj {a b p q c d c' d' : Int} {w : Wo} (h : IsCut a b p q w c d) (h' : IsCut a b p q w c' d') : c = c' ∧ d = d' := by
  have h1 := ((h'.2 c).mpr ((h.2 c).mp ⟨by omega, h.1⟩))
  have h2 := ((h'.2 d).mpr ((h.2 d).mp ⟨h.1, by omega⟩))
  have h3 := ((h.2 c').mpr ((h'.2 c').mp ⟨by omega, h'.1⟩))
  have h4 := ((h.2 d').mpr ((h'.2 d').mp ⟨h'.1, by omega⟩))
  omega
theorem IsCut.sub {a b p q c d : Int} {w : Wo} (h : IsCut a b p q w c d) : a ≤ c ∧ d ≤ b := by
  have h1 := (h.2 c).mp ⟨by omega, h.1⟩
  have h2 := (h.2 d).mp ⟨h.1, by omega⟩
  omega
/-- some places are a stretch: by the first and the last -/
theorem cut_of {a b p q t : Int} {w : Wo} (h1 : a ≤ t) (h2 : t ≤ b) (h3 : mv t p q = w) : ∃ c d, IsCut a b p q w c d ∧ c ≤ t ∧ t ≤ d := by
  obtain ⟨c, d, e⟩ := rng_convex (p := fun t => decide (mv t p q = w)) (fun x y z h1 h2 hx hz => decide_eq_true (mv_convex w p q x y z h1 h2 (of_decide_eq_true hx) (of_decide_eq_true hz))) _ a (b + 1) rfl
  have key : ∀ t, (c ≤ t ∧ t < d) ↔ (a ≤ t ∧ t ≤ b ∧ mv t p q = w) := fun t => by
    rw [← mem_rng, ← e, List.mem_filter, mem_rng, decide_eq_true_iff]
    constructor
    · rintro ⟨⟨x1, x2⟩, x3⟩
      exact ⟨x1, by omega, x3⟩
    · rintro ⟨x1, x2, x3⟩
      exact ⟨⟨x1, by omega⟩, x3⟩
  have ht := (key t).mpr ⟨h1, h2, h3⟩
  refine ⟨c, d - 1, ⟨by omega, fun x => ?_⟩, by omega, by omega⟩
  rw [← key x]
  constructor <;> intro z <;> omega
theorem En.mono {st : Bool} {L : Int} {n : Nat} {a b p : Int} (h : En st L n a b p) : ∀ {m : Nat}, n ≤ m → En st L m a b p := by
  induction h with
  | one => intro m _; exact .one
  | go q h1 h2 ne hc h ih =>
    intro m hm
    exact .go q h1 h2 ne (by omega) fun w c d hcut => ih w c d hcut (by omega)
theorem En.less {st : Bool} {L : Int} {n : Nat} {a b p : Int} (h : En st L n a b p) : ∀ {c d : Int}, a ≤ c → c ≤ d → d ≤ b → En st L n c d p := by
  induction h with
  | one =>
    intro c d h1 h2 h3
    rw [show c = d by omega]
    exact .one
  | go q h1 h2 ne hc h ih =>
    intro c d g1 g2 g3
    refine .go q h1 h2 ne hc fun w x y hcut => ?_
    have hx := (hcut.2 x).mp ⟨by omega, hcut.1⟩
    have hy := (hcut.2 y).mp ⟨hcut.1, by omega⟩
    obtain ⟨c', d', hc', r1, r2⟩ := cut_of (a := _) (b := _) (t := x) (p := _) (q := q) (w := w) (Int.le_trans g1 hx.1) (Int.le_trans hx.2.1 g3) hx.2.2
    have hy' := (hc'.2 y).mpr ⟨by omega, by omega, hy.2.2⟩
    exact ih w c' d' hc' r1 hcut.1 hy'.2
theorem IsCut.mirror {a b p q c d L : Int} {w : Wo} (h : IsCut a b p q w c d) : IsCut (L - b) (L - a) (L - p) (L - q) w (L - d) (L - c) := by
  refine ⟨by have := h.1; omega, fun t => ?_⟩
  have e := h.2 (L - t)
  have e2 : mv t (L - p) (L - q) = mv (L - t) p q := by
    have := mv_mirror L (L - t) p q
    rw [show L - (L - t) = t by omega] at this
    exact this
  rw [e2]
  constructor
  · intro z
    have := e.mp ⟨by omega, by omega⟩
    exact ⟨by omega, by omega, this.2.2⟩
  · intro z
    have := e.mpr ⟨by omega, by omega, z.2.2⟩
    omega
theorem cost_mirror (st : Bool) (L p q : Int) : cost st (L - p) (L - q) = cost st p q := by
  unfold cost ab
  split
  · split <;> split <;> omega
  · rfl
theorem En.mirror {st : Bool} {L : Int} {n : Nat} {a b p : Int} (h : En st L n a b p) : En st L n (L + 1 - b) (L + 1 - a) (L + 1 - p) := by
  induction h with
  | one => exact .one
  | go q h1 h2 ne hc h ih =>
    refine .go (L + 1 - q) (by omega) (by omega) (by omega) (by rw [cost_mirror]; exact hc) fun w c d hcut => ?_
    rw [cost_mirror]
    have hm := hcut.mirror (L := L + 1)
    have key : ∀ x : Int, L + 1 - (L + 1 - x) = x := fun x => by omega
    simp only [key] at hm
    have := ih w _ _ hm
    rw [show L + 1 - (L + 1 - c) = c by omega, show L + 1 - (L + 1 - d) = d by omega] at this
    exact this
theorem En.mirror_iff {st : Bool} {L : Int} {n : Nat} {a b p : Int} : En st L n (L + 1 - b) (L + 1 - a) (L + 1 - p) ↔ En st L n a b p := by
  refine ⟨fun h => ?_, fun h => h.mirror⟩
  have := h.mirror
  rw [show L + 1 - (L + 1 - a) = a by omega, show L + 1 - (L + 1 - b) = b by omega, show L + 1 - (L + 1 - p) = p by omega] at this
  exact this
/-- steps are stands -/
theorem En.stands {L : Int} {n : Nat} {a b p : Int} (h : En true L n a b p) : En false L n a b p := by
  induction h with
  | one => exact .one
  | go q h1 h2 ne hc h ih =>
    have hp := cost_pos (st := true) ne
    refine .go q h1 h2 ne (by show 1 ≤ _; omega) fun w c d hcut => (ih w c d hcut).mono (by show _ ≤ _ - 1; omega)
theorem mv_next (t c : Int) : mv t c (c + 1) = if t ≤ c then .cold else .warm := by
  unfold mv word ab
  repeat' split
  all_goals first | rfl | (exfalso; omega)
theorem cost_next (st : Bool) (c : Int) : cost st c (c + 1) = 1 := by
  unfold cost ab
  split
  · split <;> omega
  · rfl
/-- from the low end on, place by place -/
theorem en_low {st : Bool} {L : Int} : ∀ (m : Nat) (c d : Int), 1 ≤ c → d ≤ L → (d - c).toNat = m → c ≤ d → En st L m c d c
  | 0, c, d, _, _, h, h' => by
    rw [show c = d by omega]
    exact .one
  | m + 1, c, d, h1, h2, h3, h4 => by
    refine .go (c + 1) (by omega) (by omega) (by omega) (by rw [cost_next]; omega) fun w x y hcut => ?_
    rw [cost_next]
    show En st L m x y (c + 1)
    have hx := (hcut.2 x).mp ⟨by omega, hcut.1⟩
    have hy := (hcut.2 y).mp ⟨hcut.1, by omega⟩
    have e := hx.2.2.trans hy.2.2.symm
    rw [mv_next, mv_next] at e
    by_cases hxc : x ≤ c
    · have : y ≤ c := by
        by_cases z : y ≤ c
        · exact z
        · rw [if_pos hxc, if_neg z] at e
          cases e
      rw [show x = y by omega]
      exact .one
    · exact (en_low m (c + 1) d (by omega) h2 (by omega) (by omega)).less (by omega) hcut.1 hy.2.1
theorem cost_le {st : Bool} {L p q : Int} (h1 : 1 ≤ p) (h2 : p ≤ L) (h3 : 1 ≤ q) (h4 : q ≤ L) (ne : q ≠ p) : cost st p q ≤ (L - 1).toNat := by
  unfold cost ab
  split
  · split <;> omega
  · omega
theorem en_some {st : Bool} {L : Int} : ∀ (m : Nat) (a b p : Int), 1 ≤ a → a ≤ b → b ≤ L → 1 ≤ p → p ≤ L → (b - a).toNat = m → En st L (m * (L - 1).toNat + 1) a b p
  | m, a, b, p, h1, h2, h3, h4, h5, hm => by
    by_cases hab : a = b
    · rw [hab]
      exact .one
    · have hC : 1 ≤ (L - 1).toNat := by omega
      have hmC : m ≤ m * (L - 1).toNat := Nat.le_mul_of_pos_right _ hC
      by_cases hpa : p = a
      · rw [hpa]
        exact (en_low m a b h1 h3 hm h2).mono (by omega)
      · have hcost : cost st p a ≤ (L - 1).toNat := cost_le h4 h5 h1 (by omega) (fun z => hpa z.symm)
        obtain ⟨k, hk⟩ : ∃ k, m = k + 1 := ⟨m - 1, by omega⟩
        have hsm : m * (L - 1).toNat = k * (L - 1).toNat + (L - 1).toNat := by rw [hk, Nat.succ_mul]
        have hkC : k ≤ k * (L - 1).toNat := Nat.le_mul_of_pos_right _ hC
        refine .go a h1 (by omega) (fun z => hpa z.symm) (by omega) fun w c d hcut => ?_
        have hs := hcut.sub
        have hcd := hcut.1
        have hrem : k * (L - 1).toNat + 1 ≤ m * (L - 1).toNat + 1 - cost st p a := by omega
        by_cases hca : c = a
        · rw [hca]
          exact (en_low _ a d h1 (by omega) rfl (by omega)).mono (Nat.le_trans (show _ ≤ k + 1 by omega) (by omega))
        · have hlt : (d - c).toNat ≤ k := by omega
          refine (en_some (d - c).toNat c d a (by omega) hcd (by omega) h1 (by omega) rfl).mono (Nat.le_trans ?_ hrem)
          have := Nat.mul_le_mul_right (L - 1).toNat hlt
          omega
  termination_by m => m
/-- by q so few are enough -/
def Good (st : Bool) (L : Int) (n : Nat) (a b p q : Int) : Prop := cost st p q ≤ n ∧ ∀ w c d, IsCut a b p q w c d → En st L (n - cost st p q) c d q
/-- n is the least number that is enough -/
def LeastN (st : Bool) (L a b p : Int) (n : Nat) : Prop := En st L n a b p ∧ ∀ k, k < n → ¬ En st L k a b p
theorem LeastN.inj {st : Bool} {L a b p : Int} {n m : Nat} (h : LeastN st L a b p n) (h' : LeastN st L a b p m) : n = m := by
  rcases Nat.lt_trichotomy n m with z | z | z
  · exact absurd h.1 (h'.2 n z)
  · exact z
  · exact absurd h'.1 (h.2 m z)
theorem LeastN.le {st : Bool} {L a b p : Int} {n m : Nat} (h : LeastN st L a b p n) (e : En st L m a b p) : n ≤ m := by
  by_cases z : n ≤ m
  · exact z
  · exact absurd e (h.2 m (by omega))
theorem LeastN.iff {st : Bool} {L a b p : Int} {n m : Nat} (h : LeastN st L a b p n) : En st L m a b p ↔ n ≤ m := ⟨h.le, fun z => h.1.mono z⟩
theorem least_of {st : Bool} {L a b p : Int} : ∀ (m : Nat), En st L m a b p → ∃ n, n ≤ m ∧ LeastN st L a b p n
  | 0, h => ⟨0, Nat.le_refl _, h, fun k hk => absurd hk (Nat.not_lt_zero k)⟩
  | m + 1, h => by
    by_cases z : En st L m a b p
    · obtain ⟨n, h1, h2⟩ := least_of m z
      exact ⟨n, by omega, h2⟩
    · exact ⟨m + 1, Nat.le_refl _, h, fun k hk e => z (e.mono (by omega))⟩
theorem least_ex {st : Bool} {L a b p : Int} (h1 : 1 ≤ a) (h2 : a ≤ b) (h3 : b ≤ L) (h4 : 1 ≤ p) (h5 : p ≤ L) : ∃ n, n ≤ (b - a).toNat * (L - 1).toNat + 1 ∧ LeastN st L a b p n :=
  least_of _ (en_some _ a b p h1 h2 h3 h4 h5 rfl)
theorem LeastN.self {st : Bool} {L a p : Int} : LeastN st L a a p 0 := ⟨.one, fun k hk => absurd hk (Nat.not_lt_zero k)⟩
theorem LeastN.pos {st : Bool} {L a b p : Int} {n : Nat} (h : LeastN st L a b p n) (hab : a < b) : 1 ≤ n := by
  cases n with
  | zero =>
    obtain ⟨e, _⟩ := h
    cases e with
    | one => omega
    | go q _ _ ne hc _ =>
      have := cost_pos (st := st) ne
      omega
  | succ n => omega
theorem en_good {st : Bool} {L a b p : Int} {n : Nat} (hab : a < b) : En st L n a b p ↔ ∃ q, (1 ≤ q ∧ q ≤ L) ∧ q ≠ p ∧ Good st L n a b p q := by
  constructor
  · intro h
    cases h with
    | one => omega
    | go q h1 h2 ne hc h => exact ⟨q, ⟨h1, h2⟩, ne, hc, h⟩
  · rintro ⟨q, ⟨h1, h2⟩, ne, hc, h⟩
    exact .go q h1 h2 ne hc h
/-- what is told: the least number, and the first other place by which so few are enough -/
def Told (st : Bool) (L a b p : Int) (n : Nat) (v : V) : Prop :=
  (a = b ∧ n = 0 ∧ v = .non) ∨ (a < b ∧ LeastN st L a b p n ∧ ∃ q, v = .int q ∧ (1 ≤ q ∧ q ≤ L) ∧ q ≠ p ∧ Good st L n a b p q ∧ ∀ r, 1 ≤ r → r < q → r ≠ p → ¬ Good st L n a b p r)
theorem Told.least {st : Bool} {L a b p : Int} {n : Nat} {v : V} (h : Told st L a b p n v) : LeastN st L a b p n := by
  rcases h with ⟨rfl, rfl, _⟩ | ⟨_, h, _⟩
  · exact LeastN.self
  · exact h
theorem Told.inj {st : Bool} {L a b p : Int} {n m : Nat} {v u : V} (h : Told st L a b p n v) (h' : Told st L a b p m u) : n = m ∧ v = u := by
  have e := h.least.inj h'.least
  subst e
  refine ⟨rfl, ?_⟩
  rcases h with ⟨e1, _, e2⟩ | ⟨e1, _, q, e2, h1, h2, h3, h4⟩
  · rcases h' with ⟨_, _, e3⟩ | ⟨z, _⟩
    · rw [e2, e3]
    · omega
  · rcases h' with ⟨z, _⟩ | ⟨_, _, q', e2', h1', h2', h3', h4'⟩
    · omega
    · rcases Int.lt_trichotomy q q' with z | z | z
      · exact absurd h3 (h4' q h1.1 z h2)
      · rw [e2, e2', z]
      · exact absurd h3' (h4 q' h1'.1 z h2')
/-- what q costs, whatever is answered -/
def WorstN (st : Bool) (L a b p q : Int) (m : Nat) : Prop := (∀ w c d, IsCut a b p q w c d → En st L m c d q) ∧ ∃ w c d, IsCut a b p q w c d ∧ LeastN st L c d q m
theorem WorstN.good {st : Bool} {L a b p q : Int} {m n : Nat} (h : WorstN st L a b p q m) : Good st L n a b p q ↔ m + cost st p q ≤ n := by
  constructor
  · rintro ⟨h1, h2⟩
    obtain ⟨w, c, d, h3, h4⟩ := h.2
    have := h4.le (h2 w c d h3)
    omega
  · intro z
    exact ⟨by omega, fun w c d hc => (h.1 w c d hc).mono (by omega)⟩
/-! ### cuts as lists; a check that can be reckoned; the told places followed -/
def cutL (a b p q : Int) (w : Wo) : List Int := (rng a (b + 1)).filter fun t => decide (mv t p q = w)
theorem mem_cutL {a b p q t : Int} {w : Wo} : t ∈ cutL a b p q w ↔ a ≤ t ∧ t ≤ b ∧ mv t p q = w := by
  unfold cutL
  rw [List.mem_filter, mem_rng, decide_eq_true_iff]
  constructor
  · rintro ⟨⟨x1, x2⟩, x3⟩
    exact ⟨x1, by omega, x3⟩
  · rintro ⟨x1, x2, x3⟩
    exact ⟨⟨x1, by omega⟩, x3⟩
theorem IsCut.list {a b p q c d : Int} {w : Wo} (h : IsCut a b p q w c d) : cutL a b p q w = rng c (d + 1) := by
  obtain ⟨c', d', e⟩ := rng_convex (p := fun t => decide (mv t p q = w)) (fun x y z h1 h2 hx hz => decide_eq_true (mv_convex w p q x y z h1 h2 (of_decide_eq_true hx) (of_decide_eq_true hz))) _ a (b + 1) rfl
  have e' : cutL a b p q w = rng c' d' := e
  have key : ∀ t, (c' ≤ t ∧ t < d') ↔ (c ≤ t ∧ t ≤ d) := fun t => by
    rw [← mem_rng, ← e', mem_cutL]
    exact (h.2 t).symm
  have hcd := h.1
  have k1 := (key c).mpr ⟨by omega, hcd⟩
  have k2 := (key d).mpr ⟨hcd, by omega⟩
  have k3 := (key c').mp ⟨by omega, by omega⟩
  have k4 := (key (d' - 1)).mp ⟨by omega, by omega⟩
  rw [e', show c' = c by omega, show d' = d + 1 by omega]
theorem rng_ends {c d : Int} (h : c ≤ d) : (rng c (d + 1)).head? = some c ∧ (rng c (d + 1)).getLast? = some d := by
  constructor
  · rw [rng_cons (by omega)]
    rfl
  · rw [rng_snoc h, List.getLast?_append]
    rfl
theorem cut_ends {a b p q : Int} {w : Wo} {c d : Int} : IsCut a b p q w c d ↔ (cutL a b p q w).head? = some c ∧ (cutL a b p q w).getLast? = some d := by
  constructor
  · intro h
    rw [h.list]
    exact rng_ends h.1
  · rintro ⟨h1, h2⟩
    have hc := mem_cutL.mp (List.mem_of_mem_head? h1)
    obtain ⟨c', d', hcut, r1, r2⟩ := cut_of hc.1 hc.2.1 hc.2.2
    rw [hcut.list] at h1 h2
    obtain ⟨g1, g2⟩ := rng_ends hcut.1
    rw [g1] at h1
    rw [g2] at h2
    rw [← Option.some.inj h1, ← Option.some.inj h2]
    exact hcut
def allW : List Wo := [.warm, .cold, .same]
theorem mem_allW (w : Wo) : w ∈ allW := by
  cases w <;> decide
def enB (st : Bool) (L : Int) : Nat → Nat → Int → Int → Int → Bool
  | 0, _, a, b, _ => decide (a = b)
  | f + 1, n, a, b, p => decide (a = b) || (rng 1 (L + 1)).any fun q => decide (q ≠ p) && (decide (cost st p q ≤ n) && allW.all fun w => match (cutL a b p q w).head?, (cutL a b p q w).getLast? with
    | some c, some d => enB st L f (n - cost st p q) c d q
    | _, _ => true)
theorem enB_iff {st : Bool} {L : Int} : ∀ (f n : Nat) (a b p : Int), n ≤ f → (enB st L f n a b p = true ↔ En st L n a b p)
  | 0, n, a, b, p, h => by
    show decide (a = b) = true ↔ _
    rw [decide_eq_true_iff]
    constructor
    · rintro rfl
      exact .one
    · intro z
      cases z with
      | one => rfl
      | go q _ _ ne hc _ =>
        have := cost_pos (st := st) ne
        omega
  | f + 1, n, a, b, p, h => by
    unfold enB
    rw [Bool.or_eq_true, decide_eq_true_iff, List.any_eq_true]
    constructor
    · rintro (rfl | ⟨q, hq, z⟩)
      · exact .one
      · rw [Bool.and_eq_true, Bool.and_eq_true, decide_eq_true_iff, decide_eq_true_iff, List.all_eq_true] at z
        obtain ⟨ne, hc, hall⟩ := z
        have hr := mem_rng.mp hq
        refine .go q hr.1 (by omega) ne hc fun w c d hcut => ?_
        have z := hall w (mem_allW w)
        obtain ⟨g1, g2⟩ := cut_ends.mp hcut
        rw [g1, g2] at z
        have := cost_pos (st := st) ne
        exact (enB_iff f _ c d q (by omega)).mp z
    · intro z
      cases z with
      | one => exact .inl rfl
      | go q h1 h2 ne hc h3 =>
        refine .inr ⟨q, mem_rng.mpr ⟨h1, by omega⟩, ?_⟩
        rw [Bool.and_eq_true, Bool.and_eq_true, decide_eq_true_iff, decide_eq_true_iff, List.all_eq_true]
        refine ⟨ne, hc, fun w _ => ?_⟩
        have := cost_pos (st := st) ne
        cases g1 : (cutL a b p q w).head? with
        | none => rfl
        | some c =>
          cases g2 : (cutL a b p q w).getLast? with
          | none => rfl
          | some d => exact (enB_iff f _ c d q (by omega)).mpr (h3 w c d (cut_ends.mpr ⟨g1, g2⟩))
theorem en_by {st : Bool} {L : Int} {n : Nat} {a b p : Int} (h : enB st L n n a b p = true) : En st L n a b p := (enB_iff n n a b p (Nat.le_refl n)).mp h
theorem not_en_by {st : Bool} {L : Int} {n : Nat} {a b p : Int} (h : enB st L n n a b p = false) : ¬ En st L n a b p := fun z => by
  have := (enB_iff n n a b p (Nat.le_refl n)).mpr z
  rw [h] at this
  cases this
/-- the told places followed from p for the thing t cost s -/
inductive Fol (st : Bool) (L t : Int) : Int → Int → Int → Nat → Prop
  | one {a p : Int} : Fol st L t a a p 0
  | go {a b p q c d : Int} {n s : Nat} (hab : a < b) (ht : Told st L a b p n (.int q)) (hc : IsCut a b p q (mv t p q) c d) (h : Fol st L t c d q s) : Fol st L t a b p (cost st p q + s)
theorem Fol.le {st : Bool} {L t : Int} {a b p : Int} {s : Nat} (h : Fol st L t a b p s) : ∀ {n : Nat}, LeastN st L a b p n → s ≤ n := by
  induction h with
  | one => intro n _; exact Nat.zero_le _
  | go hab ht hc h ih =>
    intro n hn
    have e := ht.least.inj hn
    subst e
    rcases ht with ⟨z, _⟩ | ⟨_, _, q', e, _, _, hg, _⟩
    · omega
    · cases e
      obtain ⟨m, hm, hl⟩ := least_of _ (hg.2 _ _ _ hc)
      have := ih hl
      have := hg.1
      omega
/-- some cut costs as much as is told -/
theorem Told.worst {st : Bool} {L a b p q : Int} {n : Nat} (h : Told st L a b p n (.int q)) (hab : a < b) : ∃ w c d, IsCut a b p q w c d ∧ LeastN st L c d q (n - cost st p q) := by
  rcases h with ⟨z, _⟩ | ⟨_, hl, q', e, hq, ne, hg, _⟩
  · omega
  · cases e
    have hp := cost_pos (st := st) ne
    apply Classical.byContradiction
    intro hno
    have hall : ∀ w c d, IsCut a b p q w c d → n - cost st p q ≠ 0 → En st L (n - cost st p q - 1) c d q := fun w c d hc hz => by
      obtain ⟨m, hm, hm2⟩ := least_of _ (hg.2 w c d hc)
      by_cases z : m = n - cost st p q
      · rw [z] at hm2
        exact absurd ⟨w, c, d, hc, hm2⟩ hno
      · exact hm2.1.mono (by omega)
    by_cases hz : n - cost st p q = 0
    · obtain ⟨c, d, hc, _, _⟩ := cut_of (a := a) (b := b) (p := p) (q := q) (t := a) (Int.le_refl a) (by omega) rfl
      refine hno ⟨_, c, d, hc, ?_⟩
      rw [hz]
      refine ⟨?_, fun k hk => absurd hk (Nat.not_lt_zero k)⟩
      have := hg.2 _ c d hc
      rw [hz] at this
      exact this
    · refine hl.2 (n - 1) (by have := hg.1; omega) (.go q hq.1 hq.2 ne (by omega) fun w c d hc => ?_)
      have := hall w c d hc hz
      rw [show n - 1 - cost st p q = n - cost st p q - 1 by omega]
      exact this
theorem told_ex {st : Bool} {L a b p : Int} (h1 : 1 ≤ a) (h2 : a ≤ b) (h3 : b ≤ L) (h4 : 1 ≤ p) (h5 : p ≤ L) : ∃ n v, Told st L a b p n v := by
  by_cases hab : a = b
  · exact ⟨0, .non, .inl ⟨hab, rfl, rfl⟩⟩
  · have hlt : a < b := by omega
    obtain ⟨n, _, hn⟩ := least_ex (st := st) h1 h2 h3 h4 h5
    obtain ⟨q, hq, ne, hg⟩ := (en_good hlt).mp hn.1
    have key : ∀ (m : Nat) (q : Int), q.toNat = m → 1 ≤ q → q ≤ L → q ≠ p → Good st L n a b p q → ∃ r, (1 ≤ r ∧ r ≤ L) ∧ r ≠ p ∧ Good st L n a b p r ∧ ∀ x, 1 ≤ x → x < r → x ≠ p → ¬ Good st L n a b p x := by
      intro m
      induction m using Nat.strongRecOn with
      | ind m ih =>
        intro q hm h1 h2 ne hg
        by_cases z : ∃ x, 1 ≤ x ∧ x < q ∧ x ≠ p ∧ Good st L n a b p x
        · obtain ⟨x, x1, x2, x3, x4⟩ := z
          exact ih x.toNat (by omega) x rfl x1 (by omega) x3 x4
        · exact ⟨q, ⟨h1, h2⟩, ne, hg, fun x x1 x2 x3 x4 => z ⟨x, x1, x2, x3, x4⟩⟩
    obtain ⟨r, hr⟩ := key _ q rfl hq.1 hq.2 ne hg
    exact ⟨n, .int r, .inr ⟨hlt, hn, r, rfl, hr⟩⟩
/-- every thing is found so, and some thing costs just what is told -/
theorem fol_ex {st : Bool} {L : Int} : ∀ (n : Nat) {a b p : Int}, 1 ≤ a → a ≤ b → b ≤ L → 1 ≤ p → p ≤ L → LeastN st L a b p n → (∀ t, a ≤ t → t ≤ b → ∃ s, Fol st L t a b p s) ∧ ∃ t, (a ≤ t ∧ t ≤ b) ∧ Fol st L t a b p n := by
  intro n
  induction n using Nat.strongRecOn with
  | ind n ih =>
    intro a b p h1 h2 h3 h4 h5 hl
    by_cases hab : a = b
    · subst hab
      have e : n = 0 := hl.inj LeastN.self
      subst e
      exact ⟨fun t ht1 ht2 => ⟨0, .one⟩, a, ⟨by omega, by omega⟩, .one⟩
    · have hlt : a < b := by omega
      obtain ⟨m, v, ht⟩ := told_ex (st := st) h1 h2 h3 h4 h5
      have e := ht.least.inj hl
      subst e
      rcases id ht with ⟨z, _⟩ | ⟨_, _, q, rfl, hq, ne, hg, _⟩
      · omega
      · have hp := cost_pos (st := st) ne
        constructor
        · intro t ht1 ht2
          obtain ⟨c, d, hc, r1, r2⟩ := cut_of (p := p) (q := q) ht1 ht2 rfl
          have hs := hc.sub
          obtain ⟨k, hk, hk2⟩ := least_of _ (hg.2 _ _ _ hc)
          have := hg.1
          obtain ⟨s, hf⟩ := (ih k (by omega) (by omega) hc.1 (by omega) hq.1 hq.2 hk2).1 t r1 r2
          exact ⟨_, .go hlt ht hc hf⟩
        · obtain ⟨w, c, d, hc, hw⟩ := ht.worst hlt
          have hs := hc.sub
          have := hg.1
          obtain ⟨t, ⟨r1, r2⟩, hf⟩ := (ih (m - cost st p q) (by omega) (by omega) hc.1 (by omega) hq.1 hq.2 hw).2
          have hmv := (hc.2 t).mp ⟨r1, r2⟩
          have hc' : IsCut a b p q (mv t p q) c d := by
            rw [hmv.2.2]
            exact hc
          refine ⟨t, ⟨hmv.1, hmv.2.1⟩, ?_⟩
          have := Fol.go hlt ht hc' hf
          rw [show cost st p q + (m - cost st p q) = m by omega] at this
          exact this
theorem Fol.inj {st : Bool} {L t : Int} {a b p : Int} {s : Nat} (h : Fol st L t a b p s) : ∀ {s' : Nat}, Fol st L t a b p s' → s = s' := by
  induction h with
  | one =>
    intro s' h'
    cases h' with
    | one => rfl
    | go hab _ _ _ => omega
  | go hab ht hc h ih =>
    intro s' h'
    cases h' with
    | one => omega
    | go hab' ht' hc' h2 =>
      obtain ⟨_, e⟩ := ht.inj ht'
      cases e
      obtain ⟨e1, e2⟩ := hc.inj hc'
      subst e1
      subst e2
      rw [ih h2]
/-! ### the parts that a move can leave, and how many steps are least -/
/-- the three parts, empty ones among them -/
def parts3 (a b p q : Int) : List (Int × Int) := [(a, min b ((p + q - 1) / 2)), (max a ((p + q + 1) / 2), min b ((p + q) / 2)), (max a ((p + q) / 2 + 1), b)]
def partsOf (a b p q : Int) : List (Int × Int) := (parts3 a b p q).filter fun z => decide (z.1 ≤ z.2)
theorem mv_low {t p q : Int} (h : p < q) : mv t p q = if 2 * t < p + q then .cold else if 2 * t = p + q then .same else .warm := by
  unfold mv word ab
  repeat' split
  all_goals first | rfl | (exfalso; omega)
theorem mv_high {t p q : Int} (h : q < p) : mv t p q = if 2 * t < p + q then .warm else if 2 * t = p + q then .same else .cold := by
  unfold mv word ab
  repeat' split
  all_goals first | rfl | (exfalso; omega)
theorem mem_parts {a b p q c d : Int} : (c, d) ∈ partsOf a b p q ↔ c ≤ d ∧ ((c = a ∧ d = min b ((p + q - 1) / 2)) ∨ (c = max a ((p + q + 1) / 2) ∧ d = min b ((p + q) / 2)) ∨ (c = max a ((p + q) / 2 + 1) ∧ d = b)) := by
  unfold partsOf parts3
  rw [List.mem_filter]
  simp only [List.mem_cons, List.not_mem_nil, or_false, Prod.mk.injEq, decide_eq_true_eq]
  constructor
  · rintro ⟨h1, h2⟩
    exact ⟨h2, h1⟩
  · rintro ⟨h1, h2⟩
    exact ⟨h2, h1⟩
/-- the word that is answered in a part -/
def wLow (p q : Int) : Wo := if p < q then .cold else .warm
def wHigh (p q : Int) : Wo := if p < q then .warm else .cold
theorem mv_wLow {t p q : Int} (ne : q ≠ p) : mv t p q = wLow p q ↔ 2 * t < p + q := by
  unfold wLow
  by_cases h : p < q
  · rw [if_pos h, mv_low h]
    repeat' split
    all_goals simp_all
    all_goals omega
  · rw [if_neg h, mv_high (by omega)]
    repeat' split
    all_goals simp_all
    all_goals omega
theorem mv_wHigh {t p q : Int} (ne : q ≠ p) : mv t p q = wHigh p q ↔ p + q < 2 * t := by
  unfold wHigh
  by_cases h : p < q
  · rw [if_pos h, mv_low h]
    repeat' split
    all_goals simp_all
    all_goals omega
  · rw [if_neg h, mv_high (by omega)]
    repeat' split
    all_goals simp_all
    all_goals omega
theorem mv_wSame {t p q : Int} (ne : q ≠ p) : mv t p q = .same ↔ 2 * t = p + q := by
  by_cases h : p < q
  · rw [mv_low h]
    repeat' split
    all_goals simp_all
    all_goals omega
  · rw [mv_high (by omega)]
    repeat' split
    all_goals simp_all
    all_goals omega
theorem wo_three (p q : Int) (w : Wo) : w = wLow p q ∨ w = wHigh p q ∨ w = .same := by
  unfold wLow wHigh
  split <;> cases w <;> simp
theorem parts_cut {a b p q c d : Int} (ne : q ≠ p) : (c, d) ∈ partsOf a b p q ↔ ∃ w, IsCut a b p q w c d := by
  rw [mem_parts]
  constructor
  · rintro ⟨hcd, h⟩
    rcases h with ⟨h1, h2⟩ | ⟨h1, h2⟩ | ⟨h1, h2⟩
    · refine ⟨wLow p q, hcd, fun t => ?_⟩
      rw [mv_wLow ne]
      constructor <;> intro z <;> omega
    · refine ⟨.same, hcd, fun t => ?_⟩
      rw [mv_wSame ne]
      constructor <;> intro z <;> omega
    · refine ⟨wHigh p q, hcd, fun t => ?_⟩
      rw [mv_wHigh ne]
      constructor <;> intro z <;> omega
  · rintro ⟨w, hcd, h⟩
    refine ⟨hcd, ?_⟩
    have hc := (h c).mp ⟨by omega, hcd⟩
    have hd := (h d).mp ⟨hcd, by omega⟩
    have hl := h (c - 1)
    have hr := h (d + 1)
    rcases wo_three p q w with rfl | rfl | rfl
    · rw [mv_wLow ne] at hc hd hl hr
      refine .inl ⟨?_, ?_⟩ <;> omega
    · rw [mv_wHigh ne] at hc hd hl hr
      refine .inr (.inr ⟨?_, ?_⟩) <;> omega
    · rw [mv_wSame ne] at hc hd hl hr
      refine .inr (.inl ⟨?_, ?_⟩) <;> omega
theorem parts_len (a b p q : Int) : (partsOf a b p q).length ≤ 3 := List.length_filter_le _ _
theorem good_parts {st : Bool} {L a b p q : Int} {n : Nat} (ne : q ≠ p) : Good st L n a b p q ↔ cost st p q ≤ n ∧ ∀ z ∈ partsOf a b p q, En st L (n - cost st p q) z.1 z.2 q := by
  constructor
  · rintro ⟨h1, h2⟩
    refine ⟨h1, fun z hz => ?_⟩
    obtain ⟨c, d⟩ := z
    obtain ⟨w, hw⟩ := (parts_cut ne).mp hz
    exact h2 w c d hw
  · rintro ⟨h1, h2⟩
    exact ⟨h1, fun w c d hw => h2 (c, d) ((parts_cut ne).mpr ⟨w, hw⟩)⟩
/-- so many stands tell at most so many places apart -/
theorem en_wide {L : Int} {n : Nat} {a b p : Int} (h : En false L n a b p) : b - a + 1 < 2 ^ (n + 1) := by
  induction h with
  | @one n a p =>
    have : (0 : Int) < 2 ^ n := Int.pow_pos (by decide)
    rw [Int.pow_succ]
    omega
  | @go n a b p q h1 h2 ne hc h ih =>
    have hn : 1 ≤ n := hc
    obtain ⟨k, rfl⟩ : ∃ k, n = k + 1 := ⟨n - 1, by omega⟩
    have key : ∀ c d, (c, d) ∈ partsOf a b p q → d - c + 1 < 2 ^ (k + 1) := fun c d hz => by
      obtain ⟨w, hw⟩ := (parts_cut ne).mp hz
      exact ih w c d hw
    have hp : (0 : Int) < 2 ^ (k + 1) := Int.pow_pos (by decide)
    rw [Int.pow_succ (n := k + 1)]
    generalize (2 : Int) ^ (k + 1) = M at key hp ⊢
    have k1 := key a (min b ((p + q - 1) / 2))
    have k3 := key (max a ((p + q) / 2 + 1)) b
    rw [mem_parts] at k1 k3
    have k1' : a ≤ min b ((p + q - 1) / 2) → min b ((p + q - 1) / 2) - a + 1 < M := fun z => k1 ⟨z, .inl ⟨rfl, rfl⟩⟩
    have k3' : max a ((p + q) / 2 + 1) ≤ b → b - max a ((p + q) / 2 + 1) + 1 < M := fun z => k3 ⟨z, .inr (.inr ⟨rfl, rfl⟩)⟩
    clear k1 k3 key ih h
    by_cases z1 : a ≤ min b ((p + q - 1) / 2) <;> by_cases z3 : max a ((p + q) / 2 + 1) ≤ b
    · have := k1' z1
      have := k3' z3
      omega
    · have := k1' z1
      omega
    · have := k3' z3
      omega
    · omega
/-- stands enough: to the low end, then on place by place -/
theorem en_enough {L a b p : Int} (h1 : 1 ≤ a) (h2 : a ≤ b) (h3 : b ≤ L) : En false L ((b - a).toNat + 1) a b p := by
  have hlow := en_low (st := false) (L := L) (b - a).toNat a b h1 h3 rfl h2
  by_cases hp : p = a
  · rw [hp]
    exact hlow.mono (by omega)
  · refine .go a h1 (by omega) (fun z => hp z.symm) (by show 1 ≤ _; omega) fun w c d hcut => ?_
    have hs := hcut.sub
    have hcd := hcut.1
    exact (hlow.less hs.1 hcd hs.2).mono (by show _ ≤ _ - 1; omega)
/-- the least number of steps, as the program reckons it -/
def Stp (a b p : Int) : Int := if a = b then 0 else if p ≤ a then b - p else if b ≤ p then p - a else min (max (b - p) (p - a + 2)) (max (p - a) (b - p + 2))
theorem Stp_nonneg {a b p : Int} (h : a ≤ b) : 0 ≤ Stp a b p := by
  unfold Stp
  repeat' split
  all_goals omega
theorem Stp_mirror (L a b p : Int) (h : a ≤ b) : Stp (L - b) (L - a) (L - p) = Stp a b p := by
  unfold Stp
  repeat' split
  all_goals omega
theorem Stp_pos {a b p : Int} (h : a < b) : 1 ≤ Stp a b p := by
  unfold Stp
  repeat' split
  all_goals omega
/-- no move is better -/
theorem Stp_low {a b p q : Int} (hab : a < b) (ne : q ≠ p) : ∃ z ∈ partsOf a b p q, Stp a b p ≤ ab (p - q) + Stp z.1 z.2 q := by
  apply Classical.byContradiction
  intro hno
  have key : ∀ c d, (c, d) ∈ partsOf a b p q → ab (p - q) + Stp c d q < Stp a b p := fun c d hz => by
    apply Int.not_le.mp
    intro z
    exact hno ⟨(c, d), hz, z⟩
  have k1 : a ≤ min b ((p + q - 1) / 2) → _ := fun z => key a (min b ((p + q - 1) / 2)) (mem_parts.mpr ⟨z, .inl ⟨rfl, rfl⟩⟩)
  have k3 : max a ((p + q) / 2 + 1) ≤ b → _ := fun z => key (max a ((p + q) / 2 + 1)) b (mem_parts.mpr ⟨z, .inr (.inr ⟨rfl, rfl⟩)⟩)
  have k2 : max a ((p + q + 1) / 2) ≤ min b ((p + q) / 2) → _ := fun z => key (max a ((p + q + 1) / 2)) (min b ((p + q) / 2)) (mem_parts.mpr ⟨z, .inr (.inl ⟨rfl, rfl⟩)⟩)
  clear key hno
  by_cases z1 : a ≤ min b ((p + q - 1) / 2) <;> by_cases z3 : max a ((p + q) / 2 + 1) ≤ b
  · have g1 := k1 z1
    have g3 := k3 z3
    clear k1 k2 k3
    unfold Stp ab at g1 g3
    repeat' split at g1
    all_goals (repeat' split at g3)
    all_goals omega
  · have g1 := k1 z1
    clear k1 k3
    unfold Stp ab at g1
    by_cases z2 : max a ((p + q + 1) / 2) ≤ min b ((p + q) / 2)
    · repeat' split at g1
      all_goals omega
    · repeat' split at g1
      all_goals omega
  · have g3 := k3 z3
    clear k1 k3 k2
    unfold Stp ab at g3
    repeat' split at g3
    all_goals omega
  · omega
theorem sx_le {L : Int} {n : Nat} {a b p : Int} (h : En true L n a b p) (hab : a ≤ b) : Stp a b p ≤ n := by
  induction h with
  | one =>
    unfold Stp
    rw [if_pos rfl]
    omega
  | @go n a b p q h1 h2 ne hc h ih =>
    by_cases hlt : a < b
    · obtain ⟨⟨c, d⟩, hz, hle⟩ := Stp_low (q := q) hlt ne
      obtain ⟨w, hw⟩ := (parts_cut ne).mp hz
      have := ih w c d hw hw.1
      have ec : ((cost true p q : Nat) : Int) = ab (p - q) := by
        unfold cost
        rw [if_pos rfl]
        have : 0 ≤ ab (p - q) := by
          unfold ab
          split <;> omega
        omega
      dsimp only at hle
      omega
    · have : a = b := by omega
      unfold Stp
      rw [if_pos this]
      omega
theorem en_up {L : Int} : ∀ (m : Nat) (a b p : Int), 1 ≤ p → p ≤ a → a ≤ b → b ≤ L → (b - p).toNat = m → En true L m a b p
  | 0, a, b, p, h1, h2, h3, h4, hm => by
    rw [show a = b by omega]
    exact .one
  | m + 1, a, b, p, h1, h2, h3, h4, hm => by
    by_cases hab : a = b
    · rw [hab]
      exact .one
    · refine .go (p + 1) (by omega) (by omega) (by omega) (by rw [cost_next]; omega) fun w c d hcut => ?_
      rw [cost_next]
      show En true L m c d (p + 1)
      have hs := hcut.sub
      have hcd := hcut.1
      by_cases hc : c ≤ p
      · have hc' := (hcut.2 c).mp ⟨by omega, hcd⟩
        have hd' := (hcut.2 d).mp ⟨hcd, by omega⟩
        have e := hc'.2.2.trans hd'.2.2.symm
        rw [mv_next, mv_next, if_pos hc] at e
        have hdp : d ≤ p := by
          by_cases z : d ≤ p
          · exact z
          · rw [if_neg z] at e
            cases e
        rw [show c = d by omega]
        exact .one
      · exact (en_up m (max a (p + 1)) b (p + 1) (by omega) (by omega) (by omega) h4 (by omega)).less (by omega) hcd hs.2
theorem en_down {L : Int} (m : Nat) (a b p : Int) (h1 : p ≤ L) (h2 : b ≤ p) (h3 : a ≤ b) (h4 : 1 ≤ a) (hm : (p - a).toNat = m) : En true L m a b p :=
  En.mirror_iff.mp (en_up m (L + 1 - b) (L + 1 - a) (L + 1 - p) (by omega) (by omega) (by omega) (by omega) (by omega))
theorem en_upfirst {L : Int} {a b p : Int} (h1 : 1 ≤ a) (h2 : a < p) (h3 : p < b) (h4 : b ≤ L) : En true L (max (b - p) (p - a + 2)).toNat a b p := by
  refine .go (p + 1) (by omega) (by omega) (by omega) (by rw [cost_next]; omega) fun w c d hcut => ?_
  rw [cost_next]
  have hs := hcut.sub
  have hcd := hcut.1
  have hc' := (hcut.2 c).mp ⟨by omega, hcd⟩
  have hd' := (hcut.2 d).mp ⟨hcd, by omega⟩
  have e := hc'.2.2.trans hd'.2.2.symm
  rw [mv_next, mv_next] at e
  by_cases hc : c ≤ p
  · have hdp : d ≤ p := by
      by_cases z : d ≤ p
      · exact z
      · rw [if_pos hc, if_neg z] at e
        cases e
    exact (en_down (p + 1 - c).toNat c d (p + 1) (by omega) (by omega) hcd (by omega) rfl).mono (by omega)
  · exact (en_up (d - (p + 1)).toNat c d (p + 1) (by omega) (by omega) hcd (by omega) rfl).mono (by omega)
theorem sx_en {L a b p : Int} (h1 : 1 ≤ a) (h2 : a ≤ b) (h3 : b ≤ L) (h4 : 1 ≤ p) (h5 : p ≤ L) : En true L (Stp a b p).toNat a b p := by
  unfold Stp
  split
  · rename_i e
    rw [e]
    exact .one
  · split
    · exact en_up _ a b p h4 (by omega) h2 h3 rfl
    · split
      · exact en_down _ a b p h5 (by omega) h2 h1 rfl
      · by_cases z : max (b - p) (p - a + 2) ≤ max (p - a) (b - p + 2)
        · rw [Int.min_eq_left z]
          exact en_upfirst h1 (by omega) (by omega) h3
        · rw [Int.min_eq_right (by omega)]
          have := en_upfirst (L := L) (a := L + 1 - b) (b := L + 1 - a) (p := L + 1 - p) (by omega) (by omega) (by omega) (by omega)
          have := En.mirror_iff.mp this
          refine this.mono ?_
          omega
theorem sx_least {L a b p : Int} (h1 : 1 ≤ a) (h2 : a ≤ b) (h3 : b ≤ L) (h4 : 1 ≤ p) (h5 : p ≤ L) : LeastN true L a b p (Stp a b p).toNat :=
  ⟨sx_en h1 h2 h3 h4 h5, fun k hk e => by
    have := sx_le e h2
    omega⟩
theorem cost_ab (p q : Int) : ((cost true p q : Nat) : Int) = ab (p - q) := by
  unfold cost
  rw [if_pos rfl]
  have : 0 ≤ ab (p - q) := by
    unfold ab
    split <;> omega
  omega
/-- by q just as few steps are enough: reckoned -/
theorem good_steps {L a b p q m : Int} (h1 : 1 ≤ a) (h2 : a < b) (h3 : b ≤ L) (hq : 1 ≤ q ∧ q ≤ L) (ne : q ≠ p) (hm : ∃ z ∈ partsOf a b p q, m = Stp z.1 z.2 q) (hmax : ∀ z ∈ partsOf a b p q, Stp z.1 z.2 q ≤ m) :
    Good true L (Stp a b p).toNat a b p q ↔ ab (q - p) + m = Stp a b p := by
  have eab : ab (q - p) = ab (p - q) := by
    unfold ab
    repeat' split
    all_goals omega
  rw [good_parts ne, eab]
  have hc := cost_ab p q
  have hin : ∀ z ∈ partsOf a b p q, 1 ≤ z.1 ∧ z.1 ≤ z.2 ∧ z.2 ≤ L := fun z hz => by
    obtain ⟨c, d⟩ := z
    obtain ⟨w, hw⟩ := (parts_cut ne).mp hz
    have := hw.sub
    have := hw.1
    exact ⟨by show 1 ≤ c; omega, this, by show d ≤ L; omega⟩
  have hpos := Stp_pos (p := p) h2
  constructor
  · rintro ⟨g1, g2⟩
    obtain ⟨z, hz, rfl⟩ := hm
    have hle := sx_le (g2 z hz) (hin z hz).2.1
    obtain ⟨y, hy, hyl⟩ := Stp_low (q := q) h2 ne
    have := hmax y hy
    omega
  · intro e
    have hm0 : 0 ≤ m := by
      obtain ⟨z, hz, rfl⟩ := hm
      exact Stp_nonneg (hin z hz).2.1
    refine ⟨by omega, fun z hz => ?_⟩
    have i := hin z hz
    refine (sx_en i.1 i.2.1 i.2.2 hq.1 hq.2).mono ?_
    have := hmax z hz
    have := Stp_nonneg (p := q) i.2.1
    omega
/-! ### min of a list of pairs of ints -/
def lexle (p q : Int × Int) : Prop := p.1 < q.1 ∨ p.1 = q.1 ∧ p.2 ≤ q.2
theorem lt_pair (p q : Int × Int) : PySem.W.DatumOrd.lt p q = true ↔ p.1 < q.1 ∨ p.1 = q.1 ∧ p.2 < q.2 := by
  show (if p.1 = q.1 then decide (p.2 < q.2) else decide (p.1 < q.1)) = true ↔ _
  split
  · rename_i h
    rw [decide_eq_true_iff]
    constructor
    · intro z
      exact .inr ⟨h, z⟩
    · rintro (z | z)
      · omega
      · exact z.2
  · rename_i h
    rw [decide_eq_true_iff]
    constructor
    · intro z
      exact .inl z
    · rintro (z | z)
      · exact z
      · exact absurd z.1 h
theorem minOf_pairs : ∀ (xs : List (Int × Int)) (x : Int × Int), (PySem.W.minOf x xs = x ∨ PySem.W.minOf x xs ∈ xs) ∧ lexle (PySem.W.minOf x xs) x ∧ ∀ y ∈ xs, lexle (PySem.W.minOf x xs) y
  | [], x => ⟨.inl rfl, .inr ⟨rfl, Int.le_refl _⟩, fun y hy => (nomatch hy)⟩
  | z :: xs, x => by
    have tr : ∀ {a b c : Int × Int}, lexle a b → lexle b c → lexle a c := fun {a b c} h1 h2 => by
      unfold lexle at *
      omega
    have e : PySem.W.minOf x (z :: xs) = PySem.W.minOf (if PySem.W.DatumOrd.lt z x = true then z else x) xs := rfl
    rw [e]
    by_cases h : PySem.W.DatumOrd.lt z x = true
    · rw [if_pos h]
      obtain ⟨h1, h2, h3⟩ := minOf_pairs xs z
      have hz : lexle z x := by
        have := (lt_pair z x).mp h
        unfold lexle
        omega
      refine ⟨?_, tr h2 hz, fun y hy => ?_⟩
      · rcases h1 with h1 | h1
        · exact .inr (by rw [h1]; exact List.mem_cons_self)
        · exact .inr (List.mem_cons_of_mem _ h1)
      · rcases List.mem_cons.mp hy with rfl | hy
        · exact h2
        · exact h3 y hy
    · rw [if_neg h]
      obtain ⟨h1, h2, h3⟩ := minOf_pairs xs x
      have hz : lexle x z := by
        have : ¬ (z.1 < x.1 ∨ z.1 = x.1 ∧ z.2 < x.2) := fun t => h ((lt_pair z x).mpr t)
        unfold lexle
        omega
      refine ⟨?_, h2, fun y hy => ?_⟩
      · rcases h1 with h1 | h1
        · exact .inl h1
        · exact .inr (List.mem_cons_of_mem _ h1)
      · rcases List.mem_cons.mp hy with rfl | hy
        · exact tr h2 hz
        · exact h3 y hy
/-- at us stand the pairs ps -/
inductive AtPairs (H : Hp) : List Addr → List (Int × Int) → Prop
  | nil : AtPairs H [] []
  | cons {u : Addr} {us : List Addr} {p : Int × Int} {ps : List (Int × Int)} : H u = some (.tup [.int p.1, .int p.2]) → AtPairs H us ps → AtPairs H (u :: us) (p :: ps)
theorem AtPairs.ex {H H' : Hp} (e : Ex H H') : ∀ {us : List Addr} {ps : List (Int × Int)}, AtPairs H us ps → AtPairs H' us ps
  | _, _, .nil => .nil
  | _, _, .cons h t => .cons (e _ _ h) (t.ex e)
theorem AtPairs.snoc {H : Hp} {u : Addr} {p : Int × Int} (h : H u = some (.tup [.int p.1, .int p.2])) : ∀ {us : List Addr} {ps : List (Int × Int)}, AtPairs H us ps → AtPairs H (us ++ [u]) (ps ++ [p])
  | _, _, .nil => .cons h .nil
  | _, _, .cons g t => .cons g (t.snoc h)
theorem AtPairs.len {H : Hp} : ∀ {us : List Addr} {ps : List (Int × Int)}, AtPairs H us ps → us.length = ps.length
  | _, _, .nil => rfl
  | _, _, .cons _ t => by rw [List.length_cons, List.length_cons, t.len]
theorem AtPairs.at {H : Hp} : ∀ {us : List Addr} {ps : List (Int × Int)}, AtPairs H us ps → ∀ {i : Nat} {u : Addr}, us[i]? = some u → ∃ p, ps[i]? = some p ∧ H u = some (.tup [.int p.1, .int p.2])
  | _, _, .nil, i, u, h => by simp at h
  | _, _, .cons g t, 0, u, h => by
    cases h
    exact ⟨_, rfl, g⟩
  | _, _, .cons g t, i + 1, u, h => t.at (i := i) h
theorem AtPairs.mut {H : Hp} {U : Addr} {xs : List V} {o : HO} (hU : H U = some (.lst xs)) : ∀ {us : List Addr} {ps : List (Int × Int)}, AtPairs H us ps → AtPairs (upd H U o) us ps
  | _, _, .nil => .nil
  | _, _, .cons h t => .cons (by rw [upd_ne (ne_of h hU (by intro z; cases z))]; exact h) (t.mut hU)
def dPr (p : Int × Int) : PyData := .tuple [.int p.1, .int p.2]
theorem AtPairs.dp {K : PySem.W.Frag} {H : Hp} : ∀ {us : List Addr} {ps : List (Int × Int)}, AtPairs H us ps → DpAll K H (us.map V.ref) (ps.map dPr)
  | _, _, .nil => .nil
  | _, _, .cons g t => .cons (.tup (SqT.of g) (.cons (.int _) (.cons (.int _) .nil))) t.dp
def rMinP (K : PySem.W.Frag) : List V → Hp → VK → Prop := fun vs H Q => ∃ (a : Addr) (us : List Addr) (ps : List (Int × Int)), vs = [V.ref a] ∧ SqL K H a (us.map V.ref) ∧ AtPairs H us ps ∧ ps ≠ [] ∧
  ∀ u p, H u = some (.tup [.int p.1, .int p.2]) → p ∈ ps → (∀ q ∈ ps, lexle p q) → Q (.ref u) H
theorem vals_refs : ∀ {us : List Addr} {its : List Value} {i : Nat} {v : Value}, Vals (us.map V.ref) its → its[i]? = some v → ∃ u, us[i]? = some u ∧ v = .ref u
  | [], _, i, v, r, h => by
    cases r
    simp at h
  | u :: us, _, 0, v, r, h => by
    cases r with
    | cons r1 r2 =>
      cases h
      exact ⟨u, rfl, r1⟩
  | u :: us, _, i + 1, v, r, h => by
    cases r with
    | cons r1 r2 => exact vals_refs (us := us) (i := i) r2 h
theorem cr_minP {X : Cx} (hc : X.calm = true) (hu : X.A.units + 65 < cLine) : CallR X (.builtin "min") (rMinP X.K) := by
  intro pins s σ H vs us' Q I r h
  obtain ⟨a, us, ps, rfl, hs, hat, hne, q⟩ := h
  obtain ⟨its, rv, hl, _⟩ := I.list hs
  rw [Vals.ref1 r]
  match ps, hat, hne, q with
  | p :: ps, hat, _, q =>
    obtain ⟨as, hr⟩ := Dp.readsAll I ((p :: ps).map dPr) (us.map V.ref) its hat.dp rv
    have hH : PySem.W.HoldAll s.heap its.toArray.toList (p :: ps) := ⟨as, hr⟩
    refine PySem.W.min_list_datum (I.ok.hd hc) hl.isList hH (by show X.A.units + 1 + (max 0 0 + 1) < cLine; omega) fun i v h' tk hi hh hk => ?_
    have hi' : its[i]? = some v := by
      rw [List.getElem?_toArray] at hi
      exact hi
    obtain ⟨u, hu', rfl⟩ := vals_refs rv hi'
    obtain ⟨p', hp', hup⟩ := hat.at hu'
    obtain ⟨as1, r1⟩ := Dp.reads I (dPr p') (.ref u) (.ref u) (.tup (SqT.of hup) (.cons (.int _) (.cons (.int _) .nil))) rfl
    obtain ⟨as2, r2⟩ := hh
    have e := (PyProof.Rows.reads_det (fun b o hb _ => hk b o hb) r1 r2).1
    have ep : PySem.W.minOf p ps = p' := by
      injection e with e
      injection e with e1 e2
      injection e2 with e3 e4
      injection e1 with e1
      injection e3 with e3
      exact Prod.ext e1 e3
    obtain ⟨m1, m2, m3⟩ := minOf_pairs ps p
    rw [ep] at m2 m3
    refine ⟨.ref u, H, I.kept hk, rfl, q u p' hup (List.mem_of_getElem? hp') fun z hz => ?_⟩
    rcases List.mem_cons.mp hz with rfl | hz
    · exact m2
    · exact m3 z hz
theorem AtPairs.mutG {H : Hp} {U : Addr} {o : HO} (hU : ∀ xs, H U ≠ some (.tup xs)) : ∀ {us : List Addr} {ps : List (Int × Int)}, AtPairs H us ps → AtPairs (upd H U o) us ps
  | _, _, .nil => .nil
  | _, _, .cons h t => .cons (by rw [upd_ne (fun z => hU _ (z ▸ h))]; exact h) (t.mutG hU)
def sp_parts_of (K : PySem.W.Frag) : Sp := fun vs H Q _ => ∃ (s : Addr) (a b p q : Int), vs = [.ref s, .int p, .int q] ∧ H s = some (.tup [.int a, .int b]) ∧
  ∀ D H' us, H D = none → Ex H H' → H' D = some (.lst (us.map V.ref)) → AtPairs H' us (partsOf a b p q) → Q (.ref D) H'
abbrev N_parts_of : List Str := ["stretch", "earlier", "later", "low", "high", "middle_twice", "below", "inside", "above", "part"]
def t_parts_of (K : PySem.W.Frag) : TS := (tSeq (tAsg (tVar 0) (gTup K 2 (gCons (gName 3) (gCons (gName 4) gNil))))
  (tSeq (tAsg (tOp (rI0 fun i j => .int (i + j)) (tVar 1) (tVar 2)) (gName 5))
  (tSeq (tAsg (tTup (tCons (tVar 3) (tCons (tCB rMin2 (tCons (tVar 4) (tCons (tOp (rI CDiv fun i j => .int (i / j)) (tOp (rI0 fun i j => .int (i - j)) (tVar 5) (tC (.int 1))) (tC (.int 2))) tNil))) tNil))) (gName 6))
  (tSeq (tAsg (tTup (tCons (tCB rMax2 (tCons (tVar 3) (tCons (tOp (rI CDiv fun i j => .int (i / j)) (tOp (rI0 fun i j => .int (i + j)) (tVar 5) (tC (.int 1))) (tC (.int 2))) tNil))) (tCons (tCB rMin2 (tCons (tVar 4) (tCons (tOp (rI CDiv fun i j => .int (i / j)) (tVar 5) (tC (.int 2))) tNil))) tNil))) (gName 7))
  (tSeq (tAsg (tTup (tCons (tCB rMax2 (tCons (tVar 3) (tCons (tOp (rI0 fun i j => .int (i + j)) (tOp (rI CDiv fun i j => .int (i / j)) (tVar 5) (tC (.int 2))) (tC (.int 1))) tNil))) (tCons (tVar 4) tNil))) (gName 8))
  (tRet (tLc (iTup K (tTup (tCons (tVar 6) (tCons (tVar 7) (tCons (tVar 8) tNil))))) (gName 9) (tTest (tOp (rI0 fun i j => .bl (decide (i ≤ j))) (tOp (rIxT K) (tVar 9) (tC (.int 0))) (tOp (rIxT K) (tVar 9) (tC (.int 1))))) (tVar 9) [9])))))))
theorem if_min (i j : Int) : (if j < i then j else i) = min i j := by
  split <;> omega
theorem if_max (i j : Int) : (if j > i then j else i) = max i j := by
  split <;> omega
theorem pure_parts_of {K : PySem.W.Frag} {vs : List V} {H : Hp} {Q : VK} {E : XK} (h : sp_parts_of K vs H Q E) : t_parts_of K { nx := fun _ H' => Q .non H', rt := Q } (start N_parts_of vs) H := by
  obtain ⟨s, a, b, p, q', rfl, hs, q⟩ := h
  refine ⟨_, rfl, s, _, rfl, SqT.of hs, rfl, _, _, rfl, _, [], rfl, rfl, ?_⟩
  refine ⟨_, rfl, _, rfl, p, q', rfl, rfl, ?_⟩
  refine ⟨_, rfl, _, rfl, _, rfl, p + q', 1, rfl, rfl, p + q' - 1, 2, rfl, rfl, ⟨by decide, by decide⟩, b, _, rfl, by show 2 ≤ sizeLine; decide, fun u1 n1 => ?_⟩
  dsimp only
  rw [if_min]
  have e1 : Ex H (upd H u1 (.tup [.int a, .int (min b ((p + q' - 1) / 2))])) := Ex.new n1
  have g1 : (upd H u1 (.tup [.int a, .int (min b ((p + q' - 1) / 2))])) u1 = some (.tup [.int a, .int (min b ((p + q' - 1) / 2))]) := upd_same
  generalize upd H u1 (.tup [.int a, .int (min b ((p + q' - 1) / 2))]) = H1 at e1 g1 ⊢
  refine ⟨_, rfl, _, rfl, p + q', 1, rfl, rfl, p + q' + 1, 2, rfl, rfl, ⟨by decide, by decide⟩, a, _, rfl, _, rfl, _, rfl, p + q', 2, rfl, rfl, ⟨by decide, by decide⟩, b, _, rfl, by show 2 ≤ sizeLine; decide, fun u2 n2 => ?_⟩
  dsimp only
  rw [if_min, if_max]
  have e2 : Ex H1 (upd H1 u2 (.tup [.int (max a ((p + q' + 1) / 2)), .int (min b ((p + q') / 2))])) := Ex.new n2
  have g2 : (upd H1 u2 (.tup [.int (max a ((p + q' + 1) / 2)), .int (min b ((p + q') / 2))])) u2 = some (.tup [.int (max a ((p + q' + 1) / 2)), .int (min b ((p + q') / 2))]) := upd_same
  generalize upd H1 u2 (.tup [.int (max a ((p + q' + 1) / 2)), .int (min b ((p + q') / 2))]) = H2 at e2 g2 ⊢
  refine ⟨_, rfl, _, rfl, p + q', 2, rfl, rfl, ⟨by decide, by decide⟩, _, 1, rfl, rfl, a, _, rfl, _, rfl, by show 2 ≤ sizeLine; decide, fun u3 n3 => ?_⟩
  dsimp only
  rw [if_max]
  have e3 : Ex H2 (upd H2 u3 (.tup [.int (max a ((p + q') / 2 + 1)), .int b])) := Ex.new n3
  have g3 : (upd H2 u3 (.tup [.int (max a ((p + q') / 2 + 1)), .int b])) u3 = some (.tup [.int (max a ((p + q') / 2 + 1)), .int b]) := upd_same
  generalize upd H2 u3 (.tup [.int (max a ((p + q') / 2 + 1)), .int b]) = H3 at e3 g3 ⊢
  refine ⟨_, rfl, _, rfl, _, rfl, by show 3 ≤ sizeLine; decide, fun t nt => ?_⟩
  have e4 : Ex H3 (upd H3 t (.tup [.ref u1, .ref u2, .ref u3])) := Ex.new nt
  have gt : (upd H3 t (.tup [.ref u1, .ref u2, .ref u3])) t = some (.tup ([u1, u2, u3].map V.ref)) := upd_same
  have hp3 : AtPairs (upd H3 t (.tup [.ref u1, .ref u2, .ref u3])) [u1, u2, u3] (parts3 a b p q') := .cons (e4 _ _ (e3 _ _ (e2 _ _ g1))) (.cons (e4 _ _ (e3 _ _ g2)) (.cons (e4 _ _ g3) .nil))
  have e04 := ((e1.trans e2).trans e3).trans e4
  generalize upd H3 t (.tup [.ref u1, .ref u2, .ref u3]) = H4 at e04 gt hp3 ⊢
  refine ⟨t, rfl, ⟨_, SqT.of gt⟩, fun D hD => ?_⟩
  refine lc_tup (xs := [u1, u2, u3].map V.ref) (fun i H' => Ex H4 H' ∧ ∃ us : List Addr, H' D = some (.lst (us.map V.ref)) ∧ us.length ≤ i ∧ AtPairs H' us (((parts3 a b p q').take i).filter fun z => decide (z.1 ≤ z.2)))
    ⟨Ex.new hD, [], upd_same, Nat.le_refl _, .nil⟩ (fun i H' _ p => SqT.of (p.1 _ _ gt)) (fun i x H' hx p => ?_) (fun H' p => ?_)
  · obtain ⟨e5, us, hd, hul, hps⟩ := p
    have hi : i < 3 := (List.getElem?_eq_some_iff.mp hx).1
    obtain ⟨u, hu, rfl⟩ : ∃ u, [u1, u2, u3][i]? = some u ∧ x = .ref u := by
      rw [List.getElem?_map] at hx
      cases hg : [u1, u2, u3][i]? with
      | none => rw [hg] at hx; cases hx
      | some u =>
        rw [hg] at hx
        exact ⟨u, rfl, (Option.some.inj hx).symm⟩
    obtain ⟨z, hz, hzu⟩ := hp3.at hu
    have hzu5 := e5 _ _ hzu
    have etk : (((parts3 a b p q').take (i + 1)).filter fun z => decide (z.1 ≤ z.2)) = (((parts3 a b p q').take i).filter fun z => decide (z.1 ≤ z.2)) ++ (if z.1 ≤ z.2 then [z] else []) := by
      rw [List.take_add_one, hz, List.filter_append]
      congr 1
      by_cases hzz : z.1 ≤ z.2
      · rw [if_pos hzz]
        simp [hzz]
      · rw [if_neg hzz]
        simp [hzz]
    refine ⟨rfl, _, rfl, u, _, 0, .int z.1, rfl, rfl, SqT.of hzu5, rfl, _, rfl, u, _, 1, .int z.2, rfl, rfl, SqT.of hzu5, rfl, z.1, z.2, rfl, rfl, _, rfl, ite2 (fun hle => ?_) (fun hle => ?_)⟩
    · have hle := of_decide_eq_true hle
      rw [if_pos hle] at etk
      refine ⟨_, rfl, _, hd, ?_, e5.mut hD, us ++ [u], ?_, ?_, ?_⟩
      · rw [List.length_map]
        exact small1000 (by omega)
      · rw [upd_same, List.map_append]
        rfl
      · rw [List.length_append]
        show us.length + 1 ≤ i + 1
        omega
      · rw [etk]
        exact (hps.snoc hzu5).mutG fun xs zz => by
          rw [hd] at zz
          cases zz
    · rw [if_neg (fun w => hle (decide_eq_true w)), List.append_nil] at etk
      refine ⟨e5, us, hd, by omega, ?_⟩
      rw [etk]
      exact hps
  · obtain ⟨e5, us, hd, hul, hps⟩ := p
    exact q D H' us (fresh_back e04 hD) (e04.trans e5) hd hps
theorem len_parts_of {K : PySem.W.Frag} {vs : List V} {H : Hp} {Q : VK} {E : XK} (h : sp_parts_of K vs H Q E) : vs.length = 3 := by
  obtain ⟨s, a, b, p, q', rfl, _⟩ := h
  rfl
def others (l p : Int) : List Int := (rng 1 (l + 1)).filter fun t => !decide ((V.int t : V) = V.int p)
theorem mem_others {l p t : Int} : t ∈ others l p ↔ (1 ≤ t ∧ t ≤ l) ∧ t ≠ p := by
  unfold others
  rw [List.mem_filter, mem_rng]
  constructor
  · rintro ⟨⟨h1, h2⟩, h3⟩
    refine ⟨⟨h1, by omega⟩, fun z => ?_⟩
    rw [z, decide_eq_true rfl] at h3
    cases h3
  · rintro ⟨⟨h1, h2⟩, h3⟩
    refine ⟨⟨h1, by omega⟩, ?_⟩
    rw [decide_eq_false (fun z => h3 (V.int.inj z))]
    rfl
theorem others_up (l p : Int) : (others l p).Pairwise (· < ·) := by
  unfold others
  refine List.Pairwise.filter _ ?_
  unfold rng
  rw [List.pairwise_map]
  refine List.Pairwise.imp ?_ List.pairwise_lt_range
  intro x y h
  omega
theorem others_len (l p : Int) : (others l p).length ≤ l.toNat := by
  unfold others
  refine Nat.le_trans (List.length_filter_le _ _) ?_
  rw [rng_len]
  omega
/-- what stands ahead of the i-th -/
theorem up_take : ∀ {l : List Int}, l.Pairwise (· < ·) → ∀ {i : Nat} {q r : Int}, l[i]? = some q → r ∈ l → r < q → r ∈ l.take i
  | [], _, _, _, _, h, _, _ => by simp at h
  | x :: l, hp, 0, q, r, h, hr, hlt => by
    have e : x = q := Option.some.inj h
    rcases List.mem_cons.mp hr with z | z
    · omega
    · have := (List.pairwise_cons.mp hp).1 r z
      omega
  | x :: l, hp, i + 1, q, r, h, hr, hlt => by
    rw [List.take_succ_cons]
    rcases List.mem_cons.mp hr with z | z
    · rw [z]
      exact List.mem_cons_self
    · exact List.mem_cons_of_mem _ (up_take (List.pairwise_cons.mp hp).2 h z hlt)
def sp_other_places (K : PySem.W.Frag) : Sp := fun vs H Q _ => ∃ l p : Int, vs = [.int l, .int p] ∧ 0 ≤ l ∧ l ≤ 60 ∧ ∀ D H', H D = none → Ex H H' → H' D = some (.lst ((others l p).map V.int)) → Q (.ref D) H'
abbrev N_other_places : List Str := ["length", "place", "other"]
def t_other_places (K : PySem.W.Frag) : TS := (tRet (tLc (iRng2 (tCons (tC (.int 1)) (tCons (tOp (rI0 fun i j => .int (i + j)) (tVar 0) (tC (.int 1))) tNil))) (gName 2) (tTest (tOp rNe (tVar 2) (tVar 1))) (tVar 2) [2]))
theorem pure_other_places {K : PySem.W.Frag} {vs : List V} {H : Hp} {Q : VK} {E : XK} (h : sp_other_places K vs H Q E) : t_other_places K { nx := fun _ H' => Q .non H', rt := Q } (start N_other_places vs) H := by
  obtain ⟨l, p, rfl, h0, h1, q⟩ := h
  have hc : Evl.EvL (tLc (iRng2 (tCons (tC (.int 1)) (tCons (tOp (rI0 fun i j => .int (i + j)) (tVar 0) (tC (.int 1))) tNil))) (gName 2) (tTest (tOp rNe (tVar 2) (tVar 1))) (tVar 2) [2]) (start N_other_places [.int l, .int p]) H ((others l p).map V.int) := by
    refine el_rng (fun t => !decide ((V.int t : V) = V.int p)) V.int (Evl.ea_cons Evl.ev_c (Evl.ea_cons (Evl.ev_op (Evl.ev_var rfl) Evl.ev_c Evl.rv_I0) Evl.ea_nil)) (by omega) (fun _ => rfl) (fun n H3 e3 _ _ => ?_) (fun n H3 e3 _ _ _ => Evl.ev_var rfl)
    intro H4 e4 Q4 q4
    exact ⟨_, rfl, _, rfl, rfl, _, rfl, q4 H4 (Ex.refl H4)⟩
  exact hc H (Ex.refl H) _ fun D H2 nD e2 h2 => q D H2 nD e2 h2
theorem len_other_places {K : PySem.W.Frag} {vs : List V} {H : Hp} {Q : VK} {E : XK} (h : sp_other_places K vs H Q E) : vs.length = 2 := by
  obtain ⟨l, p, rfl, _⟩ := h
  rfl
/-! ### dicts whose keys are ((lo, hi), place, spare) -/
abbrev SK := Int × Int × Int × Int
def nk (k : SK) : NestedKey := .tup [.tup [.num k.1, .num k.2.1], .num k.2.2.1, .num k.2.2.2]
theorem nk_inj {a b : SK} (h : nk a = nk b) : a = b := by
  unfold nk at h
  injection h with h
  injection h with h1 h2
  injection h1 with h1
  injection h1 with h3 h4
  injection h4 with h4 _
  injection h2 with h5 h6
  injection h6 with h6 _
  injection h3 with h3
  injection h4 with h4
  injection h5 with h5
  injection h6 with h6
  exact Prod.ext h3 (Prod.ext h4 (Prod.ext h5 h6))
/-- the spot k stands at b -/
def SpotAt (H : Hp) (b : Addr) (k : SK) : Prop := ∃ sb, H b = some (.tup [.ref sb, .int k.2.2.1, .int k.2.2.2]) ∧ H sb = some (.tup [.int k.1, .int k.2.1])
theorem SpotAt.ex {H H' : Hp} {b : Addr} {k : SK} (e : Ex H H') (h : SpotAt H b k) : SpotAt H' b k := by
  obtain ⟨sb, h1, h2⟩ := h
  exact ⟨sb, e _ _ h1, e _ _ h2⟩
theorem SpotAt.mutG {H : Hp} {b U : Addr} {k : SK} {o : HO} (hU : ∀ xs, H U ≠ some (.tup xs)) (h : SpotAt H b k) : SpotAt (upd H U o) b k := by
  obtain ⟨sb, h1, h2⟩ := h
  exact ⟨sb, by rw [upd_ne (fun z => hU _ (z ▸ h1))]; exact h1, by rw [upd_ne (fun z => hU _ (z ▸ h2))]; exact h2⟩
abbrev NT := List (SK × Addr × V)
def NP (p : SK × Addr × V) (q : NestedKey × Addr × Value) : Prop := nk p.1 = q.1 ∧ p.2.1 = q.2.1 ∧ RelV p.2.2 q.2.2
def dNo (P : Program) (w : World) (a : Addr) (kvs : NT) : HO := .ext fun h => kvs.length ≤ sizeLine ∧ (a == sysModules) = false ∧ ∃ xs : List (NestedKey × Addr × Value), Paired NP kvs xs ∧
  ∃ o es ep, h.get? a = some o ∧ o.ExactDict ∧ o.data = .dict es ep ∧ es.toList = xs.map (entryOfKey (nestedKind P w)) ∧ (xs.map (·.1)).Nodup
def NAt (H : Hp) (kvs : NT) : Prop := ∀ e ∈ kvs, SpotAt H e.2.1 e.1
def ND (P : Program) (w : World) (H : Hp) (a : Addr) (kvs : NT) : Prop := H a = some (dNo P w a kvs) ∧ NAt H kvs
def valN (kvs : NT) (k : SK) : Option V := (kvs.find? fun e => decide (e.1 = k)).map (·.2.2)
def putN (kvs : NT) (k : SK) (b : Addr) (v : V) : NT := if (valN kvs k).isSome = true then kvs.map (fun e => if e.1 = k then (e.1, e.2.1, v) else e) else kvs ++ [(k, b, v)]
theorem dNo_ne_tup {P : Program} {w : World} {a : Addr} {kvs : NT} {xs : List V} : dNo P w a kvs ≠ .tup xs := fun z => by
  unfold dNo at z
  cases z
theorem dNo_ne_lst {P : Program} {w : World} {a : Addr} {kvs : NT} {xs : List V} : dNo P w a kvs ≠ .lst xs := fun z => by
  unfold dNo at z
  cases z
theorem valN_pos {e : SK × Addr × V} {r : NT} {k : SK} (h : e.1 = k) : valN (e :: r) k = some e.2.2 := by simp [valN, List.find?_cons, h]
theorem valN_neg {e : SK × Addr × V} {r : NT} {k : SK} (h : ¬ e.1 = k) : valN (e :: r) k = valN r k := by simp [valN, List.find?_cons, h]
theorem valN_map (k j : SK) (v : V) : ∀ kvs : NT, valN (kvs.map fun e => if e.1 = k then (e.1, e.2.1, v) else e) j = if j = k then (valN kvs j).map fun _ => v else valN kvs j
  | [] => by
    split <;> rfl
  | e :: r => by
    rw [List.map_cons]
    have hk : (if e.1 = k then (e.1, e.2.1, v) else e).1 = e.1 := by split <;> rfl
    by_cases h : e.1 = j
    · rw [valN_pos (hk.trans h), valN_pos h]
      by_cases hj : j = k
      · rw [if_pos (h.trans hj), if_pos hj]
        rfl
      · rw [if_neg (fun z => hj (h.symm.trans z)), if_neg hj]
    · rw [valN_neg (fun z => h (hk.symm.trans z)), valN_neg h, valN_map k j v r]
theorem valN_snoc (k j : SK) (b : Addr) (v : V) : ∀ kvs : NT, valN kvs k = none → valN (kvs ++ [(k, b, v)]) j = if j = k then some v else valN kvs j
  | [], _ => by
    by_cases h : j = k
    · rw [if_pos h]
      exact valN_pos (e := (k, b, v)) h.symm
    · rw [if_neg h]
      exact valN_neg (e := (k, b, v)) (fun z => h z.symm)
  | e :: r, hn => by
    by_cases he : e.1 = k
    · rw [valN_pos he] at hn
      cases hn
    · rw [valN_neg he] at hn
      rw [List.cons_append]
      by_cases h : e.1 = j
      · rw [valN_pos h, valN_pos h, if_neg (fun z => he (h.trans z))]
      · rw [valN_neg h, valN_neg h, valN_snoc k j b v r hn]
theorem valN_put (kvs : NT) (k j : SK) (b : Addr) (v : V) : valN (putN kvs k b v) j = if j = k then some v else valN kvs j := by
  unfold putN
  by_cases h : (valN kvs k).isSome = true
  · rw [if_pos h, valN_map]
    by_cases hj : j = k
    · rw [if_pos hj, if_pos hj, hj]
      obtain ⟨x, hx⟩ := Option.isSome_iff_exists.mp h
      rw [hx]
      rfl
    · rw [if_neg hj, if_neg hj]
  · rw [if_neg h]
    refine valN_snoc k j b v kvs ?_
    cases hq : valN kvs k with
    | none => rfl
    | some x =>
      rw [hq] at h
      exact absurd rfl h
theorem putN_len (kvs : NT) (k : SK) (b : Addr) (v : V) : (putN kvs k b v).length ≤ kvs.length + 1 := by
  unfold putN
  split
  · rw [List.length_map]
    omega
  · rw [List.length_append]
    exact Nat.le_refl _
theorem NAt.put {H : Hp} {kvs : NT} {k : SK} {b : Addr} {v : V} (h : NAt H kvs) (hb : SpotAt H b k) : NAt H (putN kvs k b v) := fun e he => by
  unfold putN at he
  split at he
  · obtain ⟨x, hx, rfl⟩ := List.mem_map.mp he
    split
    · exact h x hx
    · exact h x hx
  · rcases List.mem_append.mp he with z | z
    · exact h e z
    · rw [List.mem_singleton.mp z]
      exact hb
theorem NAt.ex {H H' : Hp} {kvs : NT} (e : Ex H H') (h : NAt H kvs) : NAt H' kvs := fun x hx => (h x hx).ex e
theorem NAt.mutG {H : Hp} {U : Addr} {kvs : NT} {o : HO} (hU : ∀ xs, H U ≠ some (.tup xs)) (h : NAt H kvs) : NAt (upd H U o) kvs := fun x hx => (h x hx).mutG hU
theorem ND.ex {P : Program} {w : World} {H H' : Hp} {a : Addr} {kvs : NT} (e : Ex H H') (h : ND P w H a kvs) : ND P w H' a kvs := ⟨e _ _ h.1, h.2.ex e⟩
/-! the pairs, side by side -/
theorem np_val {kvs : NT} {xs : List (NestedKey × Addr × Value)} (r : Paired NP kvs xs) (k : SK) : RelO (valN kvs k) ((atKey xs (nk k)).map (·.2)) := by
  induction r with
  | nil => exact True.intro
  | @cons p q ps qs h t ih =>
    obtain ⟨h1, _, h2⟩ := h
    by_cases e : p.1 = k
    · have e' : q.1 = nk k := by rw [← h1, e]
      have b : atKey (q :: qs) (nk k) = some q.2 := by simp [atKey, List.find?_cons, e']
      rw [valN_pos e, b]
      exact h2
    · have e' : ¬ q.1 = nk k := fun z => e (nk_inj (h1.trans z))
      have b : atKey (q :: qs) (nk k) = atKey qs (nk k) := by simp [atKey, List.find?_cons, e']
      rw [valN_neg e, b]
      exact ih
theorem np_repl {kvs : NT} {xs : List (NestedKey × Addr × Value)} (r : Paired NP kvs xs) (k : SK) {y : V} {u : Value} (ry : RelV y u) :
    Paired NP (kvs.map fun e => if e.1 = k then (e.1, e.2.1, y) else e) (xs.map (putAt (nk k) u)) := by
  induction r with
  | nil => exact .nil
  | @cons p q ps qs h t ih =>
    rw [List.map_cons, List.map_cons]
    refine .cons ?_ ih
    obtain ⟨h1, h2, h3⟩ := h
    unfold putAt
    by_cases e : p.1 = k
    · rw [if_pos e, if_pos (by rw [← h1, e])]
      exact ⟨h1, h2, ry⟩
    · rw [if_neg e, if_neg (fun z => e (nk_inj (h1.trans z)))]
      exact ⟨h1, h2, h3⟩
theorem np_put {kvs : NT} {xs : List (NestedKey × Addr × Value)} (r : Paired NP kvs xs) (k : SK) (b : Addr) {y : V} {u : Value} (ry : RelV y u) : Paired NP (putN kvs k b y) (storedH xs (nk k) b u) := by
  have e : (valN kvs k).isSome = (atKey xs (nk k)).isSome := by
    rw [(np_val r k).isSome_eq, Option.isSome_map]
  unfold putN storedH
  rw [e]
  by_cases q : (atKey xs (nk k)).isSome = true
  · rw [if_pos q, if_pos q]
    exact np_repl r k ry
  · rw [if_neg q, if_neg q]
    exact Paired.snoc r ⟨rfl, rfl, ry⟩
section
variable {X : Cx} {pins : List (Addr × Obj)} {σ : L2.St} {H : Hp} {s : Shared}
theorem tup_at {P : Program} {w : World} {H : Hp} {h : Heap} {a : Addr} {xs : List V} (ok : HOk P w H h) (e : H a = some (.tup xs)) : ∃ its o n, Vals xs its ∧ h.get? a = some o ∧ o.cls = .type "tuple" ∧ o.data = .seq its.toArray n := by
  obtain ⟨_, its, r, o, h1, h2, n, h3⟩ := (show ObjOk P w H h a (.tup xs) from ok a _ e)
  exact ⟨its, o, n, r, h1, h2, h3⟩
theorem spot_is {P : Program} {w : World} {H : Hp} {h : Heap} (ok : HOk P w H h) {b : Addr} {k : SK} (e : SpotAt H b k) : (nestedKind P w).is h (nk k) b := by
  obtain ⟨sb, h1, h2⟩ := e
  obtain ⟨its, o, n, r, g1, g2, g3⟩ := tup_at ok h1
  obtain ⟨its2, o2, n2, r2, f1, f2, f3⟩ := tup_at ok h2
  refine ⟨?_, by simp [nk, NestedKey.depth, NestedKey.depthAll]⟩
  cases r with
  | cons r1 r =>
    cases r with
    | cons r2' r =>
      cases r with
      | cons r3 r =>
        cases r
        cases r2 with
        | cons s1 r2 =>
          cases r2 with
          | cons s2 r2 =>
            cases r2
            obtain rfl := (show _ = Value.ref sb from r1)
            obtain ⟨t1, rfl⟩ := (show ∃ t, _ = Value.int _ t from r2')
            obtain ⟨t2, rfl⟩ := (show ∃ t, _ = Value.int _ t from r3)
            obtain ⟨t3, rfl⟩ := (show ∃ t, _ = Value.int _ t from s1)
            obtain ⟨t4, rfl⟩ := (show ∃ t, _ = Value.int _ t from s2)
            exact .tup g1 g2 g3 (.cons (.tup f1 f2 f3 (.cons (.int _ _) (.cons (.int _ _) .nil))) (.cons (.int _ _) (.cons (.int _ _) .nil)))
theorem nd_of {P : Program} {w : World} {H : Hp} {h : Heap} (ok : HOk P w H h) {a : Addr} {kvs : NT} (e : ND P w H a kvs) : kvs.length ≤ sizeLine ∧ (a == sysModules) = false ∧ ∃ xs, Paired NP kvs xs ∧ h.DictOfH (nestedKind P w) a xs := by
  obtain ⟨e1, e2⟩ := e
  have x : ObjOk P w H h a (dNo P w a kvs) := ok a _ e1
  obtain ⟨⟨z, y, xs, r, o, es, ep, h1, h2, h3, h4, h5⟩, _, _⟩ := x
  refine ⟨z, y, xs, r, o, es, ep, h1, h2, h3, h4, ?_, h5⟩
  have all : ∀ {l : NT} {m : List (NestedKey × Addr × Value)}, Paired NP l m → NAt H l → ∀ x ∈ m, (nestedKind P w).is h x.1 x.2.1 := by
    intro l m q
    induction q with
    | nil => intro _ x hx; exact nomatch hx
    | @cons p q ps qs hq t ih =>
      intro hn x hx
      rcases List.mem_cons.mp hx with e | hx
      · subst e
        have := spot_is ok (hn p List.mem_cons_self)
        rw [hq.1, hq.2.1] at this
        exact this
      · exact ih (fun e he => hn e (List.mem_cons_of_mem _ he)) x hx
  exact all r e2
theorem n_room {A : Around} (hu : A.units + 65 < cLine) : (nestedKind X.prog X.w).room A.in1 := by
  show A.units + 1 + 8 < cLine
  omega
theorem dNo_ok {P : Program} {w : World} {H : Hp} {h : Heap} {a : Addr} {kvs : NT} (z : kvs.length ≤ sizeLine) (y : (a == sysModules) = false) {xs : List (NestedKey × Addr × Value)} (r : Paired NP kvs xs)
    (d : ∃ o es ep, h.get? a = some o ∧ o.ExactDict ∧ o.data = .dict es ep ∧ es.toList = xs.map (entryOfKey (nestedKind P w)) ∧ (xs.map (·.1)).Nodup) : ObjOk P w H h a (dNo P w a kvs) := by
  refine ⟨⟨z, y, xs, r, d⟩, ?_, ?_⟩
  · obtain ⟨o, _, _, h1, _⟩ := d
    exact ⟨o, h1⟩
  · rintro h1 h2 ⟨z', y', xs', r', o, es, ep, g1, g2⟩ hk
    exact ⟨z', y', xs', r', o, es, ep, hk o g1, g2⟩
end
/-! the rules -/
def rNotInN (P : Program) (w : World) : R2 := fun x y H Q => ∃ a kvs b k, x = .ref b ∧ y = .ref a ∧ ND P w H a kvs ∧ SpotAt H b k ∧ Q (.bl (!(valN kvs k).isSome)) H
theorem op_notInN {X : Cx} (hu : X.A.units + 65 < cLine) : OpR X (compareOp .NotIn) (rNotInN X.prog X.w) := by
  intro pins s σ H x y v u Q I rx ry h
  obtain ⟨a, kvs, b, k, rfl, rfl, hd, hb, q⟩ := h
  cases (show v = Value.ref b from rx)
  cases (show u = Value.ref a from ry)
  obtain ⟨z, hs, xs, rel, dd⟩ := nd_of I.hok hd
  refine wpAny_notIn_heap (n_room hu) (spot_is I.hok hb) hs dd ?_
  have e := (np_val rel k).isSome_eq
  rw [Option.isSome_map] at e
  rw [← e]
  exact ⟨.bl _, H, I.tok _, rfl, q⟩
def tNGet (P : Program) (w : World) (td ty : TE) : TE := fun σ H Q => td σ H fun x H1 => ty σ H1 fun y H2 => ∃ a kvs b k v, x = .ref a ∧ y = .ref b ∧ ND P w H2 a kvs ∧ SpotAt H2 b k ∧ valN kvs k = some v ∧ Q v H2
theorem pe_nget {X : Cx} {o i : Expr} {pos : Pos} {td ty : TE} (hu : X.A.units + 65 < cLine) (ho : PE X o td) (hi : PE X i ty) (hs : NoSl i) : PE X (.Subscript o i pos) (tNGet X.prog X.w td ty) := by
  refine ⟨fun pins s σ H Q I h => ?_⟩
  refine subD_of PySem.F.slot_dict_getitem.lookup hs (thn (ho.run pins s σ H _ I h) fun u s1 ⟨x, H1, I1, rx, q1⟩ => thn (hi.run pins s1 σ H1 _ I1 q1) fun iv s2 ⟨y, H2, I2, ry, a, kvs, b, k, v, ex, ey, hd, hb, hv, q2⟩ => ?_)
  subst ex ey
  obtain rfl : u = Value.ref a := rx
  obtain rfl : iv = Value.ref b := ry
  obtain ⟨z, hs2, xs, rel, dd⟩ := nd_of I2.hok hd
  refine ⟨dd.typeIs, ?_⟩
  obtain ⟨w', hw, rw'⟩ := RelO.some_of (v := v) (o := (atKey xs (nk k)).map (·.2)) (by rw [← hv]; exact np_val rel k)
  obtain ⟨p, hp, hp2⟩ := Option.map_eq_some_iff.mp hw
  refine wpAny_getItem_heap (n_room hu) (spot_is I2.hok hb) dd hp ?_
  rw [hp2]
  exact ⟨v, H2, I2.tok _, rw', q2⟩
def sNPut (P : Program) (w : World) (td ty tv : TE) : TS := fun D σ H => tv σ H fun v H1 => td σ H1 fun x H2 => ty σ H2 fun y H3 => ∃ a kvs b k, x = .ref a ∧ y = .ref b ∧ ND P w H3 a kvs ∧ SpotAt H3 b k ∧ kvs.length < sizeLine ∧ D.nx σ (upd H3 a (dNo P w a (putN kvs k b v)))
theorem ps_nput {X : Cx} {o i value : Expr} {pos pos' : Pos} {td ty tv : TE} (hu : X.A.units + 65 < cLine) (ho : PE X o td) (hi : PE X i ty) (hv : PE X value tv) (hs : swapsWith value (some (.Subscript o i pos')) pos.line X.env = pure false) :
    PS X (.Assign [.Subscript o i pos'] value pos) (sNPut X.prog X.w td ty tv) := by
  refine ⟨fun pins s σ H D I h => ?_⟩
  refine wpAny_Assign_Subscript (thn (hv.run pins s σ H _ I h) fun r s1 ⟨v, H1, I1, rv, q1⟩ => thn (ho.run pins s1 σ H1 _ I1 q1) fun u s2 ⟨x, H2, I2, rx, q2⟩ => thn (hi.run pins s2 σ H2 _ I2 q2) fun iv s3 ⟨y, H3, I3, ry, a, kvs, b, k, ex, ey, hd, hb, hl, q3⟩ => ?_) hs
  subst ex ey
  obtain rfl : u = Value.ref a := rx
  obtain rfl : iv = Value.ref b := ry
  obtain ⟨z, hs2, xs, rel, dd⟩ := nd_of I3.hok hd
  have hz : xs.length ≤ sizeLine := by rw [← Paired.length rel]; exact z
  have hl2 : (putN kvs k b v).length ≤ sizeLine := by
    have := putN_len kvs k b v
    omega
  refine wpAny_setItem_heap (hsz := hz) (n_room hu) (spot_is I3.hok hb) dd fun h' dd' hsb => ?_
  obtain ⟨q, es, ep, hq, h2, h3, h4, _, h5⟩ := dd'
  refine ⟨σ, _, d_write I3 (by rw [hd.1]; exact True.intro) hsb ⟨q, hq⟩ (dNo_ok hl2 hs2 (np_put rel k b rv) ⟨q, es, ep, hq, h2, h3, h4, h5⟩), q3⟩
def tNNew (P : Program) (w : World) : TE := fun _ H Q => ∀ p, H p = none → Q (.ref p) (upd H p (dNo P w p []))
theorem pe_nnew {X : Cx} {pos : Pos} : PE X (.Dict [] [] pos) (tNNew X.prog X.w) := ⟨fun pins s σ H Q I h =>
  wpAny_Dict_empty ⟨.ref s.heap.objs.size, _, I.laid (a := s.heap.objs.size) (o := dNo X.prog X.w s.heap.objs.size []) (t' := s.toks) (fun _ _ q => Heap.get?_push_of_some _ q) (Nat.le_refl _)
    (dNo_ok (xs := []) (Nat.zero_le _) (beq_eq_false_iff_ne.mpr (Ne.symm (Nat.ne_of_lt I.big))) .nil ⟨_, #[], 0, Heap.get?_push_size _ rfl, ⟨rfl, rfl, rfl⟩, rfl, rfl, List.nodup_nil⟩), rfl, h _ (I.hok.fresh (Nat.le_refl _))⟩⟩
/-! ### rings -/
/-- steps onward from x to y on a ring of l places -/
def fw (l x y : Int) : Int := if x ≤ y then y - x else y - x + l
/-- the shorter way round -/
def rd (l x y : Int) : Int := if fw l y x < fw l x y then fw l y x else fw l x y
def rwordsOf (l t : Int) : List Int → List Wo
  | e :: n :: r => word (rd l t e) (rd l t n) :: rwordsOf l t (n :: r)
  | _ => []
theorem rwordsOf_len (l t : Int) : ∀ ns : List Int, (rwordsOf l t ns).length = ns.length - 1
  | [] => rfl
  | [_] => rfl
  | x :: y :: r => by
    show (rwordsOf l t (y :: r)).length + 1 = (y :: r).length + 1 - 1
    rw [rwordsOf_len l t (y :: r)]
    simp
theorem rwordsOf_get (l t : Int) : ∀ (ns : List Int) (i : Nat) (x y : Int), ns[i]? = some x → ns[i + 1]? = some y → (rwordsOf l t ns)[i]? = some (word (rd l t x) (rd l t y))
  | [], _, _, _, h, _ => by simp at h
  | [_], 0, _, _, _, h => by simp at h
  | [_], i + 1, _, _, h, _ => by simp at h
  | a :: b :: r, 0, x, y, h, h2 => by
    have e1 : a = x := Option.some.inj h
    have e2 : b = y := Option.some.inj h2
    rw [← e1, ← e2]
    rfl
  | a :: b :: r, i + 1, x, y, h, h2 => rwordsOf_get l t (b :: r) i x y h h2
/-- the places of a ring at which just these words are answered -/
def rlies (l : Int) (st : List Int) (ws : List Wo) : List Int := (rng 1 (l + 1)).filter fun t => decide (rwordsOf l t st = ws)
/-- all unlike rows on a ring, each once -/
def RRows (l : Int) (st : List Int) (D : List (List Wo)) : Prop := D.Nodup ∧ ∀ r, r ∈ D ↔ ∃ t, (1 ≤ t ∧ t ≤ l) ∧ rwordsOf l t st = r
theorem RRows.same {l : Int} {st : List Int} {D D' : List (List Wo)} (h : RRows l st D) (h' : RRows l st D') : D.length = D'.length :=
  ((List.perm_ext_iff_of_nodup h.1 h'.1).mpr fun r => (h.2 r).trans (h'.2 r).symm).length_eq
theorem fw_range {l x y : Int} (h1 : 1 ≤ x) (h2 : x ≤ l) (h3 : 1 ≤ y) (h4 : y ≤ l) : 0 ≤ fw l x y ∧ fw l x y < l := by
  unfold fw
  split <;> omega
theorem step_on {l h o : Int} (h1 : 1 ≤ h) (h2 : h ≤ l) (h3 : 1 ≤ o) (h4 : o ≤ l) (ne : ¬ h = o) : 1 ≤ 1 + (h - 1 + 1) % l ∧ 1 + (h - 1 + 1) % l ≤ l ∧ fw l (1 + (h - 1 + 1) % l) o = fw l h o - 1 := by
  have e : (h - 1 + 1) % l = if h = l then 0 else h := by
    split
    · rename_i z
      rw [show h - 1 + 1 = l by omega, Int.emod_self]
    · rw [show h - 1 + 1 = h by omega]
      exact Int.emod_eq_of_lt (by omega) (by omega)
  rw [e]
  unfold fw
  repeat' split
  all_goals omega
theorem step_back {l h o : Int} (h1 : 1 ≤ h) (h2 : h ≤ l) (h3 : 1 ≤ o) (h4 : o ≤ l) (ne : ¬ h = o) : 1 ≤ 1 + (h - 1 + -1) % l ∧ 1 + (h - 1 + -1) % l ≤ l ∧ fw l o (1 + (h - 1 + -1) % l) = fw l o h - 1 := by
  have e : (h - 1 + -1) % l = if h = 1 then l - 1 else h - 2 := by
    split
    · rename_i z
      rw [Int.emod_eq_add_self_emod, show h - 1 + -1 + l = l - 1 by omega]
      exact Int.emod_eq_of_lt (by omega) (by omega)
    · rw [show h - 1 + -1 = h - 2 by omega]
      exact Int.emod_eq_of_lt (by omega) (by omega)
  rw [e]
  unfold fw
  repeat' split
  all_goals omega
/-! ### rings turned, and seen in a mirror -/
theorem fw_mod {l x y : Int} (h1 : 1 ≤ x) (h2 : x ≤ l) (h3 : 1 ≤ y) (h4 : y ≤ l) : (y - x) % l = fw l x y := by
  unfold fw
  split
  · exact Int.emod_eq_of_lt (by omega) (by omega)
  · rw [← Int.add_emod_right]
    exact Int.emod_eq_of_lt (by omega) (by omega)
theorem rd_min {l t p : Int} (h1 : 1 ≤ t) (h2 : t ≤ l) (h3 : 1 ≤ p) (h4 : p ≤ l) : (if (p - t) % l < (t - p) % l then (p - t) % l else (t - p) % l) = rd l t p := by
  rw [fw_mod h1 h2 h3 h4, fw_mod h3 h4 h1 h2]
  unfold rd
  split <;> split <;> omega
def tn (l b x : Int) : Int := 1 + (x - 1 + b) % l
theorem tn_range {l : Int} (b x : Int) (h : 1 ≤ l) : 1 ≤ tn l b x ∧ tn l b x ≤ l := by
  unfold tn
  have h1 := Int.emod_nonneg (x - 1 + b) (show l ≠ 0 by omega)
  have h2 := Int.emod_lt_of_pos (x - 1 + b) (show 0 < l by omega)
  omega
theorem fw_tn {l b x y : Int} (h1 : 1 ≤ x) (h2 : x ≤ l) (h3 : 1 ≤ y) (h4 : y ≤ l) : fw l (tn l b x) (tn l b y) = fw l x y := by
  have hl : 1 ≤ l := by omega
  obtain ⟨a1, a2⟩ := tn_range b x hl
  obtain ⟨a3, a4⟩ := tn_range b y hl
  rw [← fw_mod a1 a2 a3 a4, ← fw_mod h1 h2 h3 h4]
  unfold tn
  rw [show 1 + (y - 1 + b) % l - (1 + (x - 1 + b) % l) = (y - 1 + b) % l - (x - 1 + b) % l by omega, ← Int.sub_emod]
  congr 1
  omega
theorem rd_tn {l b x y : Int} (h1 : 1 ≤ x) (h2 : x ≤ l) (h3 : 1 ≤ y) (h4 : y ≤ l) : rd l (tn l b x) (tn l b y) = rd l x y := by
  unfold rd
  rw [fw_tn h1 h2 h3 h4, fw_tn h3 h4 h1 h2]
theorem rwords_tn {l b t : Int} (h1 : 1 ≤ t) (h2 : t ≤ l) : ∀ {st : List Int}, Places l st → rwordsOf l (tn l b t) (st.map (tn l b)) = rwordsOf l t st
  | [], _ => rfl
  | [_], _ => rfl
  | x :: y :: r, hP => by
    have hx := hP x List.mem_cons_self
    have hy := hP y (List.mem_cons_of_mem _ List.mem_cons_self)
    show word (rd l (tn l b t) (tn l b x)) (rd l (tn l b t) (tn l b y)) :: rwordsOf l (tn l b t) ((y :: r).map (tn l b)) = _
    rw [rd_tn h1 h2 hx.1 hx.2, rd_tn h1 h2 hy.1 hy.2, rwords_tn h1 h2 fun n hn => hP n (List.mem_cons_of_mem _ hn)]
    rfl
theorem tn_back {l b x : Int} (h1 : 1 ≤ x) (h2 : x ≤ l) : tn l b (tn l (-b) x) = x := by
  unfold tn
  rw [show 1 + (x - 1 + -b) % l - 1 + b = (x - 1 + -b) % l + b by omega, Int.emod_add_emod, show x - 1 + -b + b = x - 1 by omega, Int.emod_eq_of_lt (by omega) (by omega)]
  omega
theorem tn_inj {l b x y : Int} (h1 : 1 ≤ x) (h2 : x ≤ l) (h3 : 1 ≤ y) (h4 : y ≤ l) (e : tn l b x = tn l b y) : x = y := by
  have h := fw_tn (b := b) h1 h2 h3 h4
  have h' := fw_tn (b := b) h3 h4 h1 h2
  rw [e] at h h'
  have z : fw l (tn l b y) (tn l b y) = 0 := by
    unfold fw
    split <;> omega
  rw [z] at h h'
  unfold fw at h h'
  split at h <;> split at h' <;> omega
theorem mem_rlies {l t : Int} {st : List Int} {ws : List Wo} : t ∈ rlies l st ws ↔ (1 ≤ t ∧ t ≤ l) ∧ rwordsOf l t st = ws := by
  unfold rlies
  rw [List.mem_filter, mem_rng, decide_eq_true_iff]
  constructor
  · rintro ⟨⟨h1, h2⟩, h3⟩
    exact ⟨⟨h1, by omega⟩, h3⟩
  · rintro ⟨⟨h1, h2⟩, h3⟩
    exact ⟨⟨h1, by omega⟩, h3⟩
theorem rng_up (lo hi : Int) : (rng lo hi).Pairwise (· < ·) := by
  unfold rng
  rw [List.pairwise_map]
  exact List.pairwise_lt_range.imp fun {a b : Nat} (h : a < b) => (by omega : lo + (a : Int) < lo + (b : Int))
theorem rlies_lt (l : Int) (st : List Int) (ws : List Wo) : (rlies l st ws).Pairwise (· < ·) := (rng_up 1 (l + 1)).filter _
theorem rlies_nodup (l : Int) (st : List Int) (ws : List Wo) : (rlies l st ws).Nodup := (rlies_lt l st ws).imp fun {a b} (h : a < b) => (by omega : a ≠ b)
theorem rlies_len (l : Int) (st : List Int) (ws : List Wo) : (rlies l st ws).length ≤ l.toNat := by
  unfold rlies
  refine Nat.le_trans (List.length_filter_le _ _) ?_
  rw [rng_len]
  omega
theorem nodup_map_on {f : Int → Int} : ∀ {l : List Int}, (∀ x ∈ l, ∀ y ∈ l, f x = f y → x = y) → l.Nodup → (l.map f).Nodup
  | [], _, _ => List.nodup_nil
  | a :: r, hf, h => by
    obtain ⟨h1, h2⟩ := List.nodup_cons.mp h
    rw [List.map_cons, List.nodup_cons]
    refine ⟨fun z => ?_, nodup_map_on (fun x hx y hy => hf x (List.mem_cons_of_mem _ hx) y (List.mem_cons_of_mem _ hy)) h2⟩
    obtain ⟨x, hx, e⟩ := List.mem_map.mp z
    exact h1 (hf x (List.mem_cons_of_mem _ hx) a List.mem_cons_self e ▸ hx)
theorem rlies_turned {l b : Int} {st : List Int} {ws : List Wo} (hP : Places l st) : (rlies l (st.map (tn l b)) ws).Perm ((rlies l st ws).map (tn l b)) := by
  refine (List.perm_ext_iff_of_nodup (rlies_nodup _ _ _) (nodup_map_on (fun x hx y hy => ?_) (rlies_nodup _ _ _))).mpr fun t => ?_
  · have h1 := mem_rlies.mp hx
    have h2 := mem_rlies.mp hy
    exact tn_inj h1.1.1 h1.1.2 h2.1.1 h2.1.2
  · rw [mem_rlies, List.mem_map]
    constructor
    · rintro ⟨⟨h1, h2⟩, h3⟩
      obtain ⟨r1, r2⟩ := tn_range (l := l) (-b) t (by omega)
      refine ⟨tn l (-b) t, mem_rlies.mpr ⟨⟨r1, r2⟩, ?_⟩, tn_back h1 h2⟩
      rw [← rwords_tn (b := b) r1 r2 hP, tn_back h1 h2]
      exact h3
    · rintro ⟨x, hx, rfl⟩
      obtain ⟨⟨h1, h2⟩, h3⟩ := mem_rlies.mp hx
      exact ⟨tn_range b x (by omega), by rw [rwords_tn h1 h2 hP]; exact h3⟩
/-- sorted, it is the one -/
theorem rlies_sorted {l b : Int} {st : List Int} {ws : List Wo} {ns : List Int} (hP : Places l st) (h1 : ns.Perm ((rlies l st ws).map (tn l b))) (h2 : ns.Pairwise (· ≤ ·)) : ns = rlies l (st.map (tn l b)) ws :=
  List.Perm.eq_of_pairwise (le := (· ≤ ·)) (fun _ _ _ _ => Int.le_antisymm) h2 ((rlies_lt _ _ _).imp fun {a b} (h : a < b) => (by omega : a ≤ b)) (h1.trans (rlies_turned hP).symm)
theorem rd_mirror {l x y : Int} : rd l (l + 1 - x) (l + 1 - y) = rd l x y := by
  have h1 : fw l (l + 1 - x) (l + 1 - y) = fw l y x := by
    unfold fw
    split <;> split <;> omega
  have h2 : fw l (l + 1 - y) (l + 1 - x) = fw l x y := by
    unfold fw
    split <;> split <;> omega
  unfold rd
  rw [h1, h2]
  split <;> split <;> omega
theorem rwords_mirror (l t : Int) : ∀ st : List Int, rwordsOf l (l + 1 - t) (st.map fun p => l + 1 - p) = rwordsOf l t st
  | [] => rfl
  | [_] => rfl
  | a :: b :: r => by
    show word (rd l (l + 1 - t) (l + 1 - a)) (rd l (l + 1 - t) (l + 1 - b)) :: rwordsOf l (l + 1 - t) ((b :: r).map fun p => l + 1 - p) = _
    rw [rd_mirror, rd_mirror, rwords_mirror l t (b :: r)]
    rfl
theorem rlies_mirror (l : Int) (st : List Int) (ws : List Wo) : rlies l (st.map fun p => l + 1 - p) ws = ((rlies l st ws).reverse).map fun x => l + 1 - x := by
  have e : rng 1 (l + 1) = ((rng 1 (l + 1)).reverse).map fun x => l + 1 - x := by
    rw [rng_mirror _ 1 (l + 1) (l + 1) rfl]
    congr 1 <;> omega
  unfold rlies
  rw [← List.filter_reverse]
  conv => lhs; rw [e]
  rw [List.filter_map]
  congr 1
  refine List.filter_congr fun t _ => ?_
  show decide (rwordsOf l (l + 1 - t) (st.map fun p => l + 1 - p) = ws) = decide (rwordsOf l t st = ws)
  rw [rwords_mirror]
theorem rrows_turned {l b : Int} {st : List Int} {D : List (List Wo)} (hP : Places l st) (h : RRows l st D) : RRows l (st.map (tn l b)) D := by
  refine ⟨h.1, fun r => (h.2 r).trans ⟨?_, ?_⟩⟩
  · rintro ⟨t, ⟨h1, h2⟩, h3⟩
    exact ⟨tn l b t, tn_range b t (by omega), by rw [rwords_tn h1 h2 hP]; exact h3⟩
  · rintro ⟨t, ⟨h1, h2⟩, h3⟩
    obtain ⟨r1, r2⟩ := tn_range (l := l) (-b) t (by omega)
    refine ⟨tn l (-b) t, ⟨r1, r2⟩, ?_⟩
    rw [← rwords_tn (b := b) r1 r2 hP, tn_back h1 h2]
    exact h3
theorem rwords_snoc (l t x : Int) : ∀ st : List Int, (rwordsOf l t (st ++ [x])).take (st.length - 1) = rwordsOf l t st
  | [] => rfl
  | [_] => rfl
  | a :: b :: r => by
    show (word (rd l t a) (rd l t b) :: rwordsOf l t ((b :: r) ++ [x])).take ((b :: r).length - 1 + 1) = _
    rw [List.take_succ_cons, rwords_snoc l t x (b :: r)]
    rfl
theorem nodup_le {α : Type} [DecidableEq α] : ∀ {D D' : List α}, D.Nodup → (∀ r ∈ D, r ∈ D') → D.length ≤ D'.length
  | [], _, _, _ => Nat.zero_le _
  | a :: D, D', h, hs => by
    obtain ⟨h1, h2⟩ := List.nodup_cons.mp h
    have ha := hs a List.mem_cons_self
    have := nodup_le (D := D) (D' := D'.erase a) h2 fun r hr => (List.mem_erase_of_ne (fun (e : r = a) => h1 (e ▸ hr))).mpr (hs r (List.mem_cons_of_mem _ hr))
    rw [List.length_erase_of_mem ha] at this
    have hp := List.length_pos_of_mem ha
    rw [List.length_cons]
    omega
theorem rrows_more {l x : Int} {st : List Int} {D D' : List (List Wo)} (h : RRows l st D) (h' : RRows l (st ++ [x]) D') : D.length ≤ D'.length := by
  rw [← List.length_map (as := D') (f := fun r => r.take (st.length - 1))]
  refine nodup_le h.1 fun r hr => ?_
  obtain ⟨t, ht, e⟩ := (h.2 r).mp hr
  exact List.mem_map.mpr ⟨_, (h'.2 _).mpr ⟨t, ht, rfl⟩, by rw [rwords_snoc]; exact e⟩
/-! ### the table of what is enough -/
/-- all but d stays -/
def KpD (d : Addr) (H H' : Hp) : Prop := ∀ x o, x ≠ d → H x = some o → H' x = some o
theorem KpD.refl (d : Addr) (H : Hp) : KpD d H H := fun _ _ _ h => h
theorem KpD.ex {d : Addr} {H H' : Hp} (e : Ex H H') : KpD d H H' := fun x o _ h => e x o h
theorem KpD.trans {d : Addr} {H H1 H2 : Hp} (a : KpD d H H1) (b : KpD d H1 H2) : KpD d H H2 := fun x o n h => b x o n (a x o n h)
theorem KpD.put {d : Addr} {H H' : Hp} {o : HO} (a : KpD d H H') : KpD d H (upd H' d o) := fun x u n h => by
  rw [upd_ne n]
  exact a x u n h
theorem KpD.at {P : Program} {w : World} {d x : Addr} {H H' : Hp} {kvs : NT} {o : HO} (a : KpD d H H') (hd : H d = some (dNo P w d kvs)) (h : H x = some o) (ne : o ≠ dNo P w d kvs) : H' x = some o := a x o (ne_of h hd ne) h
theorem tup_ne_dNo {P : Program} {w : World} {a : Addr} {kvs : NT} {xs : List V} : HO.tup xs ≠ dNo P w a kvs := fun z => dNo_ne_tup z.symm
theorem lst_ne_dNo {P : Program} {w : World} {a : Addr} {kvs : NT} {xs : List V} : HO.lst xs ≠ dNo P w a kvs := fun z => dNo_ne_lst z.symm
theorem KpD.pairs {P : Program} {w : World} {d : Addr} {H H' : Hp} {kvs : NT} (a : KpD d H H') (hd : H d = some (dNo P w d kvs)) : ∀ {us : List Addr} {ps : List (Int × Int)}, AtPairs H us ps → AtPairs H' us ps
  | _, _, .nil => .nil
  | _, _, .cons h t => .cons (a.at hd h tup_ne_dNo) (a.pairs hd t)
theorem KpD.spot {P : Program} {w : World} {d b : Addr} {H H' : Hp} {kvs : NT} {k : SK} (a : KpD d H H') (hd : H d = some (dNo P w d kvs)) (h : SpotAt H b k) : SpotAt H' b k := by
  obtain ⟨sb, h1, h2⟩ := h
  exact ⟨sb, a.at hd h1 tup_ne_dNo, a.at hd h2 tup_ne_dNo⟩
def InBox (k : SK) : Prop := (1 ≤ k.1 ∧ k.1 ≤ 16) ∧ (1 ≤ k.2.1 ∧ k.2.1 ≤ 16) ∧ (1 ≤ k.2.2.1 ∧ k.2.2.1 ≤ 16) ∧ 0 ≤ k.2.2.2 ∧ k.2.2.2 < 64
/-- a table whose keys stand once, and in bounds -/
structure Tab (kvs : NT) : Prop where
  nd : (kvs.map (·.1)).Nodup
  box : ∀ e ∈ kvs, InBox e.1
def codeK (k : SK) : Nat := ((k.1.toNat * 17 + k.2.1.toNat) * 17 + k.2.2.1.toNat) * 64 + k.2.2.2.toNat
theorem code_inj {a b : SK} (ha : InBox a) (hb : InBox b) (h : codeK a = codeK b) : a = b := by
  unfold InBox at ha hb
  unfold codeK at h
  exact Prod.ext (by omega) (Prod.ext (by omega) (Prod.ext (by omega) (by omega)))
theorem code_lt {a : SK} (ha : InBox a) : codeK a < 400000 := by
  unfold InBox at ha
  unfold codeK
  omega
theorem nodup_code : ∀ {l : List SK}, (∀ x ∈ l, InBox x) → l.Nodup → (l.map codeK).Nodup
  | [], _, _ => List.nodup_nil
  | a :: r, hb, h => by
    obtain ⟨h1, h2⟩ := List.nodup_cons.mp h
    rw [List.map_cons, List.nodup_cons]
    refine ⟨fun z => ?_, nodup_code (fun x hx => hb x (List.mem_cons_of_mem _ hx)) h2⟩
    obtain ⟨x, hx, e⟩ := List.mem_map.mp z
    exact h1 (code_inj (hb x (List.mem_cons_of_mem _ hx)) (hb a List.mem_cons_self) e ▸ hx)
theorem Tab.len {kvs : NT} (h : Tab kvs) : kvs.length < sizeLine := by
  have hb : ∀ x ∈ kvs.map (·.1), InBox x := fun x hx => by
    obtain ⟨e, he, rfl⟩ := List.mem_map.mp hx
    exact h.box e he
  have h1 := nodup_le (D := (kvs.map (·.1)).map codeK) (D' := List.range 400000) (nodup_code hb h.nd) fun r hr => by
    obtain ⟨x, hx, rfl⟩ := List.mem_map.mp hr
    exact List.mem_range.mpr (code_lt (hb x hx))
  rw [List.length_map, List.length_map, List.length_range] at h1
  exact Nat.lt_of_le_of_lt h1 (by decide)
theorem valN_none {kvs : NT} {k : SK} (h : valN kvs k = none) : k ∉ kvs.map (·.1) := fun z => by
  obtain ⟨e, he, hk⟩ := List.mem_map.mp z
  unfold valN at h
  rw [Option.map_eq_none_iff, List.find?_eq_none] at h
  have := h e he
  simp [hk] at this
theorem Tab.put {kvs : NT} {k : SK} {b : Addr} {v : V} (h : Tab kvs) (hk : InBox k) : Tab (putN kvs k b v) := by
  unfold putN
  split
  · constructor
    · have : (kvs.map fun e => if e.1 = k then (e.1, e.2.1, v) else e).map (·.1) = kvs.map (·.1) := by
        rw [List.map_map]
        apply List.map_congr_left
        intro e _
        show (if e.1 = k then (e.1, e.2.1, v) else e).1 = e.1
        split <;> rfl
      rw [this]
      exact h.nd
    · intro e he
      obtain ⟨x, hx, rfl⟩ := List.mem_map.mp he
      split
      · exact h.box x hx
      · exact h.box x hx
  · rename_i hn
    have hn' : valN kvs k = none := by
      cases hq : valN kvs k with
      | none => rfl
      | some x =>
        rw [hq] at hn
        exact absurd rfl hn
    constructor
    · rw [List.map_append, List.nodup_append]
      refine ⟨h.nd, by simp, fun x hx y hy e => ?_⟩
      have : y = k := List.mem_singleton.mp hy
      rw [this] at e
      exact valN_none hn' (e ▸ hx)
    · intro e he
      rcases List.mem_append.mp he with z | z
      · exact h.box e z
      · rw [List.mem_singleton.mp z]
        exact hk
/-- what is told of a spot is right -/
def Right (st : Bool) (L : Int) (k : SK) (v : V) : Prop := ∃ c : Bool, v = .bl c ∧ (c = true ↔ En st L k.2.2.2.toNat k.1 k.2.1 k.2.2.1)
def OKs (st : Bool) (L : Int) (kvs : NT) (n : Int) : Prop := ∀ k v, valN kvs k = some v → k.2.2.2 ≤ n → Right st L k v
/-- the dict, as a call may find it -/
structure Pre1 (P : Program) (w : World) (st : Bool) (L n : Int) (H : Hp) (d : Addr) (kvs : NT) : Prop where
  dict : ND P w H d kvs
  tab : Tab kvs
  ok : OKs st L kvs n
/-- and as it leaves it -/
structure Post1 (P : Program) (w : World) (st : Bool) (L n : Int) (H H' : Hp) (d : Addr) (kvs kvs' : NT) : Prop where
  kp : KpD d H H'
  pre : Pre1 P w st L n H' d kvs'
  up : ∀ k : SK, n < k.2.2.2 → valN kvs' k = valN kvs k
theorem Post1.refl {P : Program} {w : World} {st : Bool} {L n : Int} {H : Hp} {d : Addr} {kvs : NT} (h : Pre1 P w st L n H d kvs) : Post1 P w st L n H H d kvs kvs := ⟨KpD.refl d H, h, fun _ _ => rfl⟩
theorem Post1.trans {P : Program} {w : World} {st : Bool} {L n : Int} {H H1 H2 : Hp} {d : Addr} {k0 k1 k2 : NT} (a : Post1 P w st L n H H1 d k0 k1) (b : Post1 P w st L n H1 H2 d k1 k2) : Post1 P w st L n H H2 d k0 k2 :=
  ⟨a.kp.trans b.kp, b.pre, fun k hk => (b.up k hk).trans (a.up k hk)⟩
theorem Pre1.ex {P : Program} {w : World} {st : Bool} {L n : Int} {H H' : Hp} {d : Addr} {kvs : NT} (e : Ex H H') (h : Pre1 P w st L n H d kvs) : Pre1 P w st L n H' d kvs := ⟨h.dict.ex e, h.tab, h.ok⟩
theorem ND.put {P : Program} {w : World} {H : Hp} {d b : Addr} {kvs : NT} {k : SK} {v : V} (h : ND P w H d kvs) (hb : SpotAt H b k) : ND P w (upd H d (dNo P w d (putN kvs k b v))) d (putN kvs k b v) :=
  ⟨upd_same, (h.2.put hb).mutG fun xs z => dNo_ne_tup (Option.some.inj (h.1.symm.trans z))⟩
/-- to stay is a move that gains nothing -/
theorem en_any {st : Bool} {L a b p : Int} {n : Nat} (hab : a < b) : En st L n a b p ↔ ∃ q, (1 ≤ q ∧ q ≤ L) ∧ 0 < cost st p q ∧ Good st L n a b p q := by
  rw [en_good hab]
  constructor
  · rintro ⟨q, hq, ne, hg⟩
    exact ⟨q, hq, cost_pos ne, hg⟩
  · rintro ⟨q, hq, hc, hg⟩
    by_cases ne : q = p
    · have hcut : IsCut a b p q .same a b := by
        refine ⟨by omega, fun t => ⟨fun z => ⟨z.1, z.2, ?_⟩, fun z => ⟨z.1, z.2.1⟩⟩⟩
        rw [ne]
        exact mv_same.mpr (.inl rfl)
      have he := hg.2 _ _ _ hcut
      rw [ne] at he
      obtain ⟨q', hq', ne', hg'⟩ := (en_good hab).mp (he.mono (Nat.sub_le _ _))
      exact ⟨q', hq', ne', hg'⟩
    · exact ⟨q, hq, ne, hg⟩
def sp__law_enough (K : PySem.W.Frag) (P : Program) (w : World) (N : Nat) : Sp := fun vs H Q _ => ∃ (d s : Addr) (L a b p n : Int) (st : Bool) (kvs : NT), vs = [.ref d, .int L, .ref s, .int p, .int n, .bl st] ∧ 0 ≤ n ∧ n < N ∧ n < 64 ∧ L ≤ 16 ∧ H s = some (.tup [.int a, .int b]) ∧ 1 ≤ a ∧ a ≤ b ∧ b ≤ L ∧ 1 ≤ p ∧ p ≤ L ∧ Pre1 P w st L n H d kvs ∧
  ∀ H' (c : Bool) kvs', Post1 P w st L n H H' d kvs kvs' → (c = true ↔ En st L n.toNat a b p) → Q (.bl c) H'
def sp__law_all_enough (K : PySem.W.Frag) (P : Program) (w : World) (N : Nat) : Sp := fun vs H Q _ => ∃ (d C : Addr) (L q n : Int) (st : Bool) (kvs : NT) (us : List Addr) (cs : List (Int × Int)), vs = [.ref d, .int L, .ref C, .int q, .int n, .bl st] ∧ 0 ≤ n ∧ n < N ∧ n < 64 ∧ L ≤ 16 ∧ H C = some (.lst (us.map V.ref)) ∧ AtPairs H us cs ∧ cs.length ≤ 100 ∧
  (∀ z ∈ cs, 1 ≤ z.1 ∧ z.1 ≤ z.2 ∧ z.2 ≤ L) ∧ 1 ≤ q ∧ q ≤ L ∧ Pre1 P w st L n H d kvs ∧
  ∀ H' (c : Bool) kvs', Post1 P w st L n H H' d kvs kvs' → (c = true ↔ ∀ z ∈ cs, En st L n.toNat z.1 z.2 q) → Q (.bl c) H'
theorem no__law_enough {K : PySem.W.Frag} {P : Program} {w : World} {vs : List V} {H : Hp} {Q : VK} {E : XK} (h : sp__law_enough K P w 0 vs H Q E) : False := by
  obtain ⟨d, s, L, a, b, p, n, st, kvs, _, hn0, hnN, _⟩ := h
  omega
/-! ### dicts whose keys are (lo, hi, place, many) -/
namespace Fl
def nk (k : SK) : NestedKey := .tup [.num k.1, .num k.2.1, .num k.2.2.1, .num k.2.2.2]
theorem nk_inj {a b : SK} (h : nk a = nk b) : a = b := by
  unfold nk at h
  injection h with h
  injection h with h1 h
  injection h with h2 h
  injection h with h3 h
  injection h with h4 _
  injection h1 with h1
  injection h2 with h2
  injection h3 with h3
  injection h4 with h4
  exact Prod.ext h1 (Prod.ext h2 (Prod.ext h3 h4))
/-- the key k stands at b -/
def SpotAt (H : Hp) (b : Addr) (k : SK) : Prop := H b = some (.tup [.int k.1, .int k.2.1, .int k.2.2.1, .int k.2.2.2])
theorem SpotAt.ex {H H' : Hp} {b : Addr} {k : SK} (e : Ex H H') (h : SpotAt H b k) : SpotAt H' b k := e _ _ h
theorem SpotAt.mutG {H : Hp} {b U : Addr} {k : SK} {o : HO} (hU : ∀ xs, H U ≠ some (.tup xs)) (h : SpotAt H b k) : SpotAt (upd H U o) b k := by
  unfold SpotAt at h ⊢
  rw [upd_ne (fun z => hU _ (z ▸ h))]
  exact h
def NP (p : SK × Addr × V) (q : NestedKey × Addr × Value) : Prop := nk p.1 = q.1 ∧ p.2.1 = q.2.1 ∧ RelV p.2.2 q.2.2
def dNo (P : Program) (w : World) (a : Addr) (kvs : NT) : HO := .ext fun h => kvs.length ≤ sizeLine ∧ (a == sysModules) = false ∧ ∃ xs : List (NestedKey × Addr × Value), Paired NP kvs xs ∧
  ∃ o es ep, h.get? a = some o ∧ o.ExactDict ∧ o.data = .dict es ep ∧ es.toList = xs.map (entryOfKey (nestedKind P w)) ∧ (xs.map (·.1)).Nodup
def NAt (H : Hp) (kvs : NT) : Prop := ∀ e ∈ kvs, SpotAt H e.2.1 e.1
def ND (P : Program) (w : World) (H : Hp) (a : Addr) (kvs : NT) : Prop := H a = some (dNo P w a kvs) ∧ NAt H kvs
theorem dNo_ne_tup {P : Program} {w : World} {a : Addr} {kvs : NT} {xs : List V} : dNo P w a kvs ≠ .tup xs := fun z => by
  unfold dNo at z
  cases z
theorem dNo_ne_lst {P : Program} {w : World} {a : Addr} {kvs : NT} {xs : List V} : dNo P w a kvs ≠ .lst xs := fun z => by
  unfold dNo at z
  cases z
theorem NAt.put {H : Hp} {kvs : NT} {k : SK} {b : Addr} {v : V} (h : NAt H kvs) (hb : SpotAt H b k) : NAt H (putN kvs k b v) := fun e he => by
  unfold putN at he
  split at he
  · obtain ⟨x, hx, rfl⟩ := List.mem_map.mp he
    split
    · exact h x hx
    · exact h x hx
  · rcases List.mem_append.mp he with z | z
    · exact h e z
    · rw [List.mem_singleton.mp z]
      exact hb
theorem NAt.ex {H H' : Hp} {kvs : NT} (e : Ex H H') (h : NAt H kvs) : NAt H' kvs := fun x hx => (h x hx).ex e
theorem NAt.mutG {H : Hp} {U : Addr} {kvs : NT} {o : HO} (hU : ∀ xs, H U ≠ some (.tup xs)) (h : NAt H kvs) : NAt (upd H U o) kvs := fun x hx => (h x hx).mutG hU
theorem ND.ex {P : Program} {w : World} {H H' : Hp} {a : Addr} {kvs : NT} (e : Ex H H') (h : ND P w H a kvs) : ND P w H' a kvs := ⟨e _ _ h.1, h.2.ex e⟩
/-! the pairs, side by side -/
theorem np_val {kvs : NT} {xs : List (NestedKey × Addr × Value)} (r : Paired NP kvs xs) (k : SK) : RelO (valN kvs k) ((atKey xs (nk k)).map (·.2)) := by
  induction r with
  | nil => exact True.intro
  | @cons p q ps qs h t ih =>
    obtain ⟨h1, _, h2⟩ := h
    by_cases e : p.1 = k
    · have e' : q.1 = nk k := by rw [← h1, e]
      have b : atKey (q :: qs) (nk k) = some q.2 := by simp [atKey, List.find?_cons, e']
      rw [valN_pos e, b]
      exact h2
    · have e' : ¬ q.1 = nk k := fun z => e (nk_inj (h1.trans z))
      have b : atKey (q :: qs) (nk k) = atKey qs (nk k) := by simp [atKey, List.find?_cons, e']
      rw [valN_neg e, b]
      exact ih
theorem np_repl {kvs : NT} {xs : List (NestedKey × Addr × Value)} (r : Paired NP kvs xs) (k : SK) {y : V} {u : Value} (ry : RelV y u) :
    Paired NP (kvs.map fun e => if e.1 = k then (e.1, e.2.1, y) else e) (xs.map (putAt (nk k) u)) := by
  induction r with
  | nil => exact .nil
  | @cons p q ps qs h t ih =>
    rw [List.map_cons, List.map_cons]
    refine .cons ?_ ih
    obtain ⟨h1, h2, h3⟩ := h
    unfold putAt
    by_cases e : p.1 = k
    · rw [if_pos e, if_pos (by rw [← h1, e])]
      exact ⟨h1, h2, ry⟩
    · rw [if_neg e, if_neg (fun z => e (nk_inj (h1.trans z)))]
      exact ⟨h1, h2, h3⟩
theorem np_put {kvs : NT} {xs : List (NestedKey × Addr × Value)} (r : Paired NP kvs xs) (k : SK) (b : Addr) {y : V} {u : Value} (ry : RelV y u) : Paired NP (putN kvs k b y) (storedH xs (nk k) b u) := by
  have e : (valN kvs k).isSome = (atKey xs (nk k)).isSome := by
    rw [(np_val r k).isSome_eq, Option.isSome_map]
  unfold putN storedH
  rw [e]
  by_cases q : (atKey xs (nk k)).isSome = true
  · rw [if_pos q, if_pos q]
    exact np_repl r k ry
  · rw [if_neg q, if_neg q]
    exact Paired.snoc r ⟨rfl, rfl, ry⟩
section
variable {X : Cx} {pins : List (Addr × Obj)} {σ : L2.St} {H : Hp} {s : Shared}
theorem spot_is {P : Program} {w : World} {H : Hp} {h : Heap} (ok : HOk P w H h) {b : Addr} {k : SK} (e : SpotAt H b k) : (nestedKind P w).is h (nk k) b := by
  obtain ⟨its, o, n, r, g1, g2, g3⟩ := tup_at ok e
  refine ⟨?_, by simp [nk, NestedKey.depth, NestedKey.depthAll]⟩
  cases r with
  | cons r1 r =>
    cases r with
    | cons r2 r =>
      cases r with
      | cons r3 r =>
        cases r with
        | cons r4 r =>
          cases r
          obtain ⟨t1, rfl⟩ := (show ∃ t, _ = Value.int _ t from r1)
          obtain ⟨t2, rfl⟩ := (show ∃ t, _ = Value.int _ t from r2)
          obtain ⟨t3, rfl⟩ := (show ∃ t, _ = Value.int _ t from r3)
          obtain ⟨t4, rfl⟩ := (show ∃ t, _ = Value.int _ t from r4)
          exact .tup g1 g2 g3 (.cons (.int _ _) (.cons (.int _ _) (.cons (.int _ _) (.cons (.int _ _) .nil))))
theorem nd_of {P : Program} {w : World} {H : Hp} {h : Heap} (ok : HOk P w H h) {a : Addr} {kvs : NT} (e : ND P w H a kvs) : kvs.length ≤ sizeLine ∧ (a == sysModules) = false ∧ ∃ xs, Paired NP kvs xs ∧ h.DictOfH (nestedKind P w) a xs := by
  obtain ⟨e1, e2⟩ := e
  have x : ObjOk P w H h a (dNo P w a kvs) := ok a _ e1
  obtain ⟨⟨z, y, xs, r, o, es, ep, h1, h2, h3, h4, h5⟩, _, _⟩ := x
  refine ⟨z, y, xs, r, o, es, ep, h1, h2, h3, h4, ?_, h5⟩
  have all : ∀ {l : NT} {m : List (NestedKey × Addr × Value)}, Paired NP l m → NAt H l → ∀ x ∈ m, (nestedKind P w).is h x.1 x.2.1 := by
    intro l m q
    induction q with
    | nil => intro _ x hx; exact nomatch hx
    | @cons p q ps qs hq t ih =>
      intro hn x hx
      rcases List.mem_cons.mp hx with e | hx
      · subst e
        have := spot_is ok (hn p List.mem_cons_self)
        rw [hq.1, hq.2.1] at this
        exact this
      · exact ih (fun e he => hn e (List.mem_cons_of_mem _ he)) x hx
  exact all r e2
theorem n_room {A : Around} (hu : A.units + 65 < cLine) : (nestedKind X.prog X.w).room A.in1 := by
  show A.units + 1 + 8 < cLine
  omega
theorem dNo_ok {P : Program} {w : World} {H : Hp} {h : Heap} {a : Addr} {kvs : NT} (z : kvs.length ≤ sizeLine) (y : (a == sysModules) = false) {xs : List (NestedKey × Addr × Value)} (r : Paired NP kvs xs)
    (d : ∃ o es ep, h.get? a = some o ∧ o.ExactDict ∧ o.data = .dict es ep ∧ es.toList = xs.map (entryOfKey (nestedKind P w)) ∧ (xs.map (·.1)).Nodup) : ObjOk P w H h a (dNo P w a kvs) := by
  refine ⟨⟨z, y, xs, r, d⟩, ?_, ?_⟩
  · obtain ⟨o, _, _, h1, _⟩ := d
    exact ⟨o, h1⟩
  · rintro h1 h2 ⟨z', y', xs', r', o, es, ep, g1, g2⟩ hk
    exact ⟨z', y', xs', r', o, es, ep, hk o g1, g2⟩
end
/-! the rules -/
def rNotInN (P : Program) (w : World) : R2 := fun x y H Q => ∃ a kvs b k, x = .ref b ∧ y = .ref a ∧ ND P w H a kvs ∧ SpotAt H b k ∧ Q (.bl (!(valN kvs k).isSome)) H
theorem op_notInN {X : Cx} (hu : X.A.units + 65 < cLine) : OpR X (compareOp .NotIn) (rNotInN X.prog X.w) := by
  intro pins s σ H x y v u Q I rx ry h
  obtain ⟨a, kvs, b, k, rfl, rfl, hd, hb, q⟩ := h
  cases (show v = Value.ref b from rx)
  cases (show u = Value.ref a from ry)
  obtain ⟨z, hs, xs, rel, dd⟩ := nd_of I.hok hd
  refine wpAny_notIn_heap (n_room hu) (spot_is I.hok hb) hs dd ?_
  have e := (np_val rel k).isSome_eq
  rw [Option.isSome_map] at e
  rw [← e]
  exact ⟨.bl _, H, I.tok _, rfl, q⟩
def tNGet (P : Program) (w : World) (td ty : TE) : TE := fun σ H Q => td σ H fun x H1 => ty σ H1 fun y H2 => ∃ a kvs b k v, x = .ref a ∧ y = .ref b ∧ ND P w H2 a kvs ∧ SpotAt H2 b k ∧ valN kvs k = some v ∧ Q v H2
theorem pe_nget {X : Cx} {o i : Expr} {pos : Pos} {td ty : TE} (hu : X.A.units + 65 < cLine) (ho : PE X o td) (hi : PE X i ty) (hs : NoSl i) : PE X (.Subscript o i pos) (tNGet X.prog X.w td ty) := by
  refine ⟨fun pins s σ H Q I h => ?_⟩
  refine subD_of PySem.F.slot_dict_getitem.lookup hs (thn (ho.run pins s σ H _ I h) fun u s1 ⟨x, H1, I1, rx, q1⟩ => thn (hi.run pins s1 σ H1 _ I1 q1) fun iv s2 ⟨y, H2, I2, ry, a, kvs, b, k, v, ex, ey, hd, hb, hv, q2⟩ => ?_)
  subst ex ey
  obtain rfl : u = Value.ref a := rx
  obtain rfl : iv = Value.ref b := ry
  obtain ⟨z, hs2, xs, rel, dd⟩ := nd_of I2.hok hd
  refine ⟨dd.typeIs, ?_⟩
  obtain ⟨w', hw, rw'⟩ := RelO.some_of (v := v) (o := (atKey xs (nk k)).map (·.2)) (by rw [← hv]; exact np_val rel k)
  obtain ⟨p, hp, hp2⟩ := Option.map_eq_some_iff.mp hw
  refine wpAny_getItem_heap (n_room hu) (spot_is I2.hok hb) dd hp ?_
  rw [hp2]
  exact ⟨v, H2, I2.tok _, rw', q2⟩
def sNPut (P : Program) (w : World) (td ty tv : TE) : TS := fun D σ H => tv σ H fun v H1 => td σ H1 fun x H2 => ty σ H2 fun y H3 => ∃ a kvs b k, x = .ref a ∧ y = .ref b ∧ ND P w H3 a kvs ∧ SpotAt H3 b k ∧ kvs.length < sizeLine ∧ D.nx σ (upd H3 a (dNo P w a (putN kvs k b v)))
theorem ps_nput {X : Cx} {o i value : Expr} {pos pos' : Pos} {td ty tv : TE} (hu : X.A.units + 65 < cLine) (ho : PE X o td) (hi : PE X i ty) (hv : PE X value tv) (hs : swapsWith value (some (.Subscript o i pos')) pos.line X.env = pure false) :
    PS X (.Assign [.Subscript o i pos'] value pos) (sNPut X.prog X.w td ty tv) := by
  refine ⟨fun pins s σ H D I h => ?_⟩
  refine wpAny_Assign_Subscript (thn (hv.run pins s σ H _ I h) fun r s1 ⟨v, H1, I1, rv, q1⟩ => thn (ho.run pins s1 σ H1 _ I1 q1) fun u s2 ⟨x, H2, I2, rx, q2⟩ => thn (hi.run pins s2 σ H2 _ I2 q2) fun iv s3 ⟨y, H3, I3, ry, a, kvs, b, k, ex, ey, hd, hb, hl, q3⟩ => ?_) hs
  subst ex ey
  obtain rfl : u = Value.ref a := rx
  obtain rfl : iv = Value.ref b := ry
  obtain ⟨z, hs2, xs, rel, dd⟩ := nd_of I3.hok hd
  have hz : xs.length ≤ sizeLine := by rw [← Paired.length rel]; exact z
  have hl2 : (putN kvs k b v).length ≤ sizeLine := by
    have := putN_len kvs k b v
    omega
  refine wpAny_setItem_heap (hsz := hz) (n_room hu) (spot_is I3.hok hb) dd fun h' dd' hsb => ?_
  obtain ⟨q, es, ep, hq, h2, h3, h4, _, h5⟩ := dd'
  refine ⟨σ, _, d_write I3 (by rw [hd.1]; exact True.intro) hsb ⟨q, hq⟩ (dNo_ok hl2 hs2 (np_put rel k b rv) ⟨q, es, ep, hq, h2, h3, h4, h5⟩), q3⟩
def tNNew (P : Program) (w : World) : TE := fun _ H Q => ∀ p, H p = none → Q (.ref p) (upd H p (dNo P w p []))
theorem pe_nnew {X : Cx} {pos : Pos} : PE X (.Dict [] [] pos) (tNNew X.prog X.w) := ⟨fun pins s σ H Q I h =>
  wpAny_Dict_empty ⟨.ref s.heap.objs.size, _, I.laid (a := s.heap.objs.size) (o := dNo X.prog X.w s.heap.objs.size []) (t' := s.toks) (fun _ _ q => Heap.get?_push_of_some _ q) (Nat.le_refl _)
    (dNo_ok (xs := []) (Nat.zero_le _) (beq_eq_false_iff_ne.mpr (Ne.symm (Nat.ne_of_lt I.big))) .nil ⟨_, #[], 0, Heap.get?_push_size _ rfl, ⟨rfl, rfl, rfl⟩, rfl, rfl, List.nodup_nil⟩), rfl, h _ (I.hok.fresh (Nat.le_refl _))⟩⟩
end Fl
/-! ### the program's own table of what is enough -/
theorem Fl.tup_ne {P : Program} {w : World} {a : Addr} {kvs : NT} {xs : List V} : HO.tup xs ≠ Fl.dNo P w a kvs := fun z => Fl.dNo_ne_tup z.symm
theorem Fl.lst_ne {P : Program} {w : World} {a : Addr} {kvs : NT} {xs : List V} : HO.lst xs ≠ Fl.dNo P w a kvs := fun z => Fl.dNo_ne_lst z.symm
theorem KpD.atF {P : Program} {w : World} {d x : Addr} {H H' : Hp} {kvs : NT} {o : HO} (a : KpD d H H') (hd : H d = some (Fl.dNo P w d kvs)) (h : H x = some o) (ne : o ≠ Fl.dNo P w d kvs) : H' x = some o := a x o (ne_of h hd ne) h
theorem KpD.pairsF {P : Program} {w : World} {d : Addr} {H H' : Hp} {kvs : NT} (a : KpD d H H') (hd : H d = some (Fl.dNo P w d kvs)) : ∀ {us : List Addr} {ps : List (Int × Int)}, AtPairs H us ps → AtPairs H' us ps
  | _, _, .nil => .nil
  | _, _, .cons h t => .cons (a.atF hd h Fl.tup_ne) (a.pairsF hd t)
theorem Fl.ND.put {P : Program} {w : World} {H : Hp} {d b : Addr} {kvs : NT} {k : SK} {v : V} (h : Fl.ND P w H d kvs) (hb : Fl.SpotAt H b k) : Fl.ND P w (upd H d (Fl.dNo P w d (putN kvs k b v))) d (putN kvs k b v) :=
  ⟨upd_same, (h.2.put hb).mutG fun xs z => Fl.dNo_ne_tup (Option.some.inj (h.1.symm.trans z))⟩
structure FPre (P : Program) (w : World) (L : Int) (H : Hp) (d : Addr) (kvs : NT) : Prop where
  dict : Fl.ND P w H d kvs
  tab : Tab kvs
  ok : ∀ k v, valN kvs k = some v → Right false L k v
structure FPost (P : Program) (w : World) (L : Int) (H H' : Hp) (d : Addr) (kvs' : NT) : Prop where
  kp : KpD d H H'
  pre : FPre P w L H' d kvs'
theorem FPre.ex {P : Program} {w : World} {L : Int} {H H' : Hp} {d : Addr} {kvs : NT} (e : Ex H H') (h : FPre P w L H d kvs) : FPre P w L H' d kvs := ⟨h.dict.ex e, h.tab, h.ok⟩
theorem FPost.refl {P : Program} {w : World} {L : Int} {H : Hp} {d : Addr} {kvs : NT} (h : FPre P w L H d kvs) : FPost P w L H H d kvs := ⟨KpD.refl d H, h⟩
theorem FPost.ex {P : Program} {w : World} {L : Int} {H H' : Hp} {d : Addr} {kvs : NT} (e : Ex H H') (h : FPre P w L H d kvs) : FPost P w L H H' d kvs := ⟨KpD.ex e, h.ex e⟩
theorem FPost.trans {P : Program} {w : World} {L : Int} {H H1 H2 : Hp} {d : Addr} {k1 k2 : NT} (a : FPost P w L H H1 d k1) (b : FPost P w L H1 H2 d k2) : FPost P w L H H2 d k2 := ⟨a.kp.trans b.kp, b.pre⟩
/-- the first other place by which so many are enough -/
def FirstOn (L m a b p : Int) (v : V) : Prop := (v = .non ∧ ∀ q, 1 ≤ q → q ≤ L → q ≠ p → ¬ Good false L m.toNat a b p q) ∨
  ∃ q, v = .int q ∧ (1 ≤ q ∧ q ≤ L) ∧ q ≠ p ∧ Good false L m.toNat a b p q ∧ ∀ r, 1 ≤ r → r < q → r ≠ p → ¬ Good false L m.toNat a b p r
def sp_stands_are_enough (K : PySem.W.Frag) (P : Program) (w : World) (N : Nat) : Sp := fun vs H Q _ => ∃ (d s : Addr) (L a b p m : Int) (kvs : NT), vs = [.int L, .ref s, .int p, .int m, .ref d] ∧ 0 ≤ m ∧ m < N ∧ m < 64 ∧ L ≤ 16 ∧ H s = some (.tup [.int a, .int b]) ∧ 1 ≤ a ∧ a ≤ b ∧ b ≤ L ∧ 1 ≤ p ∧ p ≤ L ∧ FPre P w L H d kvs ∧
  ∀ H' (c : Bool) kvs', FPost P w L H H' d kvs' → (c = true ↔ En false L m.toNat a b p) → Q (.bl c) H'
def sp_first_onward (K : PySem.W.Frag) (P : Program) (w : World) (N : Nat) : Sp := fun vs H Q _ => ∃ (d s : Addr) (L a b p m : Int) (kvs : NT), vs = [.int L, .ref s, .int p, .int m, .ref d] ∧ 1 ≤ m ∧ m ≤ N ∧ m < 64 ∧ L ≤ 16 ∧ H s = some (.tup [.int a, .int b]) ∧ 1 ≤ a ∧ a ≤ b ∧ b ≤ L ∧ 1 ≤ p ∧ p ≤ L ∧ FPre P w L H d kvs ∧
  ∀ H' v kvs', FPost P w L H H' d kvs' → FirstOn L m a b p v → Q v H'
theorem FPre.new {P : Program} {w : World} {L : Int} {H : Hp} {d : Addr} : FPre P w L (upd H d (Fl.dNo P w d [])) d [] :=
  ⟨⟨upd_same, fun e he => (nomatch he)⟩, ⟨List.nodup_nil, fun e he => (nomatch he)⟩, fun k v hv => (by cases hv)⟩
theorem KpD.new {d : Addr} {H H' : Hp} {o : HO} (nd : H d = none) (k : KpD d (upd H d o) H') : Ex H H' := fun x u hx => by
  have ne : x ≠ d := ne_of_none hx nd
  exact k x u ne (by rw [upd_ne ne]; exact hx)
theorem AtPairs.zips {H : Hp} : ∀ {us : List Addr} {ps : List (Int × Int)}, AtPairs H us ps → ∃ zs : List (Addr × Int × Int), zs.map (·.1) = us ∧ zs.map (·.2) = ps ∧ ∀ z ∈ zs, H z.1 = some (.tup [.int z.2.1, .int z.2.2])
  | _, _, .nil => ⟨[], rfl, rfl, fun z hz => (nomatch hz)⟩
  | _, _, .cons (u := u) (p := p) h t => by
    obtain ⟨zs, rfl, rfl, h3⟩ := t.zips
    refine ⟨(u, p) :: zs, rfl, rfl, fun z hz => ?_⟩
    rcases List.mem_cons.mp hz with e | e
    · rw [e]
      exact h
    · exact h3 z e
theorem no_stands_are_enough {K : PySem.W.Frag} {P : Program} {w : World} {vs : List V} {H : Hp} {Q : VK} {E : XK} (h : sp_stands_are_enough K P w 0 vs H Q E) : False := by
  obtain ⟨d, s, L, a, b, p, m, kvs, _, hm0, hmN, _⟩ := h
  omega
abbrev N_stands_are_enough : List Str := ["length", "stretch", "place", "many", "known", "low", "high", "state"]
def t_stands_are_enough (K : PySem.W.Frag) (P : Program) (w : World) (N : Nat) : TS := (tSeq (tAsg (tVar 1) (gTup K 2 (gCons (gName 5) (gCons (gName 6) gNil))))
  (tSeq (tIfS (tTest (tOp rEq (tVar 5) (tVar 6))) (tRet (tC (.bl true))) tNext)
  (tSeq (tIfS (tTest (tOp (rI0 fun i j => .bl (decide (j ≤ i))) (tOp (rI0 fun i j => .int (i + j)) (tOp (rI0 fun i j => .int (i - j)) (tVar 6) (tVar 5)) (tC (.int 1))) (tOp (rI CPow fun i j => .int (i * 2 ^ j.toNat)) (tC (.int 2)) (tVar 3)))) (tRet (tC (.bl false))) tNext)
  (tSeq (tAsg (tTup (tCons (tVar 5) (tCons (tVar 6) (tCons (tVar 2) (tCons (tVar 3) tNil))))) (gName 7))
  (Evl.tCut (tIfS (tTest (tOp (Fl.rNotInN P w) (tVar 7) (tVar 4))) (Fl.sNPut P w (tVar 4) (tVar 7) (tOp (fun x y H Q => y = .non ∧ Q (.bl (!decide (x = .non))) H) (tCall (sp_first_onward K P w N) [] E0 (tCons (tVar 0) (tCons (tVar 1) (tCons (tVar 2) (tCons (tVar 3) (tCons (tVar 4) tNil)))))) (tC .non))) tNext)
  (tRet (Fl.tNGet P w (tVar 4) (tVar 7))))))))
theorem pure_stands_are_enough {K : PySem.W.Frag} {P : Program} {w : World} {N : Nat} {vs : List V} {H : Hp} {Q : VK} {E : XK} (h : sp_stands_are_enough K P w (N + 1) vs H Q E) : t_stands_are_enough K P w N { nx := fun _ H' => Q .non H', rt := Q } (start N_stands_are_enough vs) H := by
  obtain ⟨d, s, L, a, b, p, m, kvs, rfl, hm0, hmN, hm64, hL, hs, h1, h2, h3, h4, h5, hpre, q⟩ := h
  refine ⟨_, rfl, s, _, rfl, SqT.of hs, rfl, _, _, rfl, _, [], rfl, rfl, ?_⟩
  refine ⟨_, rfl, _, rfl, rfl, _, rfl, ite2 (fun e => ?_) (fun e => ?_)⟩
  · have e := V.int.inj (of_decide_eq_true e)
    subst e
    exact q H true kvs (FPost.refl hpre) ⟨fun _ => .one, fun _ => rfl⟩
  · have n0 : ¬ a = b := fun z => e (decide_eq_true (congrArg V.int z))
    refine ⟨_, rfl, _, rfl, b, a, rfl, rfl, b - a, 1, rfl, rfl, _, rfl, 2, m, rfl, rfl, ⟨hm0, by omega, by decide⟩, _, _, rfl, rfl, _, rfl, ite2 (fun e => ?_) (fun e => ?_)⟩
    · have e := of_decide_eq_true e
      refine q H false kvs (FPost.refl hpre) ⟨fun z => (by cases z), fun z => ?_⟩
      have := en_wide z
      rw [Int.pow_succ, Int.mul_comm] at this
      omega
    · have e : ¬ (2 * 2 ^ m.toNat ≤ b - a + 1) := fun z => e (decide_eq_true z)
      have hm1 : 1 ≤ m := by
        by_cases z : m = 0
        · rw [z] at e
          exfalso
          apply e
          show (2 : Int) * 2 ^ 0 ≤ b - a + 1
          omega
        · omega
      refine ⟨_, rfl, _, rfl, _, rfl, _, rfl, by show 4 ≤ sizeLine; decide, fun t nt => ?_⟩
      have e1 : Ex H (upd H t (.tup [.int a, .int b, .int p, .int m])) := Ex.new nt
      have ht1 : Fl.SpotAt (upd H t (.tup [.int a, .int b, .int p, .int m])) t (a, b, p, m) := upd_same
      have hpre1 := hpre.ex e1
      have hs1 := e1 _ _ hs
      have kp1 : KpD d H (upd H t (.tup [.int a, .int b, .int p, .int m])) := KpD.ex e1
      generalize upd H t (.tup [.int a, .int b, .int p, .int m]) = H1 at ht1 hpre1 hs1 kp1 ⊢
      have hbox : InBox (a, b, p, m) := ⟨⟨h1, by show a ≤ 16; omega⟩, ⟨by show 1 ≤ b; omega, by show b ≤ 16; omega⟩, ⟨h4, by show p ≤ 16; omega⟩, hm0, hm64⟩
      have hd1 := hpre1.dict.1
      have hab : a < b := by omega
      refine ⟨fun σ H' => ∃ (kvs' : NT) (c : Bool), σ = [some (.int L), some (.ref s), some (.int p), some (.int m), some (.ref d), some (.int a), some (.int b), some (.ref t)] ∧ FPost P w L H1 H' d kvs' ∧ valN kvs' (a, b, p, m) = some (.bl c) ∧ (c = true ↔ En false L m.toNat a b p), ?_, ?_⟩
      · refine ⟨_, rfl, _, rfl, d, kvs, t, (a, b, p, m), rfl, rfl, hpre1.dict, ht1, _, rfl, ite2 (fun hin => ?_) (fun hin => ?_)⟩
        · refine ⟨_, rfl, _, rfl, _, rfl, _, rfl, _, rfl, d, s, L, a, b, p, m, kvs, rfl, hm1, by omega, hm64, hL, hs1, h1, h2, h3, h4, h5, hpre1, fun H2 v kvs2 hp2 hv => ?_⟩
          have ht2 : Fl.SpotAt H2 t (a, b, p, m) := hp2.kp.atF hd1 ht1 Fl.tup_ne
          have hc : (!decide (v = V.non)) = true ↔ En false L m.toNat a b p := by
            rw [en_good hab]
            rcases hv with ⟨rfl, hno⟩ | ⟨q', rfl, hq', ne', hg, _⟩
            · constructor
              · intro z
                exact absurd z (by decide)
              · rintro ⟨q', ⟨z1, z2⟩, ne', hg⟩
                exact absurd hg (hno q' z1 z2 ne')
            · exact ⟨fun _ => ⟨q', hq', ne', hg⟩, fun _ => rfl⟩
          refine ⟨rfl, _, rfl, _, rfl, d, kvs2, t, (a, b, p, m), rfl, rfl, hp2.pre.dict, ht2, hp2.pre.tab.len, putN kvs2 (a, b, p, m) t (.bl (!decide (v = V.non))), !decide (v = V.non), rfl, ⟨hp2.kp.put, hp2.pre.dict.put ht2, hp2.pre.tab.put hbox, fun k v2 hv2 => ?_⟩, by rw [valN_put, if_pos rfl], hc⟩
          rw [valN_put] at hv2
          by_cases hk : k = (a, b, p, m)
          · rw [if_pos hk] at hv2
            cases hv2
            rw [hk]
            exact ⟨_, rfl, hc⟩
          · rw [if_neg hk] at hv2
            exact hp2.pre.ok k v2 hv2
        · obtain ⟨v, hv⟩ : ∃ v, valN kvs (a, b, p, m) = some v := by
            cases hv : valN kvs (a, b, p, m) with
            | none =>
              rw [hv] at hin
              exact absurd rfl hin
            | some x => exact ⟨x, rfl⟩
          obtain ⟨c, rfl, hc⟩ := hpre1.ok _ v hv
          exact ⟨kvs, c, rfl, FPost.refl hpre1, hv, hc⟩
      · rintro σ H3 ⟨kvs3, c, rfl, hp3, hval, hiff⟩
        have ht3 : Fl.SpotAt H3 t (a, b, p, m) := hp3.kp.atF hd1 ht1 Fl.tup_ne
        refine ⟨_, rfl, _, rfl, d, kvs3, t, (a, b, p, m), .bl c, rfl, rfl, hp3.pre.dict, ht3, hval, ?_⟩
        exact q H3 c kvs3 ⟨kp1.trans hp3.kp, hp3.pre⟩ hiff
theorem len_stands_are_enough {K : PySem.W.Frag} {P : Program} {w : World} {N : Nat} {vs : List V} {H : Hp} {Q : VK} {E : XK} (h : sp_stands_are_enough K P w N vs H Q E) : vs.length = 5 := by
  obtain ⟨d, s, L, a, b, p, m, kvs, rfl, _⟩ := h
  rfl
abbrev N_first_onward : List Str := ["length", "stretch", "place", "many", "known", "onward", "parts", "part"]
def t_first_onward (K : PySem.W.Frag) (P : Program) (w : World) (N : Nat) : TS := (tSeq (tFor (iList K (tCall (sp_other_places K) [] E0 (tCons (tVar 0) (tCons (tVar 2) tNil)))) (gName 5) (tSeq (tAsg (tCall (sp_parts_of K) [] E0 (tCons (tVar 1) (tCons (tVar 2) (tCons (tVar 5) tNil)))) (gName 6))
  (tIfS (tB (tCB (rAll K) (tCons (tLc (iList K (tVar 6)) (gName 7) tYes (tCall (sp_stands_are_enough K P w N) [] E0 (tCons (tVar 0) (tCons (tVar 7) (tCons (tVar 5) (tCons (tOp (rI0 fun i j => .int (i - j)) (tVar 3) (tC (.int 1))) (tCons (tVar 4) tNil)))))) [7]) tNil))) (tRet (tVar 5)) tNext)))
  (tRet (tC .non)))
theorem pure_first_onward {K : PySem.W.Frag} {P : Program} {w : World} {N : Nat} {vs : List V} {H : Hp} {Q : VK} {E : XK} (h : sp_first_onward K P w N vs H Q E) : t_first_onward K P w N { nx := fun _ H' => Q .non H', rt := Q } (start N_first_onward vs) H := by
  obtain ⟨d, s, L, a, b, p, m, kvs, rfl, hm1, hmN, hm64, hL, hs, h1, h2, h3, h4, h5, hpre, q⟩ := h
  refine ⟨_, rfl, _, rfl, L, p, rfl, by omega, by omega, fun O H1 nO e1 hO => ?_⟩
  refine ⟨O, rfl, ⟨_, SqL.of hO⟩, ?_⟩
  have hpre1 := hpre.ex e1
  have hs1 := e1 _ _ hs
  have hd1 := hpre1.dict.1
  have kp1 : KpD d H H1 := KpD.ex e1
  refine for_list (K := K) (a := O) (xs := (others L p).map V.int) (fun i σ H' => ∃ (x5 x6 x7 : Option V) (kvs' : NT), σ = [some (.int L), some (.ref s), some (.int p), some (.int m), some (.ref d), x5, x6, x7] ∧ FPost P w L H1 H' d kvs' ∧ ∀ r ∈ (others L p).take i, ¬ Good false L m.toNat a b p r)
    ⟨none, none, none, kvs, rfl, FPost.refl hpre1, fun r hr => (nomatch hr)⟩ (fun i σ H' _ ⟨_, _, _, _, _, hp, _⟩ => SqL.of (hp.kp.atF hd1 hO Fl.lst_ne)) ?_ ?_
  · rintro i x σ H2 hx ⟨x5, x6, x7, kvs2, rfl, hp2, hno⟩
    obtain ⟨q', hq', rfl⟩ : ∃ q', (others L p)[i]? = some q' ∧ x = .int q' := by
      rw [List.getElem?_map] at hx
      cases hg : (others L p)[i]? with
      | none => rw [hg] at hx; cases hx
      | some u =>
        rw [hg] at hx
        exact ⟨u, rfl, (Option.some.inj hx).symm⟩
    obtain ⟨⟨hq1, hqL⟩, hne⟩ := mem_others.mp (List.mem_of_getElem? hq')
    have hs2 := hp2.kp.atF hd1 hs1 Fl.tup_ne
    have hd2 := hp2.pre.dict.1
    refine ⟨_, rfl, _, rfl, _, rfl, s, a, b, p, q', rfl, hs2, fun C H3 us nC e3 hC hps => ?_⟩
    have hp3 : FPre P w L H3 d kvs2 := hp2.pre.ex e3
    have hd3 := hp3.dict.1
    have hpl := parts_len a b p q'
    have hul := hps.len
    refine ⟨_, rfl, C, rfl, ⟨_, SqL.of hC⟩, fun D nD => ?_⟩
    have e4 : Ex H3 (upd H3 D (.lst [])) := Ex.new nD
    have nDd : D ≠ d := ne_of_none hd3 nD |>.symm
    have hin : ∀ z ∈ partsOf a b p q', 1 ≤ z.1 ∧ z.1 ≤ z.2 ∧ z.2 ≤ L := fun z hz => by
      obtain ⟨c, e⟩ := z
      obtain ⟨w', hw'⟩ := (parts_cut hne).mp hz
      have := hw'.sub
      have := hw'.1
      exact ⟨by show 1 ≤ c; omega, this, by show e ≤ L; omega⟩
    refine lc_list (K := K) (a := C) (xs := us.map V.ref) (fun j H' => ∃ (kvs' : NT) (bs : List Bool), FPost P w L H3 H' d kvs' ∧ H' D = some (.lst (bs.map V.bl)) ∧ bs.length = j ∧ (bs.all id = true ↔ ∀ z ∈ (partsOf a b p q').take j, En false L (m - 1).toNat z.1 z.2 q'))
      ⟨kvs2, [], FPost.ex e4 hp3, upd_same, rfl, ⟨fun _ z hz => (nomatch hz), fun _ => rfl⟩⟩ (fun j H' _ ⟨kvs', _, hp, _⟩ => SqL.of (hp.kp.atF hd3 hC Fl.lst_ne)) (fun j x H4 hx ⟨kvs', bs, hp, hD, hbl, hiff⟩ => ?_) (fun H4 ⟨kvs', bs, hp, hD, hbl, hiff⟩ => ?_)
    · have hj : j < us.length := by
        have := (List.getElem?_eq_some_iff.mp hx).1
        rw [List.length_map] at this
        exact this
      rw [List.getElem?_map, List.getElem?_eq_getElem hj] at hx
      have ex : x = .ref us[j] := (Option.some.inj hx).symm
      subst ex
      have hps4 := hp.kp.pairsF hd3 hps
      obtain ⟨z, hz, hzat⟩ := hps4.at (List.getElem?_eq_getElem hj)
      have hzv := hin z (List.mem_of_getElem? hz)
      refine ⟨rfl, ?_⟩
      dsimp only [tYes]
      rw [if_pos rfl]
      refine ⟨_, rfl, _, rfl, _, rfl, _, rfl, m, 1, rfl, rfl, _, rfl, d, us[j], L, z.1, z.2, q', m - 1, kvs', rfl, by omega, by omega, by omega, hL, hzat, hzv.1, hzv.2.1, hzv.2.2, hq1, hqL, hp.pre, fun H5 c kvs5 hp5 hc => ?_⟩
      have hD5 : H5 D = some (.lst (bs.map V.bl)) := hp5.kp.atF hp.pre.dict.1 hD Fl.lst_ne
      have hp35 := hp.trans hp5
      refine ⟨_, hD5, ?_, kvs5, bs ++ [c], ⟨?_, ⟨⟨?_, ?_⟩, hp35.pre.tab, hp35.pre.ok⟩⟩, ?_, ?_, ?_⟩
      · rw [List.length_map, hbl]
        exact small1000 (by omega)
      · intro y o ny hy
        rw [upd_ne (ne_of_none hy nD)]
        exact hp35.kp y o ny hy
      · rw [upd_ne nDd.symm]
        exact hp35.pre.dict.1
      · refine hp35.pre.dict.2.mutG fun xs zz => ?_
        rw [hD5] at zz
        cases zz
      · rw [upd_same, List.map_append]
        rfl
      · rw [List.length_append, hbl]
        rfl
      · rw [List.all_append, Bool.and_eq_true, hiff, List.take_add_one, hz]
        have e1 : ([c].all id = true) ↔ c = true := by
          show ((id c && true) = true) ↔ c = true
          rw [Bool.and_true]
          exact Iff.rfl
        rw [e1, hc]
        constructor
        · rintro ⟨g1, g2⟩ y hy
          rcases List.mem_append.mp hy with hy | hy
          · exact g1 y hy
          · have : y = z := by simpa using hy
            rw [this]
            exact g2
        · intro g
          exact ⟨fun y hy => g y (List.mem_append.mpr (.inl hy)), g z (List.mem_append.mpr (.inr (by simp)))⟩
    · rw [List.length_map, hul, List.take_length] at hiff
      refine ⟨D, bs, rfl, SqL.of hD, _, rfl, ?_⟩
      have hpall : FPost P w L H1 H4 d kvs' := ⟨(hp2.kp.trans (KpD.ex e3)).trans hp.kp, hp.pre⟩
      have hg : bs.all id = true ↔ Good false L m.toNat a b p q' := by
        rw [hiff, good_parts hne]
        have ec : cost false p q' = 1 := rfl
        have em : m.toNat - 1 = (m - 1).toNat := by omega
        rw [ec, em]
        exact ⟨fun z => ⟨by omega, z⟩, fun z => z.2⟩
      refine ite2 (fun hall => ?_) (fun hall => ?_)
      · refine ⟨_, rfl, q H4 (.int q') kvs' ⟨kp1.trans hpall.kp, hpall.pre⟩ (.inr ⟨q', rfl, ⟨hq1, hqL⟩, hne, hg.mp hall, fun r r1 r2 r3 => ?_⟩)⟩
        exact hno r (up_take (others_up L p) hq' (mem_others.mpr ⟨⟨r1, by omega⟩, r3⟩) r2)
      · refine ⟨_, _, _, kvs', rfl, hpall, fun r hr => ?_⟩
        rw [List.take_add_one, hq'] at hr
        rcases List.mem_append.mp hr with hr | hr
        · exact hno r hr
        · have : r = q' := by simpa using hr
          rw [this]
          exact fun z => hall (hg.mpr z)
  · rintro σ H2 ⟨x5, x6, x7, kvs2, rfl, hp2, hno⟩
    rw [List.length_map, List.take_length] at hno
    refine q H2 .non kvs2 ⟨kp1.trans hp2.kp, hp2.pre⟩ (.inl ⟨rfl, fun r r1 r2 r3 => hno r (mem_others.mpr ⟨⟨r1, r2⟩, r3⟩)⟩)
theorem len_first_onward {K : PySem.W.Frag} {P : Program} {w : World} {N : Nat} {vs : List V} {H : Hp} {Q : VK} {E : XK} (h : sp_first_onward K P w N vs H Q E) : vs.length = 5 := by
  obtain ⟨d, s, L, a, b, p, m, kvs, rfl, _⟩ := h
  rfl
def sp_stands_from (K : PySem.W.Frag) : Sp := fun vs H Q _ => ∃ (L : Int) (s : Addr) (a b p : Int), vs = [.int L, .ref s, .int p] ∧ L ≤ 16 ∧ H s = some (.tup [.int a, .int b]) ∧ 1 ≤ a ∧ a ≤ b ∧ b ≤ L ∧ 1 ≤ p ∧ p ≤ L ∧
  ∀ H' u n v, Ex H H' → Told false L a b p n v → H' u = some (.tup [.int (n : Nat), v]) → Q (.ref u) H'
abbrev N_stands_from : List Str := ["length", "stretch", "place", "known", "many"]
def t_stands_from (K : PySem.W.Frag) (P : Program) (w : World) : TS := (tSeq (tDrop (tCall (sp_check_going_length K) [] E0 (tCons (tVar 0) tNil)))
  (tSeq (tDrop (tCall (sp_check_stretch K) [] E0 (tCons (tVar 1) (tCons (tVar 0) tNil))))
  (tSeq (tDrop (tCall (sp_check_place K) [] E0 (tCons (tVar 2) (tCons (tVar 0) tNil))))
  (tSeq (tAsg (Fl.tNNew P w) (gName 3))
  (tSeq (tAsg (tC (.int 0)) (gName 4))
  (tSeq (tWhile (tNot (tB (tCall (sp_stands_are_enough K P w 40) [] E0 (tCons (tVar 0) (tCons (tVar 1) (tCons (tVar 2) (tCons (tVar 4) (tCons (tVar 3) tNil)))))))) (tAug 4 (tC (.int 1)) (ipI fun i j => i + j)))
  (tSeq (tIfS (tTest (tOp rEq (tVar 4) (tC (.int 0)))) (tRet (tTup (tCons (tC (.int 0)) (tCons (tC .non) tNil)))) tNext)
  (tRet (tTup (tCons (tVar 4) (tCons (tCall (sp_first_onward K P w 40) [] E0 (tCons (tVar 0) (tCons (tVar 1) (tCons (tVar 2) (tCons (tVar 4) (tCons (tVar 3) tNil)))))) tNil)))))))))))
theorem pure_stands_from {K : PySem.W.Frag} {P : Program} {w : World} {vs : List V} {H : Hp} {Q : VK} {E : XK} (h : sp_stands_from K vs H Q E) : t_stands_from K P w { nx := fun _ H' => Q .non H', rt := Q } (start N_stands_from vs) H := by
  obtain ⟨L, s, a, b, p, rfl, hL, hs, h1, h2, h3, h4, h5, q⟩ := h
  refine ⟨_, rfl, L, rfl, by omega, hL, ?_⟩
  refine ⟨_, rfl, _, rfl, s, L, a, b, rfl, hs, h1, h2, h3, ?_⟩
  refine ⟨_, rfl, _, rfl, p, L, rfl, h4, h5, ?_⟩
  refine fun d nd => ?_
  have hpre : FPre P w L (upd H d (Fl.dNo P w d [])) d [] := FPre.new
  have hs1 : (upd H d (Fl.dNo P w d [])) s = some (.tup [.int a, .int b]) := (Ex.new nd) _ _ hs
  have hnew : ∀ {H'}, KpD d (upd H d (Fl.dNo P w d [])) H' → Ex H H' := fun k => KpD.new nd k
  generalize upd H d (Fl.dNo P w d []) = H1 at hpre hs1 hnew ⊢
  have hd1 := hpre.dict.1
  have hbig := en_enough (L := L) (p := p) h1 h2 h3
  refine ⟨fun k σ H' => ∃ (m : Nat) (kvs' : NT), σ = [some (.int L), some (.ref s), some (.int p), some (.ref d), some (.int (m : Int))] ∧ m + k = (b - a).toNat + 1 ∧ FPost P w L H1 H' d kvs' ∧ ∀ j, j < m → ¬ En false L j a b p,
    ⟨(b - a).toNat + 1, 0, [], rfl, by omega, FPost.refl hpre, fun j hj => absurd hj (Nat.not_lt_zero j)⟩, ?_⟩
  rintro k σ H2 ⟨m, kvs2, rfl, hmk, hp2, hno⟩
  have hs2 := hp2.kp.atF hd1 hs1 Fl.tup_ne
  refine ⟨_, rfl, _, rfl, _, rfl, _, rfl, _, rfl, d, s, L, a, b, p, (m : Int), kvs2, rfl, by omega, by omega, by omega, hL, hs2, h1, h2, h3, h4, h5, hp2.pre, fun H3 c kvs3 hp3 hc => ?_⟩
  rw [Int.toNat_natCast] at hc
  have hp13 := hp2.trans hp3
  refine ⟨_, rfl, ?_⟩
  cases c with
  | false =>
    have hn : ¬ En false L m a b p := fun z => absurd (hc.mpr z) (by decide)
    have hlt : m < (b - a).toNat + 1 := by
      apply Classical.byContradiction
      intro z
      exact hn (hbig.mono (by omega))
    refine iteT ⟨fun σ' H' => σ' = [some (.int L), some (.ref s), some (.int p), some (.ref d), some (.int ((m + 1 : Nat) : Int))] ∧ H' = H3, ?_, ?_⟩
    · rintro σ' H' ⟨rfl, rfl⟩
      refine ⟨k - 1, by omega, m + 1, kvs3, rfl, by omega, hp13, fun j hj => ?_⟩
      by_cases z : j = m
      · rw [z]
        exact hn
      · exact hno j (by omega)
    · exact ⟨_, rfl, _, _, rfl, rfl, rfl, rfl⟩
  | true =>
    have hen : En false L m a b p := hc.mp rfl
    refine iteF ?_
    refine ⟨_, rfl, rfl, _, rfl, ite2 (fun e => ?_) (fun e => ?_)⟩
    · have e0 := V.int.inj (of_decide_eq_true e)
      have em : m = 0 := by omega
      have hab : a = b := by
        rw [em] at hen
        cases hen with
        | one => rfl
        | go q' _ _ ne hc' _ =>
          have := cost_pos (st := false) ne
          omega
      refine ⟨by show 2 ≤ sizeLine; decide, fun u nu => ?_⟩
      exact q _ u 0 .non ((hnew hp13.kp).trans (Ex.new nu)) (.inl ⟨hab, rfl, rfl⟩) upd_same
    · have em : m ≠ 0 := fun z => e (decide_eq_true (by rw [z]; rfl))
      have hab : a < b := by
        have : a ≠ b := fun z => hno 0 (by omega) (by rw [z]; exact .one)
        omega
      have hs3 := hp13.kp.atF hd1 hs1 Fl.tup_ne
      refine ⟨_, rfl, _, rfl, _, rfl, _, rfl, _, rfl, _, rfl, d, s, L, a, b, p, (m : Int), kvs3, rfl, by omega, by omega, by omega, hL, hs3, h1, h2, h3, h4, h5, hp3.pre, fun H4 v kvs4 hp4 hv => ?_⟩
      refine ⟨by show 2 ≤ sizeLine; decide, fun u nu => ?_⟩
      refine q _ u m v ((hnew (hp13.trans hp4).kp).trans (Ex.new nu)) (.inr ⟨hab, ⟨hen, hno⟩, ?_⟩) upd_same
      rcases hv with ⟨_, hv⟩ | ⟨q', rfl, hq', ne, hg, hfirst⟩
      · obtain ⟨q', ⟨z1, z2⟩, ne, hg⟩ := (en_good hab).mp hen
        exact absurd hg (hv q' z1 z2 ne)
      · exact ⟨q', rfl, hq', ne, hg, hfirst⟩
theorem len_stands_from {K : PySem.W.Frag} {vs : List V} {H : Hp} {Q : VK} {E : XK} (h : sp_stands_from K vs H Q E) : vs.length = 3 := by
  obtain ⟨L, s, a, b, p, rfl, _⟩ := h
  rfl
/-- the least number on a whole path, and where to begin -/
def AtAll (L : Int) (n : Nat) (v : V) : Prop := (L = 1 ∧ n = 0 ∧ v = .non) ∨ (2 ≤ L ∧ ∃ (m : Nat) (p : Int), n = m + 1 ∧ v = .int p ∧ (1 ≤ p ∧ p ≤ L) ∧ LeastN false L 1 L p m ∧ (∀ q, 1 ≤ q → q ≤ L → ∀ k, LeastN false L 1 L q k → m ≤ k) ∧ ∀ q, 1 ≤ q → q < p → ∀ k, LeastN false L 1 L q k → m < k)
def sp_stands_at_all (K : PySem.W.Frag) : Sp := fun vs H Q _ => ∃ L : Int, vs = [.int L] ∧ 1 ≤ L ∧ L ≤ 16 ∧ ∀ H' u n v, Ex H H' → AtAll L n v → H' u = some (.tup [.int (n : Nat), v]) → Q (.ref u) H'
abbrev N_stands_at_all : List Str := ["length", "known", "further", "place"]
def t_stands_at_all (K : PySem.W.Frag) (P : Program) (w : World) : TS := (tSeq (tDrop (tCall (sp_check_going_length K) [] E0 (tCons (tVar 0) tNil)))
  (tSeq (tIfS (tTest (tOp rEq (tVar 0) (tC (.int 1)))) (tRet (tTup (tCons (tC (.int 0)) (tCons (tC .non) tNil)))) tNext)
  (tSeq (tAsg (Fl.tNNew P w) (gName 1))
  (tSeq (tAsg (tC (.int 0)) (gName 2))
  (tWhile (tB (tC (.bl true))) (tSeq (tAug 2 (tC (.int 1)) (ipI fun i j => i + j))
  (tFor (iRng2 (tCons (tC (.int 1)) (tCons (tOp (rI0 fun i j => .int (i + j)) (tVar 0) (tC (.int 1))) tNil))) (gName 3) (tIfS (tB (tCall (sp_stands_are_enough K P w 40) [] E0 (tCons (tVar 0) (tCons (tTup (tCons (tC (.int 1)) (tCons (tVar 0) tNil))) (tCons (tVar 3) (tCons (tVar 2) (tCons (tVar 1) tNil))))))) (tRet (tTup (tCons (tOp (rI0 fun i j => .int (i + j)) (tVar 2) (tC (.int 1))) (tCons (tVar 3) tNil)))) tNext))))))))
theorem pure_stands_at_all {K : PySem.W.Frag} {P : Program} {w : World} {vs : List V} {H : Hp} {Q : VK} {E : XK} (h : sp_stands_at_all K vs H Q E) : t_stands_at_all K P w { nx := fun _ H' => Q .non H', rt := Q } (start N_stands_at_all vs) H := by
  obtain ⟨L, rfl, h1, hL, q⟩ := h
  refine ⟨_, rfl, L, rfl, h1, hL, ?_⟩
  refine ⟨_, rfl, rfl, _, rfl, ite2 (fun e => ?_) (fun e => ?_)⟩
  · have e := V.int.inj (of_decide_eq_true e)
    refine ⟨by show 2 ≤ sizeLine; decide, fun u nu => ?_⟩
    exact q _ u 0 .non (Ex.new nu) (.inl ⟨e, rfl, rfl⟩) upd_same
  · have hL2 : 2 ≤ L := by
      have : ¬ L = 1 := fun z => e (decide_eq_true (congrArg V.int z))
      omega
    refine fun d nd => ?_
    have hpre : FPre P w L (upd H d (Fl.dNo P w d [])) d [] := FPre.new
    have hnew : ∀ {H'}, KpD d (upd H d (Fl.dNo P w d [])) H' → Ex H H' := fun k => KpD.new nd k
    generalize upd H d (Fl.dNo P w d []) = H1 at hpre hnew ⊢
    have hd1 := hpre.dict.1
    have hbig := en_low (st := false) (L := L) (L - 1).toNat 1 L (by omega) (by omega) rfl (by omega)
    refine ⟨fun k σ H' => ∃ (m : Nat) (x3 : Option V) (kvs' : NT), σ = [some (.int L), some (.ref d), some (.int (m : Int)), x3] ∧ m + k = (L - 1).toNat ∧ FPost P w L H1 H' d kvs' ∧ ∀ j, j ≤ m → ∀ r, 1 ≤ r → r ≤ L → ¬ En false L j 1 L r,
      ⟨(L - 1).toNat, 0, none, [], rfl, by omega, FPost.refl hpre, fun j hj r _ _ z => ?_⟩, ?_⟩
    · rw [show j = 0 by omega] at z
      have := en_wide z
      omega
    · rintro k σ H2 ⟨m, x3, kvs2, rfl, hmk, hp2, hno⟩
      have hlt : m < (L - 1).toNat := by
        apply Classical.byContradiction
        intro z
        exact hno m (Nat.le_refl m) 1 (by omega) (by omega) (hbig.mono (by omega))
      refine ⟨_, rfl, iteT ⟨fun σ' H' => ∃ (x3' : Option V) (kvs' : NT), σ' = [some (.int L), some (.ref d), some (.int ((m + 1 : Nat) : Int)), x3'] ∧ FPost P w L H1 H' d kvs' ∧ ∀ r, 1 ≤ r → r ≤ L → ¬ En false L (m + 1) 1 L r, ?_, ?_⟩⟩
      · rintro σ' H' ⟨x3', kvs', rfl, hp', hno'⟩
        refine ⟨k - 1, by omega, m + 1, x3', kvs', rfl, by omega, hp', fun j hj r r1 r2 => ?_⟩
        by_cases z : j = m + 1
        · rw [z]
          exact hno' r r1 r2
        · exact hno j (by omega) r r1 r2
      · refine ⟨_, rfl, _, _, rfl, rfl, ?_⟩
        refine ⟨_, rfl, L, 1, rfl, rfl, 1, L + 1, rfl, ⟨by decide, by decide, by omega, by omega⟩, ?_⟩
        refine for_range (lo := 1) (n := (L + 1 - 1).toNat) (fun i σ H' => ∃ (x3' : Option V) (kvs' : NT), σ = [some (.int L), some (.ref d), some (.int ((m + 1 : Nat) : Int)), x3'] ∧ FPost P w L H1 H' d kvs' ∧ ∀ r, 1 ≤ r → r < 1 + (i : Int) → ¬ En false L (m + 1) 1 L r)
          ⟨x3, kvs2, rfl, hp2, fun r r1 r2 => (by omega)⟩ ?_ ?_
        · rintro i σ H3 hi ⟨x3', kvs3, rfl, hp3, hno3⟩
          refine ⟨_, rfl, _, rfl, by show 2 ≤ sizeLine; decide, fun t nt => ?_⟩
          have e4 : Ex H3 (upd H3 t (.tup [.int 1, .int L])) := Ex.new nt
          have ht4 : (upd H3 t (.tup [.int 1, .int L])) t = some (.tup [.int 1, .int L]) := upd_same
          have hp4 : FPost P w L H1 (upd H3 t (.tup [.int 1, .int L])) d kvs3 := hp3.trans (FPost.ex e4 hp3.pre)
          generalize upd H3 t (.tup [.int 1, .int L]) = H4 at ht4 hp4 ⊢
          refine ⟨_, rfl, _, rfl, _, rfl, d, t, L, 1, L, 1 + (i : Int), ((m + 1 : Nat) : Int), kvs3, rfl, by omega, by omega, by omega, hL, ht4, by omega, by omega, by omega, by omega, by omega, hp4.pre, fun H5 c kvs5 hp5 hc => ?_⟩
          rw [Int.toNat_natCast] at hc
          have hp15 := hp4.trans hp5
          refine ⟨_, rfl, ?_⟩
          cases c with
          | true =>
            refine iteT ⟨_, rfl, _, 1, rfl, rfl, _, rfl, by show 2 ≤ sizeLine; decide, fun u nu => ?_⟩
            have hen := hc.mp rfl
            refine q _ u (m + 1 + 1) (.int (1 + (i : Int))) ((hnew hp15.kp).trans (Ex.new nu)) (.inr ⟨hL2, m + 1, 1 + (i : Int), rfl, rfl, ⟨by omega, by omega⟩, ⟨hen, fun j hj => hno j (by omega) _ (by omega) (by omega)⟩, fun r r1 r2 j hj => ?_, fun r r1 r2 j hj => ?_⟩) upd_same
            · apply Classical.byContradiction
              intro z
              exact hno j (by omega) r r1 r2 hj.1
            · apply Classical.byContradiction
              intro z
              exact hno3 r r1 r2 (hj.1.mono (by omega))
          | false =>
            refine iteF ⟨_, kvs5, rfl, hp15, fun r r1 r2 => ?_⟩
            by_cases z : r = 1 + (i : Int)
            · rw [z]
              exact fun z => absurd (hc.mpr z) (by decide)
            · exact hno3 r r1 (by omega)
        · rintro σ H3 ⟨x3', kvs3, rfl, hp3, hno3⟩
          exact ⟨x3', kvs3, rfl, hp3, fun r r1 r2 => hno3 r r1 (by omega)⟩
theorem len_stands_at_all {K : PySem.W.Frag} {vs : List V} {H : Hp} {Q : VK} {E : XK} (h : sp_stands_at_all K vs H Q E) : vs.length = 1 := by
  obtain ⟨L, rfl, _⟩ := h
  rfl
def sp_least_steps (K : PySem.W.Frag) : Sp := fun vs H Q _ => ∃ (s : Addr) (a b p : Int), vs = [.ref s, .int p] ∧ H s = some (.tup [.int a, .int b]) ∧ Q (.int (Stp a b p)) H
abbrev N_least_steps : List Str := ["stretch", "place", "low", "high", "upward_first", "downward_first"]
def t_least_steps (K : PySem.W.Frag) : TS := (tSeq (tAsg (tVar 0) (gTup K 2 (gCons (gName 2) (gCons (gName 3) gNil))))
  (tSeq (tIfS (tTest (tOp rEq (tVar 2) (tVar 3))) (tRet (tC (.int 0))) tNext)
  (tSeq (tIfS (tTest (tOp (rI0 fun i j => .bl (decide (i ≤ j))) (tVar 1) (tVar 2))) (tRet (tOp (rI0 fun i j => .int (i - j)) (tVar 3) (tVar 1))) tNext)
  (tSeq (tIfS (tTest (tOp (rI0 fun i j => .bl (decide (j ≤ i))) (tVar 1) (tVar 3))) (tRet (tOp (rI0 fun i j => .int (i - j)) (tVar 1) (tVar 2))) tNext)
  (tSeq (tAsg (tCB rMax2 (tCons (tOp (rI0 fun i j => .int (i - j)) (tVar 3) (tVar 1)) (tCons (tOp (rI0 fun i j => .int (i + j)) (tOp (rI0 fun i j => .int (i - j)) (tVar 1) (tVar 2)) (tC (.int 2))) tNil))) (gName 4))
  (tSeq (tAsg (tCB rMax2 (tCons (tOp (rI0 fun i j => .int (i - j)) (tVar 1) (tVar 2)) (tCons (tOp (rI0 fun i j => .int (i + j)) (tOp (rI0 fun i j => .int (i - j)) (tVar 3) (tVar 1)) (tC (.int 2))) tNil))) (gName 5))
  (tRet (tCB rMin2 (tCons (tVar 4) (tCons (tVar 5) tNil))))))))))
theorem pure_least_steps {K : PySem.W.Frag} {vs : List V} {H : Hp} {Q : VK} {E : XK} (h : sp_least_steps K vs H Q E) : t_least_steps K { nx := fun _ H' => Q .non H', rt := Q } (start N_least_steps vs) H := by
  obtain ⟨s, a, b, p, rfl, hs, q⟩ := h
  refine ⟨_, rfl, s, _, rfl, SqT.of hs, rfl, _, _, rfl, _, [], rfl, rfl, ?_⟩
  refine ⟨_, rfl, _, rfl, rfl, _, rfl, ite2 (fun e => ?_) (fun e => ?_)⟩
  · have e := V.int.inj (of_decide_eq_true e)
    have eS : Stp a b p = 0 := by
      unfold Stp
      rw [if_pos e]
    rw [eS] at q
    exact q
  · have n0 : ¬ a = b := fun z => e (decide_eq_true (congrArg V.int z))
    refine ⟨_, rfl, _, rfl, p, a, rfl, rfl, _, rfl, ite2 (fun e => ?_) (fun e => ?_)⟩
    · have e := of_decide_eq_true e
      have eS : Stp a b p = b - p := by
        unfold Stp
        rw [if_neg n0, if_pos e]
      rw [eS] at q
      exact ⟨_, rfl, _, rfl, b, p, rfl, rfl, q⟩
    · have n1 : ¬ p ≤ a := fun z => e (decide_eq_true z)
      refine ⟨_, rfl, _, rfl, p, b, rfl, rfl, _, rfl, ite2 (fun e => ?_) (fun e => ?_)⟩
      · have e := of_decide_eq_true e
        have eS : Stp a b p = p - a := by
          unfold Stp
          rw [if_neg n0, if_neg n1, if_pos e]
        rw [eS] at q
        exact ⟨_, rfl, _, rfl, p, a, rfl, rfl, q⟩
      · have n2 : ¬ b ≤ p := fun z => e (decide_eq_true z)
        have eS : Stp a b p = min (max (b - p) (p - a + 2)) (max (p - a) (b - p + 2)) := by
          unfold Stp
          rw [if_neg n0, if_neg n1, if_neg n2]
        refine ⟨_, rfl, _, rfl, b, p, rfl, rfl, _, rfl, _, rfl, p, a, rfl, rfl, _, 2, rfl, rfl, _, _, rfl, ?_⟩
        refine ⟨_, rfl, _, rfl, p, a, rfl, rfl, _, rfl, _, rfl, b, p, rfl, rfl, _, 2, rfl, rfl, _, _, rfl, ?_⟩
        refine ⟨_, rfl, _, rfl, _, _, rfl, ?_⟩
        have e2 : ∀ x y u v : Int, (if (if v > u then v else u) < (if y > x then y else x) then (if v > u then v else u) else (if y > x then y else x)) = min (max x y) (max u v) := fun x y u v => by
          repeat' split
          all_goals omega
        dsimp only
        rw [e2, ← eS]
        exact q
theorem len_least_steps {K : PySem.W.Frag} {vs : List V} {H : Hp} {Q : VK} {E : XK} (h : sp_least_steps K vs H Q E) : vs.length = 2 := by
  obtain ⟨s, a, b, p, rfl, _⟩ := h
  rfl
def sp_steps_by (K : PySem.W.Frag) : Sp := fun vs H Q _ => ∃ (s : Addr) (a b p q : Int), vs = [.ref s, .int p, .int q] ∧ H s = some (.tup [.int a, .int b]) ∧ a < b ∧ q ≠ p ∧
  ∀ H' m, Ex H H' → (∃ z ∈ partsOf a b p q, m = Stp z.1 z.2 q) → (∀ z ∈ partsOf a b p q, Stp z.1 z.2 q ≤ m) → Q (.int (ab (q - p) + m)) H'
abbrev N_steps_by : List Str := ["stretch", "place", "onward", "parts", "part"]
def t_steps_by (K : PySem.W.Frag) : TS := (tSeq (tAsg (tCall (sp_parts_of K) [] E0 (tCons (tVar 0) (tCons (tVar 1) (tCons (tVar 2) tNil)))) (gName 3))
  (tRet (tOp (rI0 fun i j => .int (i + j)) (tCB rAbs (tCons (tOp (rI0 fun i j => .int (i - j)) (tVar 2) (tVar 1)) tNil)) (tCB (rMax K) (tCons (tLc (iList K (tVar 3)) (gName 4) tYes (tCall (sp_least_steps K) [] E0 (tCons (tVar 4) (tCons (tVar 2) tNil))) [4]) tNil)))))
theorem pure_steps_by {K : PySem.W.Frag} {vs : List V} {H : Hp} {Q : VK} {E : XK} (h : sp_steps_by K vs H Q E) : t_steps_by K { nx := fun _ H' => Q .non H', rt := Q } (start N_steps_by vs) H := by
  obtain ⟨s, a, b, p, q', rfl, hs, hab, hne, q⟩ := h
  refine ⟨_, rfl, _, rfl, _, rfl, s, a, b, p, q', rfl, hs, fun C H1 us nC e1 hC hps => ?_⟩
  refine ⟨_, rfl, _, rfl, q', p, rfl, rfl, _, rfl, ?_⟩
  obtain ⟨zs, z1, z2, z3⟩ := hps.zips
  have hpl := parts_len a b p q'
  have hzl : zs.length ≤ 3 := by
    rw [← z2, List.length_map] at hpl
    exact hpl
  have hC' : SqL K H1 C (zs.map fun z => V.ref z.1) := by
    have e : (zs.map fun z => V.ref z.1) = us.map V.ref := by
      rw [← z1, List.map_map]
      rfl
    rw [e]
    exact SqL.of hC
  have hc : Evl.EvL (tLc (iList K (tVar 3)) (gName 4) tYes (tCall (sp_least_steps K) [] E0 (tCons (tVar 4) (tCons (tVar 2) tNil))) [4]) [some (.ref s), some (.int p), some (.int q'), some (.ref C), none] H1 (zs.map fun z => V.int (Stp z.2.1 z.2.2 q')) := by
    refine el_mapG (0, 0, 0) (fun z : Addr × Int × Int => V.ref z.1) (K := K) (ns := zs) (fun z => V.int (Stp z.2.1 z.2.2 q')) (Evl.ev_var rfl) hC' (by omega) (fun _ => rfl) (fun z H2 e2 hz => ?_)
    intro H3 e3 Q3 q3
    exact ⟨_, rfl, _, rfl, z.1, z.2.1, z.2.2, q', rfl, (e2.trans e3) _ _ (z3 z hz), q3 H3 (Ex.refl H3)⟩
  dsimp only [tCB, tCons]
  refine hc H1 (Ex.refl H1) _ fun D H2 nD e2 hD => ?_
  have ens : (zs.map fun z => V.int (Stp z.2.1 z.2.2 q')) = ((partsOf a b p q').map fun z => Stp z.1 z.2 q').map V.int := by
    rw [← z2, List.map_map, List.map_map]
    rfl
  rw [ens] at hD
  refine ⟨D, _, rfl, SqL.of hD, ?_, fun m hm hmax => ⟨_, _, rfl, rfl, ?_⟩⟩
  · rw [List.length_map]
    obtain ⟨z, hz, _⟩ := Stp_low (q := q') hab hne
    exact List.length_pos_of_mem hz
  · refine q H2 m (e1.trans e2) ?_ fun z hz => hmax _ (List.mem_map.mpr ⟨z, hz, rfl⟩)
    obtain ⟨z, hz, rfl⟩ := List.mem_map.mp hm
    exact ⟨z, hz, rfl⟩
theorem len_steps_by {K : PySem.W.Frag} {vs : List V} {H : Hp} {Q : VK} {E : XK} (h : sp_steps_by K vs H Q E) : vs.length = 3 := by
  obtain ⟨s, a, b, p, q', rfl, _⟩ := h
  rfl
def sp_steps_from (K : PySem.W.Frag) : Sp := fun vs H Q _ => ∃ (L : Int) (s : Addr) (a b p : Int), vs = [.int L, .ref s, .int p] ∧ L ≤ 16 ∧ H s = some (.tup [.int a, .int b]) ∧ 1 ≤ a ∧ a ≤ b ∧ b ≤ L ∧ 1 ≤ p ∧ p ≤ L ∧
  ∀ H' u n v, Ex H H' → Told true L a b p n v → H' u = some (.tup [.int (n : Nat), v]) → Q (.ref u) H'
abbrev N_steps_from : List Str := ["length", "stretch", "place", "least", "fit", "onward"]
def t_steps_from (K : PySem.W.Frag) : TS := (tSeq (tDrop (tCall (sp_check_going_length K) [] E0 (tCons (tVar 0) tNil)))
  (tSeq (tDrop (tCall (sp_check_stretch K) [] E0 (tCons (tVar 1) (tCons (tVar 0) tNil))))
  (tSeq (tDrop (tCall (sp_check_place K) [] E0 (tCons (tVar 2) (tCons (tVar 0) tNil))))
  (tSeq (tAsg (tCall (sp_least_steps K) [] E0 (tCons (tVar 1) (tCons (tVar 2) tNil))) (gName 3))
  (tSeq (tIfS (tTest (tOp rEq (tVar 3) (tC (.int 0)))) (tRet (tTup (tCons (tC (.int 0)) (tCons (tC .non) tNil)))) tNext)
  (tSeq (tAsg (tLc (iList K (tCall (sp_other_places K) [] E0 (tCons (tVar 0) (tCons (tVar 2) tNil)))) (gName 5) (tTest (tOp rEq (tCall (sp_steps_by K) [] E0 (tCons (tVar 1) (tCons (tVar 2) (tCons (tVar 5) tNil)))) (tVar 3))) (tVar 5) [5]) (gName 4))
  (tRet (tTup (tCons (tVar 3) (tCons (tOp (rIxL K) (tVar 4) (tC (.int 0))) tNil))))))))))
noncomputable def gdB (L : Int) (n : Nat) (a b p q : Int) : Bool := @decide (Good true L n a b p q) (Classical.propDecidable _)
theorem gdB_iff {L : Int} {n : Nat} {a b p q : Int} : gdB L n a b p q = true ↔ Good true L n a b p q := @decide_eq_true_iff _ (Classical.propDecidable _)
theorem filter_first {f : Int → Bool} : ∀ {l : List Int}, l.Pairwise (· < ·) → ∀ {q : Int} {r : List Int}, l.filter f = q :: r → q ∈ l ∧ f q = true ∧ ∀ x ∈ l, x < q → f x = false
  | [], _, _, _, h => by cases h
  | x :: l, hp, q, r, h => by
    by_cases hx : f x = true
    · rw [List.filter_cons_of_pos hx] at h
      have e : x = q := (List.cons.inj h).1
      subst e
      refine ⟨List.mem_cons_self, hx, fun y hy hlt => ?_⟩
      rcases List.mem_cons.mp hy with z | z
      · omega
      · have := (List.pairwise_cons.mp hp).1 y z
        omega
    · rw [List.filter_cons_of_neg hx] at h
      obtain ⟨i1, i2, i3⟩ := filter_first (List.pairwise_cons.mp hp).2 h
      refine ⟨List.mem_cons_of_mem _ i1, i2, fun y hy hlt => ?_⟩
      rcases List.mem_cons.mp hy with z | z
      · rw [z]
        exact Bool.eq_false_iff.mpr hx
      · exact i3 y z hlt
theorem pure_steps_from {K : PySem.W.Frag} {vs : List V} {H : Hp} {Q : VK} {E : XK} (h : sp_steps_from K vs H Q E) : t_steps_from K { nx := fun _ H' => Q .non H', rt := Q } (start N_steps_from vs) H := by
  obtain ⟨L, s, a, b, p, rfl, hL, hs, h1, h2, h3, h4, h5, q⟩ := h
  refine ⟨_, rfl, L, rfl, by omega, hL, ?_⟩
  refine ⟨_, rfl, _, rfl, s, L, a, b, rfl, hs, h1, h2, h3, ?_⟩
  refine ⟨_, rfl, _, rfl, p, L, rfl, h4, h5, ?_⟩
  refine ⟨_, rfl, _, rfl, s, a, b, p, rfl, hs, ?_⟩
  have hS := sx_least h1 h2 h3 h4 h5
  refine ⟨_, rfl, rfl, _, rfl, ite2 (fun e => ?_) (fun e => ?_)⟩
  · have e := V.int.inj (of_decide_eq_true e)
    have hab : a = b := by
      apply Classical.byContradiction
      intro z
      have := Stp_pos (a := a) (b := b) (p := p) (by omega)
      omega
    refine ⟨by show 2 ≤ sizeLine; decide, fun u nu => ?_⟩
    exact q _ u 0 .non (Ex.new nu) (.inl ⟨hab, rfl, rfl⟩) upd_same
  · have n0 : ¬ Stp a b p = 0 := fun z => e (decide_eq_true (congrArg V.int z))
    have hab : a < b := by
      have : a ≠ b := fun z => n0 (by
        unfold Stp
        rw [if_pos z])
      omega
    refine ⟨_, rfl, _, rfl, L, p, rfl, by omega, by omega, fun O H1 nO e1 hO => ?_⟩
    have hs1 := e1 _ _ hs
    refine ⟨O, rfl, ⟨_, SqL.of hO⟩, fun D nD => ?_⟩
    refine lc_list (K := K) (a := O) (xs := (others L p).map V.int) (fun j H' => Ex H1 H' ∧ H' D = some (.lst ((((others L p).take j).filter (gdB L (Stp a b p).toNat a b p)).map V.int)))
      ⟨Ex.new nD, upd_same⟩ (fun j H' _ hp => SqL.of (hp.1 _ _ hO)) (fun j x H2 hx hp => ?_) (fun H2 hp => ?_)
    · obtain ⟨e2, hD⟩ := hp
      obtain ⟨q', hq', rfl⟩ : ∃ q', (others L p)[j]? = some q' ∧ x = .int q' := by
        rw [List.getElem?_map] at hx
        cases hg : (others L p)[j]? with
        | none => rw [hg] at hx; cases hx
        | some u =>
          rw [hg] at hx
          exact ⟨u, rfl, (Option.some.inj hx).symm⟩
      have hjl : j < (others L p).length := (List.getElem?_eq_some_iff.mp hq').1
      have hol := others_len L p
      obtain ⟨hqq, hne⟩ := mem_others.mp (List.mem_of_getElem? hq')
      refine ⟨rfl, _, rfl, _, rfl, _, rfl, s, a, b, p, q', rfl, e2 _ _ hs1, hab, hne, fun H3 m e3 hm hmax => ?_⟩
      have hgood := good_steps h1 hab h3 hqq hne hm hmax
      have hD3 := e3 _ _ hD
      refine ⟨_, rfl, rfl, _, rfl, ite2 (fun ew => ?_) (fun ew => ?_)⟩
      · have hg : gdB L (Stp a b p).toNat a b p q' = true := gdB_iff.mpr (hgood.mpr (V.int.inj (of_decide_eq_true ew)))
        refine ⟨_, rfl, _, hD3, ?_, (e2.trans e3).mut nD, ?_⟩
        · rw [List.length_map]
          refine small1000 (Nat.le_trans (List.length_filter_le _ _) ?_)
          rw [List.length_take]
          omega
        · rw [upd_same, List.take_add_one, hq', List.filter_append, List.map_append]
          simp [hg]
      · have hg : ¬ gdB L (Stp a b p).toNat a b p q' = true := fun z => ew (decide_eq_true (congrArg V.int (hgood.mp (gdB_iff.mp z))))
        refine ⟨e2.trans e3, ?_⟩
        rw [hD3, List.take_add_one, hq', List.filter_append]
        simp [hg]
    · obtain ⟨e2, hD⟩ := hp
      rw [List.length_map, List.take_length] at hD
      obtain ⟨q', ⟨z1, z2⟩, zne, zg⟩ := (en_good hab).mp hS.1
      have hmem : q' ∈ (others L p).filter (gdB L (Stp a b p).toNat a b p) := List.mem_filter.mpr ⟨mem_others.mpr ⟨⟨z1, z2⟩, zne⟩, gdB_iff.mpr zg⟩
      cases hf : (others L p).filter (gdB L (Stp a b p).toNat a b p) with
      | nil =>
        rw [hf] at hmem
        cases hmem
      | cons q0 r =>
        rw [hf] at hD
        obtain ⟨f1, f2, f3⟩ := filter_first (others_up L p) hf
        obtain ⟨g1, g2⟩ := mem_others.mp f1
        refine ⟨_, rfl, _, rfl, D, _, 0, .int q0, rfl, rfl, SqL.of hD, at_of (j := 0) rfl rfl, by show 2 ≤ sizeLine; decide, fun u nu => ?_⟩
        have en : (((Stp a b p).toNat : Nat) : Int) = Stp a b p := by
          have := Stp_nonneg (p := p) h2
          omega
        refine q _ u (Stp a b p).toNat (.int q0) ((e1.trans e2).trans (Ex.new nu)) (.inr ⟨hab, hS, q0, rfl, g1, g2, gdB_iff.mp f2, fun r' r1 r2 r3 z => ?_⟩) (by rw [upd_same, en])
        have := f3 r' (mem_others.mpr ⟨⟨r1, by omega⟩, r3⟩) r2
        rw [gdB_iff.mpr z] at this
        cases this
theorem len_steps_from {K : PySem.W.Frag} {vs : List V} {H : Hp} {Q : VK} {E : XK} (h : sp_steps_from K vs H Q E) : vs.length = 3 := by
  obtain ⟨L, s, a, b, p, rfl, _⟩ := h
  rfl
def sp__law_cell_at (K : PySem.W.Frag) : Sp := fun vs H Q _ => ∃ (a : Addr) (ns : List Int) (k : Int), vs = [.ref a, .int k] ∧ SqL K H a (ns.map V.int) ∧ 0 ≤ k ∧ ∀ v : Int, Q (.int v) H
abbrev N__law_cell_at : List Str := ["script", "k"]
def t__law_cell_at (K : PySem.W.Frag) : TS := (tSeq (tIfS (tTest (tOp (rI0 fun i j => .bl (decide (i < j))) (tVar 1) (tCB (rLenQ K) (tCons (tVar 0) tNil)))) (tRet (tOp (rIxL K) (tVar 0) (tVar 1))) tNext)
  (tRet (tC (.int 0))))
theorem pure__law_cell_at {K : PySem.W.Frag} {vs : List V} {H : Hp} {Q : VK} {E : XK} (h : sp__law_cell_at K vs H Q E) : t__law_cell_at K { nx := fun _ H' => Q .non H', rt := Q } (start N__law_cell_at vs) H := by
  obtain ⟨a, ns, k, rfl, hS, hk, q⟩ := h
  refine ⟨_, rfl, _, rfl, a, _, rfl, .inl hS, _, _, rfl, rfl, _, rfl, ite2 (fun e => ?_) (fun _ => ?_)⟩
  · have e1 := of_decide_eq_true e
    rw [List.length_map] at e1
    obtain ⟨j, rfl⟩ := Int.eq_ofNat_of_zero_le hk
    have hj : j < ns.length := by omega
    refine ⟨_, rfl, _, rfl, a, _, _, .int ns[j], rfl, rfl, hS, atI_nat ?_, q _⟩
    rw [List.getElem?_map, List.getElem?_eq_getElem hj]
    rfl
  · exact q 0
theorem len__law_cell_at {K : PySem.W.Frag} {vs : List V} {H : Hp} {Q : VK} {E : XK} (h : sp__law_cell_at K vs H Q E) : vs.length = 2 := by
  obtain ⟨a, ns, k, rfl, _⟩ := h
  rfl
def sp__law_draws (K : PySem.W.Frag) : Sp := fun vs H Q _ => ∃ c : Int, vs = [.int c, .int 400, .int 1000] ∧ ∀ p H' (ds : List Int), H p = none → Ex H H' → H' p = some (.lst (ds.map V.int)) → ds.length = 400 → Q (.ref p) H'
abbrev N__law_draws : List Str := ["cell", "many", "size", "found", "rest", "stirred", "k"]
def t__law_draws (K : PySem.W.Frag) : TS := (tSeq (tAsg (tLst tNil) (gName 3))
  (tSeq (tAsg (tOp (rI CMul fun i j => .int (i * j)) (tVar 0) (tCB rInt1 (tCons (tOp (rI0 fun i j => .bl (decide (j ≤ i))) (tVar 0) (tOp (rI CPow fun i j => .int (i ^ j.toNat)) (tC (.int 10)) (tC (.int 18)))) tNil))) (gName 4))
  (tSeq (tAsg (tOp (rI (fun _ j => 0 < j) fun i j => .int (i % j)) (tVar 0) (tC (.int 2305843009213693951))) (gName 5))
  (tSeq (tFor (iRng1 (tCons (tOp (rI0 fun i j => .int (i + j)) (tVar 1) (tC (.int 3))) tNil)) (gName 6) (tSeq (tAsg (tOp (rI (fun _ j => 0 < j) fun i j => .int (i % j)) (tOp (rI0 fun i j => .int (i + j)) (tOp (rI0 fun i j => .int (i + j)) (tOp (rI0 fun i j => .int (i + j)) (tOp (rI CMul fun i j => .int (i * j)) (tVar 5) (tVar 5)) (tOp (rI CMul fun i j => .int (i * j)) (tC (.int 48271)) (tVar 5))) (tVar 6)) (tC (.int 1))) (tC (.int 2305843009213693951))) (gName 5))
  (tIfS (tAnd (tTest (tOp (rI0 fun i j => .bl (decide (j < i))) (tVar 6) (tC (.int 2)))) (tTest (tOp (rI0 fun i j => .bl (decide (j < i))) (tVar 4) (tC (.int 0))))) (tSeq (tDrop (tBM K "list" rAppend (tVar 3) (tCons (tOp (rI (fun _ j => 0 < j) fun i j => .int (i % j)) (tVar 4) (tVar 2)) tNil)))
  (tAsg (tOp (rI CDiv fun i j => .int (i / j)) (tVar 4) (tVar 2)) (gName 4))) (tIfS (tTest (tOp (rI0 fun i j => .bl (decide (j < i))) (tVar 6) (tC (.int 2)))) (tDrop (tBM K "list" rAppend (tVar 3) (tCons (tOp (rI (fun _ j => 0 < j) fun i j => .int (i % j)) (tOp (rI CDiv fun i j => .int (i / j)) (tVar 5) (tC (.int 4096))) (tVar 2)) tNil))) tNext))))
  (tRet (tVar 3))))))
theorem pure__law_draws {K : PySem.W.Frag} {vs : List V} {H : Hp} {Q : VK} {E : XK} (h : sp__law_draws K vs H Q E) : t__law_draws K { nx := fun _ H' => Q .non H', rt := Q } (start N__law_draws vs) H := by
  obtain ⟨c, rfl, q⟩ := h
  refine ⟨Nat.zero_le _, fun f nf => ?_⟩
  refine ⟨_, rfl, _, rfl, 10, 18, rfl, rfl, ⟨by decide, by decide, by decide⟩, _, _, rfl, rfl, .inr ⟨_, rfl, ?_⟩⟩
  refine ⟨_, _, rfl, rfl, .inr ?_, ?_⟩
  · by_cases hc : decide ((10 : Int) ^ Int.toNat 18 ≤ c) = true
    · rw [if_pos hc]
      exact ⟨by decide, by decide⟩
    · rw [if_neg hc]
      exact ⟨by decide, by decide⟩
  refine ⟨_, rfl, _, _, rfl, rfl, (by decide : (0 : Int) < 2305843009213693951), ?_⟩
  refine ⟨_, rfl, _, _, rfl, rfl, 403, rfl, by decide, by decide, ?_⟩
  refine for_range (lo := 0) (n := (403 : Int).toNat) (fun i σ H' => ∃ (r s : Int) (ds : List Int) (kv : Option V), σ = [some (.int c), some (.int 400), some (.int 1000), some (.ref f), some (.int r), some (.int s), kv] ∧ 0 ≤ s ∧ s < 2305843009213693951 ∧ Ex H H' ∧ H' f = some (.lst (ds.map V.int)) ∧ ds.length = i - 3)
    ⟨_, _, [], none, rfl, Int.emod_nonneg _ (by decide), Int.emod_lt_of_pos _ (by decide), Ex.new nf, upd_same, rfl⟩ ?_ ?_
  · rintro i σ H' hi ⟨r, s, ds, kv, rfl, h0, h1, he, hf, hl⟩
    have hi2 : i < 403 := hi
    have bs : -(2 ^ 64) < s ∧ s < 2 ^ 64 := ⟨by omega, by omega⟩
    refine ⟨_, rfl, _, rfl, s, s, rfl, rfl, .inl bs, _, rfl, 48271, s, rfl, rfl, .inl ⟨by decide, by decide⟩, _, _, rfl, rfl, _, rfl, _, _, rfl, rfl, _, _, rfl, rfl, _, _, rfl, rfl, (by decide : (0 : Int) < 2305843009213693951), ?_⟩
    have s0 : 0 ≤ (s * s + 48271 * s + (0 + (i : Int)) + 1) % 2305843009213693951 := Int.emod_nonneg _ (by decide)
    have s1 : (s * s + 48271 * s + (0 + (i : Int)) + 1) % 2305843009213693951 < 2305843009213693951 := Int.emod_lt_of_pos _ (by decide)
    have hsz : (ds.map V.int).length < sizeLine := by
      rw [List.length_map]
      exact small1000 (by omega)
    refine ⟨_, rfl, _, _, rfl, rfl, _, rfl, ite2 (fun e => ?_) (fun e => ?_)⟩
    · have e1 : (2 : Int) < 0 + (i : Int) := of_decide_eq_true e
      refine ⟨_, rfl, _, _, rfl, rfl, _, rfl, ite2 (fun e2 => ?_) (fun e2 => ?_)⟩
      · refine ⟨_, rfl, .inl ⟨rfl, _, SqL.of hf⟩, _, rfl, _, rfl, _, _, rfl, rfl, (by decide : (0 : Int) < 1000), f, _, _, rfl, rfl, hf, hsz, ?_⟩
        refine ⟨_, rfl, _, rfl, _, _, rfl, rfl, ⟨by decide, by decide⟩, ?_⟩
        refine ⟨_, _, ds ++ [r % 1000], _, rfl, s0, s1, he.mut nf, ?_, ?_⟩
        · rw [upd_same, List.map_append]
          rfl
        · rw [List.length_append, hl]
          show i - 3 + 1 = i + 1 - 3
          omega
      · refine ⟨_, rfl, _, _, rfl, rfl, _, rfl, ite2 (fun e3 => ?_) (fun e3 => absurd e e3)⟩
        refine ⟨_, rfl, .inl ⟨rfl, _, SqL.of hf⟩, _, rfl, _, _, rfl, rfl, ⟨by decide, by decide⟩, _, rfl, _, _, rfl, rfl, (by decide : (0 : Int) < 1000), f, _, _, rfl, rfl, hf, hsz, ?_⟩
        refine ⟨_, _, ds ++ [(s * s + 48271 * s + (0 + (i : Int)) + 1) % 2305843009213693951 / 4096 % 1000], _, rfl, s0, s1, he.mut nf, ?_, ?_⟩
        · rw [upd_same, List.map_append]
          rfl
        · rw [List.length_append, hl]
          show i - 3 + 1 = i + 1 - 3
          omega
    · have e1 : ¬ (2 : Int) < 0 + (i : Int) := fun z => e (decide_eq_true z)
      dsimp only
      rw [if_neg Bool.false_ne_true]
      refine ⟨_, rfl, _, _, rfl, rfl, _, rfl, ite2 (fun e3 => absurd e3 e) (fun e3 => ?_)⟩
      refine ⟨r, _, ds, _, rfl, s0, s1, he, hf, ?_⟩
      omega
  · rintro σ H' ⟨r, s, ds, kv, rfl, h0, h1, he, hf, hl⟩
    exact ⟨_, rfl, q f H' ds nf he hf (hl.trans rfl)⟩
theorem len__law_draws {K : PySem.W.Frag} {vs : List V} {H : Hp} {Q : VK} {E : XK} (h : sp__law_draws K vs H Q E) : vs.length = 3 := by
  obtain ⟨c, rfl, _⟩ := h
  rfl
def sp__law_bag (K : PySem.W.Frag) : Sp := fun vs H Q _ => ∃ (a : Addr) (ns : List Int) (k : Int), vs = [.ref a, .int k] ∧ SqL K H a (ns.map V.int) ∧ 0 ≤ k ∧ ∀ p H', H p = none → Ex H H' → Bag1 H' p → Q (.ref p) H'
abbrev N__law_bag : List Str := ["script", "k"]
def t__law_bag (K : PySem.W.Frag) : TS := (tRet (tLst (tCons (tCall (sp__law_draws K) [] E0 (tCons (tCall (sp__law_cell_at K) [] E0 (tCons (tVar 0) (tCons (tVar 1) tNil))) (tCons (tC (.int 400)) (tCons (tC (.int 1000)) tNil)))) (tCons (tC (.int 0)) tNil))))
theorem pure__law_bag {K : PySem.W.Frag} {vs : List V} {H : Hp} {Q : VK} {E : XK} (h : sp__law_bag K vs H Q E) : t__law_bag K { nx := fun _ H' => Q .non H', rt := Q } (start N__law_bag vs) H := by
  obtain ⟨a, ns, k, rfl, hS, hk, q⟩ := h
  refine ⟨_, rfl, _, rfl, a, ns, k, rfl, hS, hk, fun v => ?_⟩
  refine ⟨v, rfl, fun d H1 ds nd e1 hd hl => ?_⟩
  refine ⟨by show 2 ≤ sizeLine; decide, fun p np => ?_⟩
  refine q p _ (fresh_back e1 np) (e1.trans (Ex.new np)) ⟨d, 0, ds, upd_same, ?_, hl⟩
  rw [upd_ne (ne_of_none hd np)]
  exact hd
theorem len__law_bag {K : PySem.W.Frag} {vs : List V} {H : Hp} {Q : VK} {E : XK} (h : sp__law_bag K vs H Q E) : vs.length = 2 := by
  obtain ⟨a, ns, k, rfl, _⟩ := h
  rfl
def sp__law_bags (K : PySem.W.Frag) : Sp := fun vs H Q _ => ∃ (a : Addr) (ns : List Int) (m : Int), vs = [.ref a, .int m] ∧ SqL K H a (ns.map V.int) ∧ 0 ≤ m ∧ m ≤ 63 ∧ ∀ p H' (bs : List Addr), H p = none → Ex H H' → H' p = some (.lst (bs.map V.ref)) → Bags bs H' → (∀ b ∈ bs, H b = none) → Q (.ref p) H'
abbrev N__law_bags : List Str := ["script", "limit", "k"]
def t__law_bags (K : PySem.W.Frag) : TS := (tRet (tLc (iRng1 (tCons (tCB rMax2 (tCons (tC (.int 1)) (tCons (tCB rMin2 (tCons (tVar 1) (tCons (tCB (rLenQ K) (tCons (tVar 0) tNil)) tNil))) tNil))) tNil)) (gName 2) tYes (tCall (sp__law_bag K) [] E0 (tCons (tVar 0) (tCons (tVar 2) tNil))) [2]))
theorem pure__law_bags {K : PySem.W.Frag} {vs : List V} {H : Hp} {Q : VK} {E : XK} (h : sp__law_bags K vs H Q E) : t__law_bags K { nx := fun _ H' => Q .non H', rt := Q } (start N__law_bags vs) H := by
  obtain ⟨a, ns, m, rfl, hS, h0, h1, q⟩ := h
  refine ⟨_, rfl, _, rfl, a, _, rfl, .inl hS, m, _, rfl, 1, _, rfl, _, rfl, ?_, ?_, fun D hD => ?_⟩
  · split <;> split <;> omega
  · split <;> split <;> omega
  generalize hn : (if (if ((List.map V.int ns).length : Int) < m then ((List.map V.int ns).length : Int) else m) > 1 then (if ((List.map V.int ns).length : Int) < m then ((List.map V.int ns).length : Int) else m) else 1) = n
  have n63 : n ≤ 63 := by
    rw [← hn]
    split <;> split <;> omega
  have hDl : ∀ {H' : Hp} {b : Addr} {bs : List Addr}, Bag1 H' b → H' D = some (.lst (bs.map V.ref)) → b ≠ D := fun {H' b bs} ⟨d, c, ds, h1, _⟩ h2 e => by
    subst e
    rw [h1] at h2
    have e2 := HO.lst.inj (Option.some.inj h2)
    match bs, e2 with
    | [_, _], e2 => simp at e2
  refine lc_range (lo := 0) (n := n.toNat) (fun i H' => ∃ bs : List Addr, bs.length = i ∧ Ex H H' ∧ H' D = some (.lst (bs.map V.ref)) ∧ Bags bs H' ∧ ∀ b ∈ bs, H b = none)
    ⟨[], rfl, Ex.new hD, upd_same, fun _ hb => (nomatch hb), fun _ hb => (nomatch hb)⟩ (fun i H' hi p => ?_) (fun H' p => ?_)
  · obtain ⟨bs, hl, he, hd, hb, hf⟩ := p
    refine ⟨rfl, ?_⟩
    dsimp only [tYes]
    rw [if_pos rfl]
    refine ⟨_, rfl, _, rfl, a, ns, _, rfl, ex_l he hS, by omega, fun b H2 nb e2 hB => ?_⟩
    have nbD : b ≠ D := hDl hB (e2 _ _ hd)
    refine ⟨_, e2 _ _ hd, ?_, bs ++ [b], ?_, (he.trans e2).mut hD, ?_, ?_, ?_⟩
    · rw [List.length_map, hl]
      exact small1000 (by omega)
    · rw [List.length_append, hl]
      rfl
    · rw [upd_same, List.map_append]
      rfl
    · have hB2 : Bags (bs ++ [b]) H2 := fun x hx => by
        rcases List.mem_append.mp hx with z | z
        · exact (hb x z).ex e2
        · rw [List.mem_singleton.mp z]
          exact hB
      refine hB2.mut (fun z => ?_) (fun d ds h2 h3 e => ?_)
      · exact hDl (hB2 D z) (e2 _ _ hd) rfl
      · subst e
        rw [e2 _ _ hd] at h2
        have e3 := HO.lst.inj (Option.some.inj h2)
        match bs, ds, e3, hl with
        | [], ds, e3, _ =>
          have e4 : ds = [] := by simpa using e3.symm
          rw [e4] at h3
          cases h3
        | _ :: _, _ :: _, e3, _ => simp at e3
        | _ :: _, [], e3, _ => simp at e3
    · intro x hx
      rcases List.mem_append.mp hx with z | z
      · exact hf x z
      · rw [List.mem_singleton.mp z]
        exact fresh_back he nb
  · obtain ⟨bs, hl, he, hd, hb, hf⟩ := p
    exact q D H' bs hD he hd hb hf
theorem len__law_bags {K : PySem.W.Frag} {vs : List V} {H : Hp} {Q : VK} {E : XK} (h : sp__law_bags K vs H Q E) : vs.length = 2 := by
  obtain ⟨a, ns, m, rfl, _⟩ := h
  rfl
def sp__law_take (K : PySem.W.Frag) : Sp := fun vs H Q _ => ∃ (bs : List Addr) (b : Addr) (m : Int), vs = [.ref b, .int m] ∧ b ∈ bs ∧ Bags bs H ∧ 0 < m ∧ ∀ r H', 0 ≤ r → r < m → Kp bs H H' → Bags bs H' → Q (.int r) H'
abbrev N__law_take : List Str := ["bag", "many"]
def t__law_take (K : PySem.W.Frag) : TS := (tSeq (tAsg (tOp (rI0 fun i j => .int (i + j)) (tOp (rIxL K) (tVar 0) (tC (.int 1))) (tC (.int 1))) (gSub (tVar 0) (tC (.int 1)) rSetL))
  (tRet (tOp (rI (fun _ j => 0 < j) fun i j => .int (i % j)) (tOp (rIxL K) (tOp (rIxL K) (tVar 0) (tC (.int 0))) (tOp (rI (fun _ j => 0 < j) fun i j => .int (i % j)) (tOp (rIxL K) (tVar 0) (tC (.int 1))) (tCB (rLenQ K) (tCons (tOp (rIxL K) (tVar 0) (tC (.int 0))) tNil)))) (tVar 1))))
theorem pure__law_take {K : PySem.W.Frag} {vs : List V} {H : Hp} {Q : VK} {E : XK} (h : sp__law_take K vs H Q E) : t__law_take K { nx := fun _ H' => Q .non H', rt := Q } (start N__law_take vs) H := by
  obtain ⟨bs, b, m, rfl, hb, hB, hm, q⟩ := h
  obtain ⟨d, c, ds, h1, h2, h3⟩ := hB b hb
  have ndb : d ≠ b := fun e => by
    rw [e, h1] at h2
    have e2 := congrArg List.length (HO.lst.inj (Option.some.inj h2))
    rw [List.length_map, h3] at e2
    cases e2
  refine ⟨_, rfl, b, _, 1, .int c, rfl, rfl, SqL.of h1, rfl, c, 1, rfl, rfl, _, rfl, b, _, 1, 1, rfl, rfl, h1, rfl, ?_⟩
  have g1 : upd H b (.lst [.ref d, .int (c + 1)]) b = some (.lst [.ref d, .int (c + 1)]) := upd_same
  have g2 : upd H b (.lst [.ref d, .int (c + 1)]) d = some (.lst (ds.map V.int)) := by
    rw [upd_ne ndb]
    exact h2
  have hj0 : 0 ≤ (c + 1) % 400 := Int.emod_nonneg _ (by decide)
  have hj1 : (c + 1) % 400 < 400 := Int.emod_lt_of_pos _ (by decide)
  obtain ⟨j, ej⟩ := Int.eq_ofNat_of_zero_le hj0
  have hj : j < ds.length := by omega
  have el : ((ds.map V.int).length : Int) = 400 := by
    rw [List.length_map, h3]
    rfl
  refine ⟨_, rfl, b, _, 0, .ref d, rfl, rfl, SqL.of g1, rfl, _, rfl, b, _, 1, .int (c + 1), rfl, rfl, SqL.of g1, rfl, _, rfl, b, _, 0, .ref d, rfl, rfl, SqL.of g1, rfl, d, _, rfl, .inl (SqL.of g2), c + 1, _, rfl, rfl, ?_, ?_⟩
  · show (0 : Int) < ((ds.map V.int).length : Int)
    rw [el]
    decide
  refine ⟨d, ds.map V.int, _, .int ds[j], rfl, rfl, SqL.of g2, ?_, _, rfl, ds[j], m, rfl, rfl, hm, ?_⟩
  · rw [el, ej]
    refine atI_nat ?_
    rw [List.getElem?_map, List.getElem?_eq_getElem hj]
    rfl
  · refine q _ _ (Int.emod_nonneg _ (by omega)) (Int.emod_lt_of_pos _ hm) (fun a o na ha => ?_) (fun b' hb' => ?_)
    · have nab : a ≠ b := fun e => na (e ▸ hb)
      rw [upd_ne nab]
      exact ha
    · by_cases e : b' = b
      · subst e
        exact ⟨d, c + 1, ds, upd_same, g2, h3⟩
      · obtain ⟨d', c', ds', k1, k2, k3⟩ := hB b' hb'
        have nd' : d' ≠ b := fun z => by
          rw [z, h1] at k2
          have e2 := congrArg List.length (HO.lst.inj (Option.some.inj k2))
          rw [List.length_map, k3] at e2
          cases e2
        exact ⟨d', c', ds', by rw [upd_ne e]; exact k1, by rw [upd_ne nd']; exact k2, k3⟩
theorem len__law_take {K : PySem.W.Frag} {vs : List V} {H : Hp} {Q : VK} {E : XK} (h : sp__law_take K vs H Q E) : vs.length = 2 := by
  obtain ⟨bs, b, m, rfl, _⟩ := h
  rfl
def sp__law_word (K : PySem.W.Frag) : Sp := fun vs H Q _ => ∃ f n : Int, vs = [.int f, .int n] ∧ Q (vW (word f n)) H
abbrev N__law_word : List Str := ["far", "near"]
def t__law_word (K : PySem.W.Frag) : TS := (tSeq (tIfS (tTest (tOp (rI0 fun i j => .bl (decide (i < j))) (tVar 1) (tVar 0))) (tRet (tC (.str (Str.ofString "warm")))) tNext)
  (tRet (tIf (tTest (tOp (rI0 fun i j => .bl (decide (j < i))) (tVar 1) (tVar 0))) (tC (.str (Str.ofString "cold"))) (tC (.str (Str.ofString "same"))))))
theorem pure__law_word {K : PySem.W.Frag} {vs : List V} {H : Hp} {Q : VK} {E : XK} (h : sp__law_word K vs H Q E) : t__law_word K { nx := fun _ H' => Q .non H', rt := Q } (start N__law_word vs) H := by
  obtain ⟨f, n, rfl, q⟩ := h
  refine ⟨_, rfl, _, rfl, n, f, rfl, rfl, _, rfl, ite2 (fun h1 => ?_) (fun h1 => ?_)⟩
  · have e1 : word f n = .warm := if_pos (of_decide_eq_true h1)
    rw [e1] at q
    exact q
  · have n1 : ¬ n < f := fun z => h1 (decide_eq_true z)
    refine ⟨_, rfl, _, rfl, n, f, rfl, rfl, _, rfl, ite2 (fun h2 => ?_) (fun h2 => ?_)⟩
    · have e2 : word f n = .cold := (if_neg n1).trans (if_pos (of_decide_eq_true h2))
      rw [e2] at q
      exact q
    · have n2 : ¬ f < n := fun z => h2 (decide_eq_true z)
      have e3 : word f n = .same := (if_neg n1).trans (if_neg n2)
      rw [e3] at q
      exact q
theorem len__law_word {K : PySem.W.Frag} {vs : List V} {H : Hp} {Q : VK} {E : XK} (h : sp__law_word K vs H Q E) : vs.length = 2 := by
  obtain ⟨f, n, rfl, _⟩ := h
  rfl
def sp__law_cuts (K : PySem.W.Frag) : Sp := fun vs H Q _ => ∃ (s : Addr) (a b p q : Int), vs = [.ref s, .int p, .int q] ∧ H s = some (.tup [.int a, .int b]) ∧ 1 ≤ a ∧ a ≤ b ∧ b ≤ 60 ∧
  ∀ H' D us ps, H D = none → Ex H H' → H' D = some (.lst (us.map V.ref)) → AtPairs H' us ps → (∀ c d, (c, d) ∈ ps ↔ ∃ w, IsCut a b p q w c d) → ps ≠ [] → ps.length ≤ 100 → Q (.ref D) H'
abbrev N__law_cuts : List Str := ["stretch", "place", "later", "found", "thing", "word", "some"]
def t__law_cuts (K : PySem.W.Frag) : TS := (tSeq (tAsg tDNewK (gName 3))
  (tSeq (tFor (iRng2 (tCons (tOp (rIxT K) (tVar 0) (tC (.int 0))) (tCons (tOp (rI0 fun i j => .int (i + j)) (tOp (rIxT K) (tVar 0) (tC (.int 1))) (tC (.int 1))) tNil))) (gName 4) (tSeq (tAsg (tCall (sp__law_word K) [] E0 (tCons (tCB rAbs (tCons (tOp (rI0 fun i j => .int (i - j)) (tVar 4) (tVar 1)) tNil)) (tCons (tCB rAbs (tCons (tOp (rI0 fun i j => .int (i - j)) (tVar 4) (tVar 2)) tNil)) tNil))) (gName 5))
  (sDPut (tVar 3) (tVar 5) (tOp rCat (tDGet2 (tVar 3) (tVar 5) (tLst tNil)) (tLst (tCons (tVar 4) tNil))))))
  (tRet (tLockE (tLc (iVals (tVar 3)) (gName 6) tYes (tTup (tCons (tOp (rIxL K) (tVar 6) (tC (.int 0))) (tCons (tOp (rIxL K) (tVar 6) (tUn (rU fun i => .int (-i)) (tC (.int 1)))) tNil))) [6])))))
def entV (es : List (Wo × Addr)) : List (Key × V) := es.map fun e => (Sum.inr e.1.str, V.ref e.2)
theorem key_w (x y : Wo) : ((Sum.inr x.str : Key) = Sum.inr y.str) ↔ x = y := ⟨fun h => Wo.str_inj (Sum.inr.inj h), fun h => by rw [h]⟩
theorem val_ent (w : Wo) : ∀ es : List (Wo × Addr), valV (entV es) (Sum.inr w.str) = (es.find? fun e => decide (e.1 = w)).map fun e => V.ref e.2
  | [] => rfl
  | e :: es => by
    by_cases h : e.1 = w
    · rw [show entV (e :: es) = (Sum.inr e.1.str, V.ref e.2) :: entV es from rfl, valV_pos ((key_w _ _).mpr h), List.find?_cons_of_pos (by simp [h])]
      rfl
    · rw [show entV (e :: es) = (Sum.inr e.1.str, V.ref e.2) :: entV es from rfl, valV_neg (fun z => h ((key_w _ _).mp z)), val_ent w es, List.find?_cons_of_neg (by simp [h])]
def upE (es : List (Wo × Addr)) (w : Wo) (c : Addr) : List (Wo × Addr) := if w ∈ es.map (·.1) then es.map (fun e => if e.1 = w then (e.1, c) else e) else es ++ [(w, c)]
theorem put_ent (es : List (Wo × Addr)) (w : Wo) (c : Addr) : putK (entV es) (Sum.inr w.str) (.ref c) = entV (upE es w c) := by
  have ha : ((entV es).any fun kv => decide (kv.1 = (Sum.inr w.str : Key))) = true ↔ w ∈ es.map (·.1) := by
    rw [List.any_eq_true]
    unfold entV
    constructor
    · rintro ⟨x, hx, hd⟩
      obtain ⟨e, he, rfl⟩ := List.mem_map.mp hx
      exact List.mem_map.mpr ⟨e, he, (key_w _ _).mp (of_decide_eq_true hd)⟩
    · intro h
      obtain ⟨e, he, rfl⟩ := List.mem_map.mp h
      exact ⟨_, List.mem_map.mpr ⟨e, he, rfl⟩, decide_eq_true rfl⟩
  unfold putK upE
  by_cases h : w ∈ es.map (·.1)
  · rw [if_pos (ha.mpr h), if_pos h]
    unfold entV
    rw [List.map_map, List.map_map]
    apply List.map_congr_left
    intro e _
    show (if (Sum.inr e.1.str : Key) = Sum.inr w.str then ((Sum.inr e.1.str : Key), V.ref c) else (Sum.inr e.1.str, V.ref e.2)) = _
    by_cases z : e.1 = w
    · rw [if_pos ((key_w _ _).mpr z)]
      show _ = ((Sum.inr (if e.1 = w then (e.1, c) else e).1.str : Key), V.ref (if e.1 = w then (e.1, c) else e).2)
      rw [if_pos z]
    · rw [if_neg (fun t => z ((key_w _ _).mp t))]
      show _ = ((Sum.inr (if e.1 = w then (e.1, c) else e).1.str : Key), V.ref (if e.1 = w then (e.1, c) else e).2)
      rw [if_neg z]
  · rw [if_neg (fun z => h (ha.mp z)), if_neg h]
    unfold entV
    rw [List.map_append]
    rfl
theorem upE_len (es : List (Wo × Addr)) (w : Wo) (c : Addr) : (upE es w c).length ≤ es.length + 1 := by
  unfold upE
  split
  · rw [List.length_map]
    omega
  · rw [List.length_append]
    exact Nat.le_refl _
structure CutInv (a p q e : Int) (es : List (Wo × Addr)) (H : Hp) : Prop where
  at_ : ∀ x ∈ es, H x.2 = some (.lst ((cutL a (e - 1) p q x.1).map V.int))
  all_ : ∀ w, w ∈ es.map (·.1) ↔ ∃ t, a ≤ t ∧ t < e ∧ mv t p q = w
theorem cutL_more {a e p q : Int} {w : Wo} (h : a ≤ e) : cutL a e p q w = cutL a (e - 1) p q w ++ if mv e p q = w then [e] else [] := by
  unfold cutL
  rw [show e - 1 + 1 = e by omega, rng_snoc h, List.filter_append]
  congr 1
  by_cases z : mv e p q = w
  · rw [if_pos z]
    exact List.filter_cons_of_pos (decide_eq_true z)
  · rw [if_neg z]
    exact List.filter_cons_of_neg (by rw [decide_eq_false z]; decide)
theorem CutInv.step {a p q e : Int} {es : List (Wo × Addr)} {H H' : Hp} {c : Addr} (h : CutInv a p q e es H) (hae : a ≤ e) (hx : ∀ x ∈ es, ∀ o, H x.2 = some o → H' x.2 = some o) (hc : H' c = some (.lst ((cutL a e p q (mv e p q)).map V.int))) : CutInv a p q (e + 1) (upE es (mv e p q) c) H' := by
  have other : ∀ x ∈ es, x.1 ≠ mv e p q → H' x.2 = some (.lst ((cutL a (e + 1 - 1) p q x.1).map V.int)) := fun x hx' hne => by
    rw [show e + 1 - 1 = e by omega, cutL_more hae, if_neg (fun z => hne z.symm), List.append_nil]
    exact hx x hx' _ (h.at_ x hx')
  have hc' : H' c = some (.lst ((cutL a (e + 1 - 1) p q (mv e p q)).map V.int)) := by
    rw [show e + 1 - 1 = e by omega]
    exact hc
  constructor
  · intro x hm
    unfold upE at hm
    split at hm
    · obtain ⟨y, hy, rfl⟩ := List.mem_map.mp hm
      by_cases z : y.1 = mv e p q
      · rw [if_pos z, z]
        exact hc'
      · rw [if_neg z]
        exact other y hy z
    · rename_i hno
      rcases List.mem_append.mp hm with hm | hm
      · exact other x hm (fun z => hno (z ▸ List.mem_map.mpr ⟨x, hm, rfl⟩))
      · rw [List.mem_singleton.mp hm]
        exact hc'
  · intro w
    have hkeys : w ∈ (upE es (mv e p q) c).map (·.1) ↔ w ∈ es.map (·.1) ∨ w = mv e p q := by
      unfold upE
      split
      · rename_i hin
        rw [List.map_map]
        have : (es.map ((fun x => x.1) ∘ fun x => if x.1 = mv e p q then (x.1, c) else x)) = es.map (·.1) := by
          apply List.map_congr_left
          intro x _
          show (if x.1 = mv e p q then (x.1, c) else x).1 = x.1
          split <;> rfl
        rw [this]
        constructor
        · exact .inl
        · rintro (z | z)
          · exact z
          · rw [z]
            exact hin
      · rw [List.map_append, List.mem_append]
        constructor
        · rintro (z | z)
          · exact .inl z
          · exact .inr (List.mem_singleton.mp z)
        · rintro (z | z)
          · exact .inl z
          · exact .inr (by rw [z]; exact List.mem_cons_self)
    rw [hkeys, h.all_]
    constructor
    · rintro (⟨t, h1, h2, h3⟩ | z)
      · exact ⟨t, h1, by omega, h3⟩
      · exact ⟨e, hae, by omega, z.symm⟩
    · rintro ⟨t, h1, h2, h3⟩
      by_cases z : t = e
      · rw [z] at h3
        exact .inr h3.symm
      · exact .inl ⟨t, h1, by omega, h3⟩
def endsOf (a b p q : Int) (w : Wo) : Int × Int := ((cutL a b p q w).head?.getD 0, (cutL a b p q w).getLast?.getD 0)
theorem ends_cut {a b p q c d : Int} {w : Wo} (h : IsCut a b p q w c d) : endsOf a b p q w = (c, d) := by
  obtain ⟨h1, h2⟩ := cut_ends.mp h
  unfold endsOf
  rw [h1, h2]
  rfl
theorem CutInv.cut {a p q b : Int} {es : List (Wo × Addr)} {H : Hp} (h : CutInv a p q (b + 1) es H) {x : Wo × Addr} (hx : x ∈ es) : IsCut a b p q x.1 (endsOf a b p q x.1).1 (endsOf a b p q x.1).2 := by
  obtain ⟨t, h1, h2, h3⟩ := (h.all_ x.1).mp (List.mem_map.mpr ⟨x, hx, rfl⟩)
  obtain ⟨c, d, hc, _, _⟩ := cut_of h1 (by omega : t ≤ b) h3
  rw [ends_cut hc]
  exact hc
theorem pure__law_cuts {K : PySem.W.Frag} {vs : List V} {H : Hp} {Q : VK} {E : XK} (h : sp__law_cuts K vs H Q E) : t__law_cuts K { nx := fun _ H' => Q .non H', rt := Q } (start N__law_cuts vs) H := by
  obtain ⟨s, a, b, p, q', rfl, hs, h1, h2, h3, q⟩ := h
  intro d nd
  have e1 : Ex H (upd H d (.dK [])) := Ex.new nd
  have hs1 := e1 _ _ hs
  refine ⟨_, rfl, s, _, 0, .int a, rfl, rfl, SqT.of hs1, rfl, _, rfl, s, _, 1, .int b, rfl, rfl, SqT.of hs1, rfl, b, 1, rfl, rfl, a, b + 1, rfl, ⟨by omega, by omega, by omega, by omega⟩, ?_⟩
  refine for_range (lo := a) (n := (b + 1 - a).toNat) (fun i σ H' => ∃ (x4 x5 x6 : Option V) (es : List (Wo × Addr)), σ = [some (.ref s), some (.int p), some (.int q'), some (.ref d), x4, x5, x6] ∧ Ex H H' ∧ H' d = some (.dK (entV es)) ∧ CutInv a p q' (a + (i : Int)) es H' ∧ es.length ≤ i)
    ⟨none, none, none, [], rfl, e1, upd_same, ⟨fun x z => (nomatch z), fun w => ⟨fun z => (nomatch z), fun ⟨t, z1, z2, _⟩ => (by omega)⟩⟩, Nat.le_refl _⟩ ?_ ?_
  · rintro i σ H2 hi ⟨x4, x5, x6, es, rfl, e2, hd, hinv, hel⟩
    refine ⟨_, rfl, _, rfl, _, p, rfl, rfl, _, rfl, _, rfl, _, rfl, _, q', rfl, rfl, _, rfl, _, _, rfl, ?_⟩
    refine ⟨_, rfl, d, rfl, .inl ⟨_, .inl hd⟩, _, rfl, Nat.zero_le _, fun z nz => ?_⟩
    have e3 : Ex H2 (upd H2 z (.lst [])) := Ex.new nz
    have hd3 := e3 _ _ hd
    have hz3 : (upd H2 z (.lst [])) z = some (.lst []) := upd_same
    have hinv3 : ∀ x ∈ es, (upd H2 z (.lst [])) x.2 = some (.lst ((cutL a (a + (i : Int) - 1) p q' x.1).map V.int)) := fun x hx => e3 _ _ (hinv.at_ x hx)
    generalize upd H2 z (.lst []) = H3 at e3 hd3 hz3 hinv3 ⊢
    refine ⟨_, DGet.k (k := Sum.inr (mv (a + (i : Int)) p q').str) hd3, ?_⟩
    obtain ⟨r, hr, hrl⟩ : ∃ r, (valV (entV es) (Sum.inr (mv (a + (i : Int)) p q').str)).getD (.ref z) = .ref r ∧ H3 r = some (.lst ((cutL a (a + (i : Int) - 1) p q' (mv (a + (i : Int)) p q')).map V.int)) := by
      rw [val_ent]
      cases hf : es.find? (fun e => decide (e.1 = mv (a + (i : Int)) p q')) with
      | none =>
        refine ⟨z, rfl, ?_⟩
        have hno : ∀ x ∈ es, x.1 ≠ mv (a + (i : Int)) p q' := fun x hx => by
          have := List.find?_eq_none.mp hf x hx
          simpa using this
        have : cutL a (a + (i : Int) - 1) p q' (mv (a + (i : Int)) p q') = [] := by
          refine List.eq_nil_iff_forall_not_mem.mpr fun t ht => ?_
          obtain ⟨t1, t2, t3⟩ := mem_cutL.mp ht
          obtain ⟨x, hx, hxe⟩ := List.mem_map.mp ((hinv.all_ _).mpr ⟨t, t1, by omega, t3⟩)
          exact hno x hx hxe
        rw [this]
        exact hz3
      | some x =>
        have hx := List.mem_of_find?_eq_some hf
        have he : x.1 = mv (a + (i : Int)) p q' := by simpa using List.find?_some hf
        refine ⟨x.2, rfl, ?_⟩
        rw [← he]
        exact hinv3 x hx
    rw [hr]
    refine ⟨_, rfl, by show 1 ≤ sizeLine; decide, fun g ng => ?_⟩
    have e4 : Ex H3 (upd H3 g (.lst [.int (a + (i : Int))])) := Ex.new ng
    refine ⟨r, g, _, _, rfl, rfl, e4 _ _ hrl, upd_same, ?_, fun c nc => ?_⟩
    · rw [List.length_map]
      refine Nat.le_of_lt (small1000 ?_)
      have : (cutL a (a + (i : Int) - 1) p q' (mv (a + (i : Int)) p q')).length ≤ (rng a (a + (i : Int) - 1 + 1)).length := List.length_filter_le _ _
      rw [rng_len] at this
      show _ + 1 ≤ 1000
      omega
    have e5 : Ex _ (upd (upd H3 g (.lst [.int (a + (i : Int))])) c (.lst ((cutL a (a + (i : Int) - 1) p q' (mv (a + (i : Int)) p q')).map V.int ++ [.int (a + (i : Int))]))) := Ex.new nc
    have hc5 : (upd (upd H3 g (.lst [.int (a + (i : Int))])) c (.lst ((cutL a (a + (i : Int) - 1) p q' (mv (a + (i : Int)) p q')).map V.int ++ [.int (a + (i : Int))]))) c = some (.lst ((cutL a (a + (i : Int)) p q' (mv (a + (i : Int)) p q')).map V.int)) := by
      rw [upd_same, cutL_more (e := a + (i : Int)) (by omega), if_pos rfl, List.map_append]
      rfl
    have e25 := (e3.trans e4).trans e5
    generalize upd (upd H3 g (.lst [.int (a + (i : Int))])) c (.lst ((cutL a (a + (i : Int) - 1) p q' (mv (a + (i : Int)) p q')).map V.int ++ [.int (a + (i : Int))])) = H5 at e25 hc5 ⊢
    have hd5 := e25 _ _ hd
    refine ⟨_, rfl, _, rfl, d, _, rfl, DPut.k (k := Sum.inr (mv (a + (i : Int)) p q').str) (v := .ref c) hd5 ?_, some (.int (a + (i : Int))), some (vW (mv (a + (i : Int)) p q')), x6, upE es (mv (a + (i : Int)) p q') c, rfl, (e2.trans e25).mut nd, ?_, ?_, ?_⟩
    · unfold entV
      rw [List.length_map]
      exact small1000 (by omega)
    · rw [upd_same, put_ent]
    · rw [show a + ((i + 1 : Nat) : Int) = a + (i : Int) + 1 by omega]
      refine hinv.step (by omega) (fun x hx o ho => ?_) ?_
      · have h5 := e25 _ _ ho
        have := hinv.at_ x hx
        rw [ho] at this
        cases this
        rw [upd_ne (ne_of h5 hd5 (by intro z; cases z))]
        exact h5
      · rw [upd_ne (ne_of hc5 hd5 (by intro z; cases z))]
        exact hc5
    · have := upE_len es (mv (a + (i : Int)) p q') c
      omega
  · rintro σ H2 ⟨x4, x5, x6, es, rfl, e2, hd, hinv, hel⟩
    rw [show a + (((b + 1 - a).toNat : Nat) : Int) = b + 1 by omega] at hinv
    refine ⟨d, .dK (entV es), hd, trivial, fun od => ?_⟩
    have hat3 : ∀ x ∈ es, (upd H2 d (.frz od (.dK (entV es)))) x.2 = some (.lst ((cutL a b p q' x.1).map V.int)) := fun x hx => by
      have h5 := hinv.at_ x hx
      rw [show b + 1 - 1 = b by omega] at h5
      rw [upd_ne (ne_of h5 hd (by intro z; cases z))]
      exact h5
    have e3 : Ex H (upd H2 d (.frz od (.dK (entV es)))) := e2.mut nd
    have hd3 : (upd H2 d (.frz od (.dK (entV es)))) d = some (.frz od (.dK (entV es))) := upd_same
    generalize upd H2 d (.frz od (.dK (entV es))) = H3 at hat3 e3 hd3 ⊢
    refine ⟨_, rfl, d, od, _, rfl, hd3, fun D hD => ?_⟩
    have hlenE : (entV es).length = es.length := by
      unfold entV
      rw [List.length_map]
    refine lc_it (walk_values (d := d) (o := od) (kvs := entV es)) (fun j H' => ∃ us : List Addr, Ex H3 H' ∧ H' D = some (.lst (us.map V.ref)) ∧ AtPairs H' us ((es.take j).map fun x => endsOf a b p q' x.1))
      ⟨[], Ex.new hD, upd_same, .nil⟩ (fun j H' _ ⟨us, k, _⟩ => k _ _ hd3) ?_ ?_
    · rintro j x H4 H4' hj ⟨us, e4, hD4, hat⟩ ⟨rfl, k, hk⟩
      have hj' : j < es.length := by omega
      have ex : x = .ref (es[j]).2 := by
        unfold entV at hk
        rw [List.getElem?_map, List.getElem?_eq_getElem hj'] at hk
        exact (Prod.mk.inj (Option.some.inj hk)).2.symm
      subst ex
      have hm : es[j] ∈ es := List.getElem_mem hj'
      have hl4 := e4 _ _ (hat3 _ hm)
      have hcut := hinv.cut hm
      have hcd := hcut.1
      have hl4' : H4' (es[j]).2 = some (.lst ((rng (endsOf a b p q' (es[j]).1).1 ((endsOf a b p q' (es[j]).1).2 + 1)).map V.int)) := by
        rw [hl4, hcut.list]
      have at0 : atI ((rng (endsOf a b p q' (es[j]).1).1 ((endsOf a b p q' (es[j]).1).2 + 1)).map V.int) 0 = some (.int (endsOf a b p q' (es[j]).1).1) := by
        rw [rng_cons (by omega)]
        exact at_of (j := 0) rfl rfl
      have at1 : atI ((rng (endsOf a b p q' (es[j]).1).1 ((endsOf a b p q' (es[j]).1).2 + 1)).map V.int) (-1) = some (.int (endsOf a b p q' (es[j]).1).2) := by
        rw [rng_snoc hcd, List.map_append]
        exact atI_last _ _
      refine ⟨rfl, ?_⟩
      dsimp only [tYes]
      rw [if_pos rfl]
      refine ⟨_, rfl, _, _, 0, _, rfl, rfl, SqL.of hl4', at0, _, rfl, 1, rfl, _, _, -1, _, rfl, rfl, SqL.of hl4', at1, by show 2 ≤ sizeLine; decide, fun T nT => ?_⟩
      have e5 : Ex H4' (upd H4' T (.tup [.int (endsOf a b p q' (es[j]).1).1, .int (endsOf a b p q' (es[j]).1).2])) := Ex.new nT
      have hD5 := e5 _ _ hD4
      refine ⟨_, hD5, ?_, us ++ [T], (e4.trans e5).mut hD, ?_, ?_⟩
      · rw [List.length_map, hat.len, List.length_map, List.length_take]
        exact small1000 (by omega)
      · rw [upd_same, List.map_append]
        rfl
      · rw [List.take_add_one, List.getElem?_eq_getElem hj', List.map_append]
        exact ((hat.ex e5).snoc upd_same).mut hD5
    · rintro H4 ⟨us, e4, hD4, hat⟩
      rw [hlenE, List.take_length] at hat
      have hd4 := e4 _ _ hd3
      refine ⟨hd4, ?_⟩
      have nDd : D ≠ d := ne_of hD4 hd4 (by intro z; cases z)
      refine q _ D us (es.map fun x => endsOf a b p q' x.1) (fresh_back e3 hD) ((e3.trans e4).mut nd) ?_ (hat.mutG fun xs z => ?_) (fun c d' => ?_) ?_ ?_
      · rw [upd_ne nDd]
        exact hD4
      · rw [hd4] at z
        cases z
      · constructor
        · intro hm
          obtain ⟨x, hx, e⟩ := List.mem_map.mp hm
          have := hinv.cut hx
          rw [e] at this
          exact ⟨x.1, this⟩
        · rintro ⟨w, hw⟩
          have hc := (hw.2 c).mp ⟨by omega, hw.1⟩
          obtain ⟨x, hx, hxe⟩ := List.mem_map.mp ((hinv.all_ w).mpr ⟨c, hc.1, by omega, hc.2.2⟩)
          refine List.mem_map.mpr ⟨x, hx, ?_⟩
          rw [hxe]
          exact ends_cut hw
      · intro z
        obtain ⟨x, hx, _⟩ := List.mem_map.mp ((hinv.all_ (mv a p q')).mpr ⟨a, by omega, by omega, rfl⟩)
        rw [List.map_eq_nil_iff.mp z] at hx
        cases hx
      · rw [List.length_map]
        omega
theorem len__law_cuts {K : PySem.W.Frag} {vs : List V} {H : Hp} {Q : VK} {E : XK} (h : sp__law_cuts K vs H Q E) : vs.length = 3 := by
  obtain ⟨s, a, b, p, q', rfl, _⟩ := h
  rfl
abbrev N__law_enough : List Str := ["known", "length", "stretch", "place", "spare", "steps", "spot", "later", "cost", "cuts"]
def t__law_enough (K : PySem.W.Frag) (P : Program) (w : World) (N : Nat) : TS := (tSeq (tIfS (tTest (tOp rEq (tOp (rIxT K) (tVar 2) (tC (.int 0))) (tOp (rIxT K) (tVar 2) (tC (.int 1))))) (tRet (tC (.bl true))) tNext)
  (tSeq (tAsg (tTup (tCons (tVar 2) (tCons (tVar 3) (tCons (tVar 4) tNil)))) (gName 6))
  (Evl.tCut (tIfS (tTest (tOp (rNotInN P w) (tVar 6) (tVar 0))) (tSeq (sNPut P w (tVar 0) (tVar 6) (tC (.bl false)))
  (tFor (iRng2 (tCons (tC (.int 1)) (tCons (tOp (rI0 fun i j => .int (i + j)) (tVar 1) (tC (.int 1))) tNil))) (gName 7) (tSeq (tAsg (tIf (tB (tVar 5)) (tCB rAbs (tCons (tOp (rI0 fun i j => .int (i - j)) (tVar 3) (tVar 7)) tNil)) (tC (.int 1))) (gName 8))
  (tIfS (tAnd (tTest (tChain (rI0 fun i j => .bl (decide (i < j))) (rI0 fun i j => .bl (decide (i ≤ j))) (tC (.int 0)) (tVar 8) (tVar 4))) (tNot (tB (tNGet P w (tVar 0) (tVar 6))))) (tSeq (tAsg (tCall (sp__law_cuts K) [] E0 (tCons (tVar 2) (tCons (tVar 3) (tCons (tVar 7) tNil)))) (gName 9))
  (sNPut P w (tVar 0) (tVar 6) (tCall (sp__law_all_enough K P w N) [] E0 (tCons (tVar 0) (tCons (tVar 1) (tCons (tVar 9) (tCons (tVar 7) (tCons (tOp (rI0 fun i j => .int (i - j)) (tVar 4) (tVar 8)) (tCons (tVar 5) tNil))))))))) tNext)))) tNext)
  (tRet (tNGet P w (tVar 0) (tVar 6))))))
theorem ab_cost (p q : Int) : (if p - q < 0 then -(p - q) else p - q) = ((cost true p q : Nat) : Int) := by
  unfold cost ab
  rw [if_pos rfl]
  split <;> omega
/-- within the turn of a spot -/
structure Mid (P : Program) (w : World) (st : Bool) (L n : Int) (k0 : SK) (H H' : Hp) (d : Addr) (kvs kvs' : NT) : Prop where
  kp : KpD d H H'
  dict : ND P w H' d kvs'
  tab : Tab kvs'
  ok : ∀ k v, valN kvs' k = some v → k.2.2.2 ≤ n → k ≠ k0 → Right st L k v
  up : ∀ k : SK, n < k.2.2.2 → valN kvs' k = valN kvs k
theorem pure__law_enough {K : PySem.W.Frag} {P : Program} {w : World} {N : Nat} {vs : List V} {H : Hp} {Q : VK} {E : XK} (h : sp__law_enough K P w (N + 1) vs H Q E) : t__law_enough K P w N { nx := fun _ H' => Q .non H', rt := Q } (start N__law_enough vs) H := by
  obtain ⟨d, s, L, a, b, p, n, st, kvs, rfl, hn0, hnN, hn64, hL, hs, h1, h2, h3, h4, h5, hpre, q⟩ := h
  refine ⟨_, rfl, s, _, 0, .int a, rfl, rfl, SqT.of hs, rfl, _, rfl, s, _, 1, .int b, rfl, rfl, SqT.of hs, rfl, rfl, _, rfl, ite2 (fun hc => ?_) (fun hc => ?_)⟩
  · have hab : a = b := V.int.inj (of_decide_eq_true hc)
    subst hab
    exact q H true kvs (Post1.refl hpre) ⟨fun _ => .one, fun _ => rfl⟩
  · have hab : a < b := by
      have : a ≠ b := fun z => hc (decide_eq_true (congrArg V.int z))
      omega
    refine ⟨_, rfl, _, rfl, _, rfl, by show 3 ≤ sizeLine; decide, fun bk nbk => ?_⟩
    have e1 : Ex H (upd H bk (.tup [.ref s, .int p, .int n])) := Ex.new nbk
    have hbk1 : SpotAt (upd H bk (.tup [.ref s, .int p, .int n])) bk (a, b, p, n) := ⟨s, upd_same, e1 _ _ hs⟩
    have hpre1 := hpre.ex e1
    have hs1 := e1 _ _ hs
    have kp1 : KpD d H (upd H bk (.tup [.ref s, .int p, .int n])) := KpD.ex e1
    generalize upd H bk (.tup [.ref s, .int p, .int n]) = H1 at hbk1 hpre1 hs1 kp1 ⊢
    have hbox : InBox (a, b, p, n) := ⟨⟨h1, by omega⟩, ⟨by show 1 ≤ b; omega, by show b ≤ 16; omega⟩, ⟨h4, by show p ≤ 16; omega⟩, hn0, hn64⟩
    have hd1 := hpre1.dict.1
    refine ⟨fun σ H' => ∃ (x7 x8 x9 : Option V) (kvs' : NT) (c : Bool), σ = [some (.ref d), some (.int L), some (.ref s), some (.int p), some (.int n), some (.bl st), some (.ref bk), x7, x8, x9] ∧ Post1 P w st L n H1 H' d kvs kvs' ∧ valN kvs' (a, b, p, n) = some (.bl c) ∧ (c = true ↔ En st L n.toNat a b p), ?_, ?_⟩
    · refine ⟨_, rfl, _, rfl, d, kvs, bk, (a, b, p, n), rfl, rfl, hpre1.dict, hbk1, _, rfl, ite2 (fun hin => ?_) (fun hin => ?_)⟩
      · have hnone : valN kvs (a, b, p, n) = none := by
          cases hv : valN kvs (a, b, p, n) with
          | none => rfl
          | some x =>
            rw [hv] at hin
            cases hin
        refine ⟨_, rfl, _, rfl, d, kvs, bk, (a, b, p, n), rfl, rfl, hpre1.dict, hbk1, hpre1.tab.len, ?_⟩
        have hmid2 : Mid P w st L n (a, b, p, n) H1 (upd H1 d (dNo P w d (putN kvs (a, b, p, n) bk (.bl false)))) d kvs (putN kvs (a, b, p, n) bk (.bl false)) := by
          refine ⟨(KpD.refl d H1).put, hpre1.dict.put hbk1, hpre1.tab.put hbox, fun k v hv hk hne => ?_, fun k hk => ?_⟩
          · rw [valN_put, if_neg hne] at hv
            exact hpre1.ok k v hv hk
          · rw [valN_put, if_neg]
            intro z
            rw [z] at hk
            exact absurd hk (Int.lt_irrefl n)
        have hval2 : valN (putN kvs (a, b, p, n) bk (.bl false)) (a, b, p, n) = some (.bl false) := by rw [valN_put, if_pos rfl]
        generalize putN kvs (a, b, p, n) bk (.bl false) = kvs2 at hmid2 hval2 ⊢
        generalize upd H1 d (dNo P w d kvs2) = H2 at hmid2 ⊢
        refine ⟨_, rfl, L, 1, rfl, rfl, 1, L + 1, rfl, ⟨by decide, by decide, by omega, by omega⟩, ?_⟩
        refine for_range (lo := 1) (n := (L + 1 - 1).toNat) (fun i σ H' => ∃ (x7 x8 x9 : Option V) (kvs' : NT) (c : Bool), σ = [some (.ref d), some (.int L), some (.ref s), some (.int p), some (.int n), some (.bl st), some (.ref bk), x7, x8, x9] ∧ Mid P w st L n (a, b, p, n) H1 H' d kvs kvs' ∧ valN kvs' (a, b, p, n) = some (.bl c) ∧ (c = true ↔ ∃ r, (1 ≤ r ∧ r < 1 + (i : Int)) ∧ 0 < cost st p r ∧ Good st L n.toNat a b p r))
          ⟨none, none, none, kvs2, false, rfl, hmid2, hval2, ⟨fun z => (by cases z), fun ⟨r, ⟨z1, z2⟩, _⟩ => (by omega)⟩⟩ ?_ ?_
        · clear hmid2 hval2 kvs2 H2
          rintro i σ H2 hi ⟨x7, x8, x9, kvs2, c, rfl, hmid, hval, hiff⟩
          have hq1 : 1 ≤ 1 + (i : Int) := by omega
          have hqL : 1 + (i : Int) ≤ L := by omega
          have enx : 1 + ((i + 1 : Nat) : Int) = 1 + (i : Int) + 1 := by omega
          rw [enx]
          generalize 1 + (i : Int) = q' at hq1 hqL hiff ⊢
          have key : ∀ Q2 : VK, Q2 (.int ((cost st p q' : Nat) : Int)) H2 → tIf (tB (tVar 5)) (tCB rAbs (tCons (tOp (rI0 fun i j => .int (i - j)) (tVar 3) (tVar 7)) tNil)) (tC (.int 1))
              [some (.ref d), some (.int L), some (.ref s), some (.int p), some (.int n), some (.bl st), some (.ref bk), some (.int q'), x8, x9] H2 Q2 := fun Q2 q2 => by
            refine ⟨_, rfl, _, rfl, ?_⟩
            cases st with
            | true =>
              refine iteT ⟨_, rfl, _, rfl, p, q', rfl, rfl, _, rfl, ?_⟩
              rw [ab_cost]
              exact q2
            | false => exact iteF q2
          dsimp only [gName, tSeq, tAsg]
          refine key _ ?_
          have grow : ∀ c2 : Bool, (c2 = true ↔ (c = true ∨ (0 < cost st p q' ∧ Good st L n.toNat a b p q'))) → (c2 = true ↔ ∃ r, (1 ≤ r ∧ r < q' + 1) ∧ 0 < cost st p r ∧ Good st L n.toNat a b p r) := fun c2 h2 => by
            rw [h2, hiff]
            constructor
            · rintro (⟨r, ⟨r1, r2⟩, r3⟩ | z)
              · exact ⟨r, ⟨r1, by omega⟩, r3⟩
              · exact ⟨q', ⟨hq1, by omega⟩, z⟩
            · rintro ⟨r, ⟨r1, r2⟩, r3⟩
              by_cases hr : r = q'
              · rw [hr] at r3
                exact .inr r3
              · exact .inl ⟨r, ⟨r1, by omega⟩, r3⟩
          have stay : (¬ (0 < cost st p q' ∧ ((cost st p q' : Nat) : Int) ≤ n) ∨ c = true) → ∃ (x7' x8' x9' : Option V) (kvs' : NT) (c' : Bool), ([some (.ref d), some (.int L), some (.ref s), some (.int p), some (.int n), some (.bl st), some (.ref bk), some (.int q'), some (.int ((cost st p q' : Nat) : Int)), x9] : L2.St) = [some (.ref d), some (.int L), some (.ref s), some (.int p), some (.int n), some (.bl st), some (.ref bk), x7', x8', x9'] ∧
              Mid P w st L n (a, b, p, n) H1 H2 d kvs kvs' ∧ valN kvs' (a, b, p, n) = some (.bl c') ∧ (c' = true ↔ ∃ r, (1 ≤ r ∧ r < q' + 1) ∧ 0 < cost st p r ∧ Good st L n.toNat a b p r) := fun hno => by
            refine ⟨_, _, _, kvs2, c, rfl, hmid, hval, grow c ⟨.inl, ?_⟩⟩
            rintro (z | ⟨z1, z2⟩)
            · exact z
            · rcases hno with hno | hno
              · exact absurd ⟨z1, by have := z2.1; omega⟩ hno
              · exact hno
          refine ⟨_, rfl, 0, _, rfl, rfl, _, rfl, ite2 (fun hpos => ?_) (fun hpos => ?_)⟩
          · have hpos : (0 : Int) < ((cost st p q' : Nat) : Int) := of_decide_eq_true hpos
            refine ⟨_, rfl, _, n, rfl, rfl, _, rfl, ite2 (fun hle => ?_) (fun hle => ?_)⟩
            · have hle : ((cost st p q' : Nat) : Int) ≤ n := of_decide_eq_true hle
              have hbk2 := hmid.kp.spot hd1 hbk1
              refine ⟨_, rfl, _, rfl, d, kvs2, bk, (a, b, p, n), .bl c, rfl, rfl, hmid.dict, hbk2, hval, _, rfl, ?_⟩
              cases c with
              | true => exact iteF (stay (.inr rfl))
              | false =>
                refine iteT ?_
                have hs2 : H2 s = some (.tup [.int a, .int b]) := hmid.kp.at hd1 hs1 tup_ne_dNo
                refine ⟨_, rfl, _, rfl, _, rfl, s, a, b, p, q', rfl, hs2, h1, h2, by omega, fun H3 D us cs nD e3 hD hcs hiffc hcne hclen => ?_⟩
                have hmid3 : ND P w H3 d kvs2 := hmid.dict.ex e3
                have hcv : ∀ z ∈ cs, 1 ≤ z.1 ∧ z.1 ≤ z.2 ∧ z.2 ≤ L := fun z hz => by
                  obtain ⟨w', hw'⟩ := (hiffc z.1 z.2).mp hz
                  have := hw'.sub
                  have := hw'.1
                  omega
                refine ⟨_, rfl, _, rfl, _, rfl, _, rfl, _, rfl, _, rfl, n, _, rfl, rfl, _, rfl, ?_⟩
                refine ⟨d, D, L, q', n - ((cost st p q' : Nat) : Int), st, kvs2, us, cs, rfl, by omega, by omega, by omega, hL, hD, hcs, hclen, hcv, hq1, hqL, ⟨hmid3, hmid.tab, fun k v hv hk => ?_⟩, fun H4 c2 kvs4 hp4 hc2 => ?_⟩
                · refine hmid.ok k v hv (by omega) fun z => ?_
                  rw [z] at hk
                  have : n ≤ n - ((cost st p q' : Nat) : Int) := hk
                  omega
                · have e13 : KpD d H1 H3 := hmid.kp.trans (KpD.ex e3)
                  have e14 : KpD d H1 H4 := e13.trans hp4.kp
                  have hbk4 := e14.spot hd1 hbk1
                  refine ⟨_, rfl, _, rfl, d, kvs4, bk, (a, b, p, n), rfl, rfl, hp4.pre.dict, hbk4, hp4.pre.tab.len, some (.int q'), some (.int ((cost st p q' : Nat) : Int)), some (.ref D), putN kvs4 (a, b, p, n) bk (.bl c2), c2, rfl, ⟨e14.put, hp4.pre.dict.put hbk4, hp4.pre.tab.put hbox, fun k v hv hk hne => ?_, fun k hk => ?_⟩, by rw [valN_put, if_pos rfl], grow c2 ?_⟩
                  · rw [valN_put, if_neg hne] at hv
                    by_cases hkn : k.2.2.2 ≤ n - ((cost st p q' : Nat) : Int)
                    · exact hp4.pre.ok k v hv hkn
                    · rw [hp4.up k (by omega)] at hv
                      exact hmid.ok k v hv hk hne
                  · rw [valN_put, if_neg (fun z => by rw [z] at hk; exact absurd hk (Int.lt_irrefl n)), hp4.up k (by omega)]
                    exact hmid.up k hk
                  · rw [hc2]
                    have en : (n - ((cost st p q' : Nat) : Int)).toNat = n.toNat - cost st p q' := by omega
                    constructor
                    · intro hall
                      refine .inr ⟨by omega, by omega, fun w' c' d' hcut => ?_⟩
                      have := hall (c', d') ((hiffc c' d').mpr ⟨w', hcut⟩)
                      rw [en] at this
                      exact this
                    · rintro (z | ⟨_, hg⟩) y hy
                      · cases z
                      · obtain ⟨w', hw'⟩ := (hiffc y.1 y.2).mp hy
                        rw [en]
                        exact hg.2 w' y.1 y.2 hw'
            · exact stay (.inl fun z => hle (decide_eq_true z.2))
          · exact ⟨_, rfl, stay (.inl fun z => hpos (decide_eq_true (by have := z.1; show (0 : Int) < _; omega)))⟩
        · rintro σ H3 ⟨x7, x8, x9, kvs3, c, rfl, hmid, hval, hiff⟩
          have hiff2 : c = true ↔ En st L n.toNat a b p := by
            rw [hiff, en_any hab]
            constructor
            · rintro ⟨r, ⟨r1, r2⟩, r3⟩
              exact ⟨r, ⟨r1, by omega⟩, r3⟩
            · rintro ⟨r, ⟨r1, r2⟩, r3⟩
              exact ⟨r, ⟨r1, by omega⟩, r3⟩
          refine ⟨x7, x8, x9, kvs3, c, rfl, ⟨hmid.kp, ⟨hmid.dict, hmid.tab, fun k v hv hk => ?_⟩, hmid.up⟩, hval, hiff2⟩
          by_cases hk0 : k = (a, b, p, n)
          · rw [hk0] at hv ⊢
            rw [hval] at hv
            cases hv
            exact ⟨c, rfl, hiff2⟩
          · exact hmid.ok k v hv hk hk0
      · obtain ⟨v, hv⟩ : ∃ v, valN kvs (a, b, p, n) = some v := by
          cases hv : valN kvs (a, b, p, n) with
          | none =>
            rw [hv] at hin
            exact absurd rfl hin
          | some x => exact ⟨x, rfl⟩
        obtain ⟨c, rfl, hc⟩ := hpre1.ok _ v hv (Int.le_refl n)
        exact ⟨none, none, none, kvs, c, rfl, Post1.refl hpre1, hv, hc⟩
    · rintro σ H3 ⟨x7, x8, x9, kvs3, c, rfl, hp3, hval, hiff⟩
      have hbk3 := hp3.kp.spot hd1 hbk1
      refine ⟨_, rfl, _, rfl, d, kvs3, bk, (a, b, p, n), .bl c, rfl, rfl, hp3.pre.dict, hbk3, hval, ?_⟩
      exact q H3 c kvs3 ⟨kp1.trans hp3.kp, hp3.pre, hp3.up⟩ hiff
theorem len__law_enough {K : PySem.W.Frag} {P : Program} {w : World} {N : Nat} {vs : List V} {H : Hp} {Q : VK} {E : XK} (h : sp__law_enough K P w N vs H Q E) : vs.length = 6 := by
  obtain ⟨d, s, L, a, b, p, n, st, kvs, rfl, _⟩ := h
  rfl
abbrev N__law_all_enough : List Str := ["known", "length", "cuts", "place", "spare", "steps", "one"]
def t__law_all_enough (K : PySem.W.Frag) (P : Program) (w : World) (N : Nat) : TS := (tRet (tCB (rAll K) (tCons (tLc (iList K (tVar 2)) (gName 6) tYes (tCall (sp__law_enough K P w N) [] E0 (tCons (tVar 0) (tCons (tVar 1) (tCons (tVar 6) (tCons (tVar 3) (tCons (tVar 4) (tCons (tVar 5) tNil))))))) [6]) tNil)))
theorem pure__law_all_enough {K : PySem.W.Frag} {P : Program} {w : World} {N : Nat} {vs : List V} {H : Hp} {Q : VK} {E : XK} (h : sp__law_all_enough K P w N vs H Q E) : t__law_all_enough K P w N { nx := fun _ H' => Q .non H', rt := Q } (start N__law_all_enough vs) H := by
  obtain ⟨d, C, L, q', n, st, kvs, us, cs, rfl, hn0, hnN, hn64, hL, hC, hcs, hlen, hcv, h1, h2, hpre, q⟩ := h
  refine ⟨_, rfl, C, rfl, ⟨_, SqL.of hC⟩, fun D nD => ?_⟩
  have e0 : Ex H (upd H D (.lst [])) := Ex.new nD
  have hCd := hC
  refine lc_list (K := K) (a := C) (xs := us.map V.ref) (fun j H' => ∃ (kvs' : NT) (bs : List Bool), Post1 P w st L n H H' d kvs kvs' ∧ H' D = some (.lst (bs.map V.bl)) ∧ bs.length = j ∧ (bs.all id = true ↔ ∀ z ∈ cs.take j, En st L n.toNat z.1 z.2 q'))
    ⟨kvs, [], ⟨KpD.ex e0, hpre.ex e0, fun _ _ => rfl⟩, upd_same, rfl, ⟨fun _ z hz => (nomatch hz), fun _ => rfl⟩⟩ (fun j H' _ ⟨kvs', _, hp, _⟩ => SqL.of (hp.kp.at hpre.dict.1 hC lst_ne_dNo)) (fun j x H2 hx ⟨kvs', bs, hp, hD, hbl, hiff⟩ => ?_) (fun H2 ⟨kvs', bs, hp, hD, hbl, hiff⟩ => ?_)
  · have hj : j < us.length := by
      have := (List.getElem?_eq_some_iff.mp hx).1
      rw [List.length_map] at this
      exact this
    rw [List.getElem?_map, List.getElem?_eq_getElem hj] at hx
    have ex : x = .ref us[j] := (Option.some.inj hx).symm
    subst ex
    have hcs2 := hp.kp.pairs hpre.dict.1 hcs
    obtain ⟨z, hz, hzat⟩ := hcs2.at (List.getElem?_eq_getElem hj)
    have hzv := hcv z (List.mem_of_getElem? hz)
    have hcl := hcs.len
    refine ⟨rfl, ?_⟩
    dsimp only [tYes]
    rw [if_pos rfl]
    refine ⟨_, rfl, _, rfl, _, rfl, _, rfl, _, rfl, _, rfl, d, us[j], L, z.1, z.2, q', n, st, kvs', rfl, hn0, hnN, hn64, hL, hzat, hzv.1, hzv.2.1, hzv.2.2, h1, h2, hp.pre, fun H3 c kvs3 hp3 hc => ?_⟩
    have hD3 : H3 D = some (.lst (bs.map V.bl)) := hp3.kp.at hp.pre.dict.1 hD lst_ne_dNo
    have nDd : D ≠ d := ne_of_none hpre.dict.1 nD |>.symm
    have hp03 := hp.trans hp3
    refine ⟨_, hD3, ?_, kvs3, bs ++ [c], ⟨?_, ⟨⟨?_, ?_⟩, hp03.pre.tab, hp03.pre.ok⟩, hp03.up⟩, ?_, ?_, ?_⟩
    · rw [List.length_map, hbl]
      exact small1000 (by omega)
    · intro y o ny hy
      rw [upd_ne (ne_of_none hy nD)]
      exact hp03.kp y o ny hy
    · rw [upd_ne nDd.symm]
      exact hp03.pre.dict.1
    · refine hp03.pre.dict.2.mutG fun xs zz => ?_
      rw [hD3] at zz
      cases zz
    · rw [upd_same, List.map_append]
      rfl
    · rw [List.length_append, hbl]
      rfl
    · rw [List.all_append, Bool.and_eq_true, hiff, List.take_add_one, hz]
      have e1 : ([c].all id = true) ↔ c = true := by
        show ((id c && true) = true) ↔ c = true
        rw [Bool.and_true]
        exact Iff.rfl
      rw [e1, hc]
      constructor
      · rintro ⟨g1, g2⟩ y hy
        rcases List.mem_append.mp hy with hy | hy
        · exact g1 y hy
        · have : y = z := by simpa using hy
          rw [this]
          exact g2
      · intro g
        exact ⟨fun y hy => g y (List.mem_append.mpr (.inl hy)), g z (List.mem_append.mpr (.inr (by simp)))⟩
  · rw [List.length_map, hcs.len, List.take_length] at hiff
    refine ⟨D, bs, rfl, SqL.of hD, ?_⟩
    exact q H2 (bs.all id) kvs' hp hiff
theorem len__law_all_enough {K : PySem.W.Frag} {P : Program} {w : World} {N : Nat} {vs : List V} {H : Hp} {Q : VK} {E : XK} (h : sp__law_all_enough K P w N vs H Q E) : vs.length = 6 := by
  obtain ⟨d, C, L, q', n, st, kvs, us, cs, rfl, _⟩ := h
  rfl
def sp__law_due (K : PySem.W.Frag) : Sp := fun vs H Q _ => ∃ (L : Int) (s : Addr) (a b p : Int) (st : Bool), vs = [.int L, .ref s, .int p, .bl st] ∧ L ≤ 6 ∧ H s = some (.tup [.int a, .int b]) ∧ 1 ≤ a ∧ a ≤ b ∧ b ≤ L ∧ 1 ≤ p ∧ p ≤ L ∧
  ∀ H' u n v, Ex H H' → Told st L a b p n v → H' u = some (.tup [.int (n : Nat), v]) → Q (.ref u) H'
abbrev N__law_due : List Str := ["length", "stretch", "place", "steps", "known", "spare", "later", "cost"]
def t__law_due (K : PySem.W.Frag) (P : Program) (w : World) : TS := (tSeq (tPar 4 5 (tCons (tNNew P w) (tCons (tC (.int 0)) tNil)))
  (tSeq (tWhile (tNot (tB (tCall (sp__law_enough K P w 40) [] E0 (tCons (tVar 4) (tCons (tVar 0) (tCons (tVar 1) (tCons (tVar 2) (tCons (tVar 5) (tCons (tVar 3) tNil))))))))) (tAsg (tOp (rI0 fun i j => .int (i + j)) (tVar 5) (tC (.int 1))) (gName 5)))
  (tSeq (tIfS (tTest (tOp rEq (tVar 5) (tC (.int 0)))) (tRet (tTup (tCons (tC (.int 0)) (tCons (tC .non) tNil)))) tNext)
  (tSeq (tFor (iRng2 (tCons (tC (.int 1)) (tCons (tOp (rI0 fun i j => .int (i + j)) (tVar 0) (tC (.int 1))) tNil))) (gName 6) (tSeq (tAsg (tIf (tB (tVar 3)) (tCB rAbs (tCons (tOp (rI0 fun i j => .int (i - j)) (tVar 2) (tVar 6)) tNil)) (tC (.int 1))) (gName 7))
  (tIfS (tAnd (tTest (tOp rNe (tVar 6) (tVar 2))) (tTest (tOp (rI0 fun i j => .bl (decide (i ≤ j))) (tVar 7) (tVar 5)))) (tIfS (tB (tCall (sp__law_all_enough K P w 40) [] E0 (tCons (tVar 4) (tCons (tVar 0) (tCons (tCall (sp__law_cuts K) [] E0 (tCons (tVar 1) (tCons (tVar 2) (tCons (tVar 6) tNil)))) (tCons (tVar 6) (tCons (tOp (rI0 fun i j => .int (i - j)) (tVar 5) (tVar 7)) (tCons (tVar 3) tNil)))))))) (tRet (tTup (tCons (tVar 5) (tCons (tVar 6) tNil)))) tNext) tNext)))
  (tRet (tC .non))))))
theorem ab_costD (p q : Int) : (if p - q < 0 then -(p - q) else p - q) = ((cost true p q : Nat) : Int) := by
  unfold cost ab
  rw [if_pos rfl]
  split <;> omega
theorem en_20 {st : Bool} {L a b p : Int} (hL : L ≤ 6) (h1 : 1 ≤ a) (h2 : a ≤ b) (h3 : b ≤ L) (h4 : 1 ≤ p) (h5 : p ≤ L) : En st L 20 a b p := by
  cases st with
  | false => exact (en_enough h1 h2 h3).mono (by omega)
  | true =>
    refine (sx_en h1 h2 h3 h4 h5).mono ?_
    unfold Stp
    repeat' split
    all_goals omega
theorem pure__law_due {K : PySem.W.Frag} {P : Program} {w : World} {vs : List V} {H : Hp} {Q : VK} {E : XK} (h : sp__law_due K vs H Q E) : t__law_due K P w { nx := fun _ H' => Q .non H', rt := Q } (start N__law_due vs) H := by
  obtain ⟨L, s, a, b, p, st, rfl, hL, hs, h1, h2, h3, h4, h5, q⟩ := h
  refine fun d nd => ⟨_, _, rfl, ?_⟩
  have hnd : ND P w (upd H d (dNo P w d [])) d [] := ⟨upd_same, fun e he => (nomatch he)⟩
  have htab : Tab [] := ⟨List.nodup_nil, fun e he => (nomatch he)⟩
  have hs1 : (upd H d (dNo P w d [])) s = some (.tup [.int a, .int b]) := (Ex.new nd) _ _ hs
  have hnew : ∀ {H'}, KpD d (upd H d (dNo P w d [])) H' → Ex H H' := fun {H'} k x u hx => by
    have ne : x ≠ d := ne_of_none hx nd
    exact k x u ne (by rw [upd_ne ne]; exact hx)
  generalize upd H d (dNo P w d []) = H1 at hnd hs1 hnew ⊢
  have hd1 := hnd.1
  have hbig := en_20 (st := st) hL h1 h2 h3 h4 h5
  refine ⟨fun k σ H' => ∃ (m : Nat) (kvs : NT), σ = [some (.int L), some (.ref s), some (.int p), some (.bl st), some (.ref d), some (.int (m : Int)), none, none] ∧ m + k = 20 ∧ KpD d H1 H' ∧ Pre1 P w st L m H' d kvs ∧ (∀ z : SK, (m : Int) ≤ z.2.2.2 → valN kvs z = none) ∧ ∀ j, j < m → ¬ En st L j a b p,
    ⟨20, 0, [], rfl, rfl, KpD.refl d H1, ⟨hnd, htab, fun k v hv _ => (by cases hv)⟩, fun z _ => rfl, fun j hj => absurd hj (Nat.not_lt_zero j)⟩, ?_⟩
  rintro k σ H2 ⟨m, kvs2, rfl, hmk, kp2, hp2, hup, hno⟩
  have hs2 := kp2.at hd1 hs1 tup_ne_dNo
  refine ⟨_, rfl, _, rfl, _, rfl, _, rfl, _, rfl, _, rfl, d, s, L, a, b, p, (m : Int), st, kvs2, rfl, by omega, by omega, by omega, by omega, hs2, h1, h2, h3, h4, h5, hp2, fun H3 c kvs3 hp3 hc => ?_⟩
  rw [Int.toNat_natCast] at hc
  have kp3 := kp2.trans hp3.kp
  refine ⟨_, rfl, ?_⟩
  cases c with
  | false =>
    have hn : ¬ En st L m a b p := fun z => absurd (hc.mpr z) (by decide)
    have hlt : m < 20 := by
      apply Classical.byContradiction
      intro z
      exact hn (hbig.mono (by omega))
    refine iteT ⟨fun σ' H' => σ' = [some (.int L), some (.ref s), some (.int p), some (.bl st), some (.ref d), some (.int ((m + 1 : Nat) : Int)), none, none] ∧ H' = H3, ?_, ?_⟩
    · rintro σ' H' ⟨rfl, rfl⟩
      refine ⟨k - 1, by omega, m + 1, kvs3, rfl, by omega, kp3, ⟨hp3.pre.dict, hp3.pre.tab, fun z v hv hz => ?_⟩, fun z hz => ?_, fun j hj => ?_⟩
      · by_cases hzm : z.2.2.2 ≤ (m : Int)
        · exact hp3.pre.ok z v hv hzm
        · rw [hp3.up z (by omega), hup z (by omega)] at hv
          cases hv
      · rw [hp3.up z (by omega), hup z (by omega)]
      · by_cases z : j = m
        · rw [z]
          exact hn
        · exact hno j (by omega)
    · exact ⟨_, rfl, _, 1, rfl, rfl, rfl, rfl⟩
  | true =>
    have hen : En st L m a b p := hc.mp rfl
    refine iteF ?_
    refine ⟨_, rfl, rfl, _, rfl, ite2 (fun e => ?_) (fun e => ?_)⟩
    · have e0 := V.int.inj (of_decide_eq_true e)
      have em : m = 0 := by omega
      have hab : a = b := by
        rw [em] at hen
        cases hen with
        | one => rfl
        | go q' _ _ ne hc' _ =>
          have := cost_pos (st := st) ne
          omega
      refine ⟨by show 2 ≤ sizeLine; decide, fun u nu => ?_⟩
      exact q _ u 0 .non ((hnew kp3).trans (Ex.new nu)) (.inl ⟨hab, rfl, rfl⟩) upd_same
    · have em : m ≠ 0 := fun z => e (decide_eq_true (by rw [z]; rfl))
      have hab : a < b := by
        have : a ≠ b := fun z => hno 0 (by omega) (by rw [z]; exact .one)
        omega
      refine ⟨_, rfl, L, 1, rfl, rfl, 1, L + 1, rfl, ⟨by decide, by decide, by omega, by omega⟩, ?_⟩
      refine for_range (lo := 1) (n := (L + 1 - 1).toNat) (fun i σ H' => ∃ (x6 x7 : Option V) (kvs : NT), σ = [some (.int L), some (.ref s), some (.int p), some (.bl st), some (.ref d), some (.int (m : Int)), x6, x7] ∧ KpD d H1 H' ∧ Pre1 P w st L m H' d kvs ∧ ∀ r, 1 ≤ r → r < 1 + (i : Int) → r ≠ p → ¬ Good st L m a b p r)
        ⟨none, none, kvs3, rfl, kp3, hp3.pre, fun r r1 r2 => (by omega)⟩ ?_ ?_
      · rintro i σ H4 hi ⟨x6, x7, kvs4, rfl, kp4, hp4, hno4⟩
        have hq1 : 1 ≤ 1 + (i : Int) := by omega
        have hqL : 1 + (i : Int) ≤ L := by omega
        have enx : 1 + ((i + 1 : Nat) : Int) = 1 + (i : Int) + 1 := by omega
        rw [enx]
        generalize 1 + (i : Int) = q' at hq1 hqL hno4 ⊢
        have key : ∀ Q2 : VK, Q2 (.int ((cost st p q' : Nat) : Int)) H4 → tIf (tB (tVar 3)) (tCB rAbs (tCons (tOp (rI0 fun i j => .int (i - j)) (tVar 2) (tVar 6)) tNil)) (tC (.int 1))
            [some (.int L), some (.ref s), some (.int p), some (.bl st), some (.ref d), some (.int (m : Int)), some (.int q'), x7] H4 Q2 := fun Q2 q2 => by
          refine ⟨_, rfl, _, rfl, ?_⟩
          cases st with
          | true =>
            refine iteT ⟨_, rfl, _, rfl, p, q', rfl, rfl, _, rfl, ?_⟩
            rw [ab_costD]
            exact q2
          | false => exact iteF q2
        dsimp only [gName, tSeq, tAsg]
        refine key _ ?_
        have stay : (q' ≠ p → ¬ Good st L m a b p q') → ∃ (x6' x7' : Option V) (kvs : NT), ([some (.int L), some (.ref s), some (.int p), some (.bl st), some (.ref d), some (.int (m : Int)), some (.int q'), some (.int ((cost st p q' : Nat) : Int))] : L2.St) = [some (.int L), some (.ref s), some (.int p), some (.bl st), some (.ref d), some (.int (m : Int)), x6', x7'] ∧ KpD d H1 H4 ∧ Pre1 P w st L m H4 d kvs ∧ ∀ r, 1 ≤ r → r < q' + 1 → r ≠ p → ¬ Good st L m a b p r := fun hg => by
          refine ⟨_, _, kvs4, rfl, kp4, hp4, fun r r1 r2 r3 => ?_⟩
          by_cases z : r = q'
          · rw [z] at r3 ⊢
            exact hg r3
          · exact hno4 r r1 (by omega) r3
        refine ⟨_, rfl, _, rfl, rfl, _, rfl, ite2 (fun hne => ?_) (fun hne => ?_)⟩
        · have hne : q' ≠ p := fun z => by
            rw [z, decide_eq_true rfl] at hne
            cases hne
          refine ⟨_, rfl, _, rfl, _, _, rfl, rfl, _, rfl, ite2 (fun hle => ?_) (fun hle => ?_)⟩
          · have hle : ((cost st p q' : Nat) : Int) ≤ (m : Int) := of_decide_eq_true hle
            have hs4 := kp4.at hd1 hs1 tup_ne_dNo
            refine ⟨_, rfl, _, rfl, _, rfl, _, rfl, _, rfl, s, a, b, p, q', rfl, hs4, h1, h2, by omega, fun H5 D us cs nD e5 hD hcs hiffc hcne hclen => ?_⟩
            have hcv : ∀ z ∈ cs, 1 ≤ z.1 ∧ z.1 ≤ z.2 ∧ z.2 ≤ L := fun z hz => by
              obtain ⟨w', hw'⟩ := (hiffc z.1 z.2).mp hz
              have := hw'.sub
              have := hw'.1
              omega
            have hp5 : Pre1 P w st L ((m : Int) - ((cost st p q' : Nat) : Int)) H5 d kvs4 := ⟨hp4.dict.ex e5, hp4.tab, fun z v hv hz => hp4.ok z v hv (by omega)⟩
            refine ⟨_, rfl, _, rfl, _, rfl, _, _, rfl, rfl, _, rfl, ?_⟩
            refine ⟨d, D, L, q', (m : Int) - ((cost st p q' : Nat) : Int), st, kvs4, us, cs, rfl, by omega, by omega, by omega, by omega, hD, hcs, hclen, hcv, hq1, hqL, hp5, fun H6 c2 kvs6 hp6 hc2 => ?_⟩
            have kp6 : KpD d H1 H6 := (kp4.trans (KpD.ex e5)).trans hp6.kp
            have en : ((m : Int) - ((cost st p q' : Nat) : Int)).toNat = m - cost st p q' := by omega
            rw [en] at hc2
            have hg : c2 = true ↔ Good st L m a b p q' := by
              rw [hc2]
              constructor
              · intro hall
                exact ⟨by omega, fun w' c' d' hcut => hall (c', d') ((hiffc c' d').mpr ⟨w', hcut⟩)⟩
              · intro hgd z hz
                obtain ⟨w', hw'⟩ := (hiffc z.1 z.2).mp hz
                exact hgd.2 w' z.1 z.2 hw'
            have hp6m : Pre1 P w st L m H6 d kvs6 := ⟨hp6.pre.dict, hp6.pre.tab, fun z v hv hz => by
              by_cases hzm : z.2.2.2 ≤ (m : Int) - ((cost st p q' : Nat) : Int)
              · exact hp6.pre.ok z v hv hzm
              · rw [hp6.up z (by omega)] at hv
                exact hp4.ok z v hv hz⟩
            refine ⟨_, rfl, ?_⟩
            cases c2 with
            | true =>
              refine iteT ⟨_, rfl, _, rfl, by show 2 ≤ sizeLine; decide, fun u nu => ?_⟩
              exact q _ u m (.int q') ((hnew kp6).trans (Ex.new nu)) (.inr ⟨hab, ⟨hen, hno⟩, q', rfl, ⟨hq1, hqL⟩, hne, hg.mp rfl, fun r r1 r2 r3 => hno4 r r1 r2 r3⟩) upd_same
            | false =>
              refine iteF ⟨_, _, kvs6, rfl, kp6, hp6m, fun r r1 r2 r3 => ?_⟩
              by_cases z : r = q'
              · rw [z]
                exact fun y => absurd (hg.mpr y) (by decide)
              · exact hno4 r r1 (by omega) r3
          · exact stay fun _ hg => hle (decide_eq_true (by have := hg.1; show ((cost st p q' : Nat) : Int) ≤ (m : Int); omega))
        · have hne : q' = p := by
            apply Classical.byContradiction
            intro z
            apply hne
            rw [decide_eq_false (fun y => z (V.int.inj y))]
            rfl
          exact stay fun z => absurd hne z
      · rintro σ H4 ⟨x6, x7, kvs4, rfl, kp4, hp4, hno4⟩
        obtain ⟨q', ⟨z1, z2⟩, ne, hg⟩ := (en_good hab).mp hen
        exact absurd hg (hno4 q' z1 (by omega) ne)
theorem len__law_due {K : PySem.W.Frag} {vs : List V} {H : Hp} {Q : VK} {E : XK} (h : sp__law_due K vs H Q E) : vs.length = 4 := by
  obtain ⟨L, s, a, b, p, st, rfl, _⟩ := h
  rfl
def sp_law (K : PySem.W.Frag) : Sp := fun vs H Q _ => ∃ (a : Addr) (ns : List Int), vs = [.ref a] ∧ SqL K H a (ns.map V.int) ∧ ns.length ≤ 63 ∧ ∀ H', Q (.bl true) H'
abbrev N_law : List Str := ["script", "bag", "length", "low", "stretch", "place", "one", "costs", "begin"]
def t_law (K : PySem.W.Frag) : TS := (tSeq (tFor (iList K (tCall (sp__law_bags K) [] E0 (tCons (tVar 0) (tCons (tC (.int 3)) tNil)))) (gName 1) (tSeq (tAsg (tOp (rI0 fun i j => .int (i + j)) (tC (.int 2)) (tCall (sp__law_take K) [] E0 (tCons (tVar 1) (tCons (tC (.int 5)) tNil)))) (gName 2))
  (tSeq (tAsg (tOp (rI0 fun i j => .int (i + j)) (tC (.int 1)) (tCall (sp__law_take K) [] E0 (tCons (tVar 1) (tCons (tVar 2) tNil)))) (gName 3))
  (tSeq (tPar 4 5 (tCons (tTup (tCons (tVar 3) (tCons (tOp (rI0 fun i j => .int (i + j)) (tVar 3) (tCall (sp__law_take K) [] E0 (tCons (tVar 1) (tCons (tOp (rI0 fun i j => .int (i - j)) (tOp (rI0 fun i j => .int (i + j)) (tVar 2) (tC (.int 1))) (tVar 3)) tNil)))) tNil))) (tCons (tOp (rI0 fun i j => .int (i + j)) (tC (.int 1)) (tCall (sp__law_take K) [] E0 (tCons (tVar 1) (tCons (tVar 2) tNil)))) tNil)))
  (tSeq (tFor (iTup K (tTup (tCons (tVar 4) (tCons (tTup (tCons (tC (.int 1)) (tCons (tVar 2) tNil))) tNil)))) (gName 6) (tSeq (tIfS (tTest (tOp (rNeD K) (tCall (sp_stands_from K) [] E0 (tCons (tVar 2) (tCons (tVar 6) (tCons (tVar 5) tNil)))) (tCall (sp__law_due K) [] E0 (tCons (tVar 2) (tCons (tVar 6) (tCons (tVar 5) (tCons (tC (.bl false)) tNil))))))) (tRet (tC (.bl false))) tNext)
  (tIfS (tTest (tOp (rNeD K) (tCall (sp_steps_from K) [] E0 (tCons (tVar 2) (tCons (tVar 6) (tCons (tVar 5) tNil)))) (tCall (sp__law_due K) [] E0 (tCons (tVar 2) (tCons (tVar 6) (tCons (tVar 5) (tCons (tC (.bl true)) tNil))))))) (tRet (tC (.bl false))) tNext)))
  (tSeq (tAsg (tLc (iRng2 (tCons (tC (.int 1)) (tCons (tOp (rI0 fun i j => .int (i + j)) (tVar 2) (tC (.int 1))) tNil))) (gName 8) tYes (tOp (rIxT K) (tCall (sp__law_due K) [] E0 (tCons (tVar 2) (tCons (tTup (tCons (tC (.int 1)) (tCons (tVar 2) tNil))) (tCons (tVar 8) (tCons (tC (.bl false)) tNil))))) (tC (.int 0))) [8]) (gName 7))
  (tIfS (tTest (tOp (rNeD K) (tCall (sp_stands_at_all K) [] E0 (tCons (tVar 2) tNil)) (tTup (tCons (tOp (rI0 fun i j => .int (i + j)) (tC (.int 1)) (tCB (rMin K) (tCons (tVar 7) tNil))) (tCons (tOp (rI0 fun i j => .int (i + j)) (tC (.int 1)) (tBM K "list" (rIndex K) (tVar 7) (tCons (tCB (rMin K) (tCons (tVar 7) tNil)) tNil))) tNil))))) (tRet (tC (.bl false))) tNext)))))))
  (tRet (tAndV (tOp (rEqD K) (tCall (sp_stands_at_all K) [] E0 (tCons (tC (.int 1)) tNil)) (tTup (tCons (tC (.int 0)) (tCons (tC .non) tNil)))) (tAndV (tOp (rEqD K) (tCall (sp_stands_at_all K) [] E0 (tCons (tC (.int 2)) tNil)) (tTup (tCons (tC (.int 2)) (tCons (tC (.int 1)) tNil)))) (tOp (rEqD K) (tCall (sp_stands_at_all K) [] E0 (tCons (tC (.int 3)) tNil)) (tTup (tCons (tC (.int 2)) (tCons (tC (.int 1)) tNil))))))))
theorem atall_by {L : Int} {n : Nat} {v : V} (h : AtAll L n v) (m : Nat) (hL : 2 ≤ L) (h1 : enB false L m m 1 L 1 = true) (h2 : ((rng 1 (L + 1)).all fun q => match m with | 0 => true | k + 1 => !enB false L k k 1 L q) = true) : n = m + 1 ∧ v = .int 1 := by
  rcases h with ⟨z, _⟩ | ⟨_, k, p, rfl, rfl, hp, hk, hall, hfst⟩
  · omega
  · obtain ⟨j, hj, hjl⟩ := least_of _ (en_by h1)
    have g1 := hall 1 (by omega) (by omega) j hjl
    have g2 : m ≤ k := by
      cases m with
      | zero => omega
      | succ i =>
        have := List.all_eq_true.mp h2 p (mem_rng.mpr ⟨hp.1, by omega⟩)
        have e : enB false L i i 1 L p = false := by simpa using this
        have : ¬ k ≤ i := fun z => not_en_by e (hk.1.mono z)
        omega
    have ek : k = m := by omega
    have ep : p = 1 := by
      by_cases z : p = 1
      · exact z
      · have := hfst 1 (by omega) (by omega) j hjl
        omega
    exact ⟨by omega, by rw [ep]⟩
theorem toldV {st : Bool} {L a b p : Int} {n : Nat} {v : V} (h : Told st L a b p n v) : v = .non ∨ ∃ q, v = .int q := by
  rcases h with ⟨_, _, h⟩ | ⟨_, _, q, h, _⟩
  · exact .inl h
  · exact .inr ⟨q, h⟩
theorem eqvNN (n : Int) : PyData.eqv (.tuple [.int n, .none]) (.tuple [.int n, .none]) = true := by
  show ((n == n) && (true && true)) = true
  simp
theorem neSame {K : PySem.W.Frag} {H : Hp} {u z : Addr} {n : Int} {v : V} {Q : VK} (hv : v = .non ∨ ∃ q, v = .int q) (h1 : H u = some (.tup [.int n, v])) (h2 : H z = some (.tup [.int n, v])) (q : Q (.bl false) H) : rNeD K (.ref u) (.ref z) H Q := by
  rcases hv with rfl | ⟨y, rfl⟩
  · refine ⟨.tuple [.int n, .none], .tuple [.int n, .none], .tup (SqT.of h1) (.cons (.int n) (.cons .non .nil)), .tup (SqT.of h2) (.cons (.int n) (.cons .non .nil)), rfl, rfl, ?_⟩
    rw [eqvNN]
    exact q
  · refine neTT (ns := [n, y]) (ms := [n, y]) (SqT.of h1) (SqT.of h2) ?_
    rw [decide_eq_true rfl]
    exact q
theorem eq0N {K : PySem.W.Frag} {H : Hp} {u z : Addr} {Q : VK} (h1 : H u = some (.tup [.int 0, .non])) (h2 : H z = some (.tup [.int 0, .non])) (q : Q (.bl true) H) : rEqD K (.ref u) (.ref z) H Q :=
  ⟨.tuple [.int 0, .none], .tuple [.int 0, .none], .tup (SqT.of h1) (.cons (.int 0) (.cons .non .nil)), .tup (SqT.of h2) (.cons (.int 0) (.cons .non .nil)), rfl, rfl, q⟩
theorem pure_law {K : PySem.W.Frag} {vs : List V} {H : Hp} {Q : VK} {E : XK} (h : sp_law K vs H Q E) : t_law K { nx := fun _ H' => Q .non H', rt := Q } (start N_law vs) H := by
  obtain ⟨a, ns, rfl, hS, hlen, q⟩ := h
  refine ⟨_, rfl, a, ns, 3, rfl, hS, by decide, by decide, fun L H1 bs nL e1 hL hB nb => ?_⟩
  refine ⟨L, rfl, ⟨_, SqL.of hL⟩, ?_⟩
  have nLb : L ∉ bs := bags_list hB hL
  refine for_list (K := K) (a := L) (xs := bs.map V.ref) (fun i σ H' => ∃ x1 x2 x3 x4 x5 x6 x7 x8 : Option V, σ = [some (.ref a), x1, x2, x3, x4, x5, x6, x7, x8] ∧ Kp bs H1 H' ∧ Bags bs H')
    ⟨none, none, none, none, none, none, none, none, rfl, Kp.refl bs H1, hB⟩ (fun i σ H' _ ⟨_, _, _, _, _, _, _, _, _, k, _⟩ => SqL.of (k L _ nLb hL)) ?_ ?_
  · rintro i x σ H2 hx ⟨x1, x2, x3, x4, x5, x6, x7, x8, rfl, k2, B2⟩
    obtain ⟨b, hb, rfl⟩ := ref_at hx
    refine ⟨_, rfl, bs, b, 5, rfl, hb, B2, by decide, fun l0 H3 hl0 hl1 k3 B3 => ⟨2, l0, rfl, rfl, ?_⟩⟩
    have hl2 : 2 ≤ 2 + l0 := by omega
    have hl7 : 2 + l0 ≤ 6 := by omega
    dsimp only
    generalize 2 + l0 = l at hl2 hl7 ⊢
    refine ⟨_, rfl, _, rfl, bs, b, l, rfl, hb, B3, by omega, fun a0 H4 ha0 ha1 k4 B4 => ⟨1, a0, rfl, rfl, ?_⟩⟩
    have ha1 : 1 ≤ 1 + a0 := by omega
    have hal : 1 + a0 ≤ l := by omega
    dsimp only
    generalize 1 + a0 = lo at ha1 hal ⊢
    refine ⟨_, rfl, _, rfl, _, rfl, _, rfl, l, 1, rfl, rfl, _, rfl, l + 1, lo, rfl, rfl, bs, b, l + 1 - lo, rfl, hb, B4, by omega, fun w0 H5 hw0 hw1 k5 B5 => ⟨lo, w0, rfl, rfl, by show 2 ≤ sizeLine; decide, fun s ns5 => ?_⟩⟩
    have e6 : Ex H5 (upd H5 s (.tup [.int lo, .int (lo + w0)])) := Ex.new ns5
    have hs6 : (upd H5 s (.tup [.int lo, .int (lo + w0)])) s = some (.tup [.int lo, .int (lo + w0)]) := upd_same
    have B6 := B5.ex e6
    have nsb : s ∉ bs := B5.fresh ns5
    have k16 : Kp bs H1 (upd H5 s (.tup [.int lo, .int (lo + w0)])) := (((k2.trans k3).trans k4).trans k5).trans (Kp.ex e6)
    generalize upd H5 s (.tup [.int lo, .int (lo + w0)]) = H6 at hs6 B6 k16 ⊢
    have hhi1 : lo ≤ lo + w0 := by omega
    have hhil : lo + w0 ≤ l := by omega
    generalize lo + w0 = hi at hhi1 hhil hs6
    refine ⟨_, rfl, _, rfl, bs, b, l, rfl, hb, B6, by omega, fun p0 H7 hp0 hp1 k7 B7 => ⟨1, p0, rfl, rfl, _, _, rfl, ?_⟩⟩
    have hp1 : 1 ≤ 1 + p0 := by omega
    have hpl : 1 + p0 ≤ l := by omega
    dsimp only
    generalize 1 + p0 = p at hp1 hpl ⊢
    have hs7 := k7 _ _ nsb hs6
    have k17 := k16.trans k7
    refine ⟨_, rfl, _, rfl, by show 2 ≤ sizeLine; decide, fun wh nwh => ?_⟩
    have e9 : Ex H7 (upd H7 wh (.tup [.int 1, .int l])) := Ex.new nwh
    have hw9 : (upd H7 wh (.tup [.int 1, .int l])) wh = some (.tup [.int 1, .int l]) := upd_same
    have hs9 := e9 _ _ hs7
    have B9 := B7.ex e9
    have k19 : Kp bs H1 (upd H7 wh (.tup [.int 1, .int l])) := k17.trans (Kp.ex e9)
    generalize upd H7 wh (.tup [.int 1, .int l]) = H9 at hw9 hs9 B9 k19 ⊢
    refine ⟨by show 2 ≤ sizeLine; decide, fun T nT => ?_⟩
    have e11 : Ex H9 (upd H9 T (.tup [.ref s, .ref wh])) := Ex.new nT
    have hT11 : (upd H9 T (.tup [.ref s, .ref wh])) T = some (.tup [.ref s, .ref wh]) := upd_same
    have hs11 := e11 _ _ hs9
    have hw11 := e11 _ _ hw9
    have B11 := B9.ex e11
    have k111 : Kp bs H1 (upd H9 T (.tup [.ref s, .ref wh])) := k19.trans (Kp.ex e11)
    generalize upd H9 T (.tup [.ref s, .ref wh]) = H11 at hT11 hs11 hw11 B11 k111 ⊢
    refine ⟨T, rfl, ⟨_, SqT.of hT11⟩, ?_⟩
    refine for_tup (K := K) (a := T) (xs := [.ref s, .ref wh]) (fun i σ H' => ∃ x6 : Option V, σ = [some (.ref a), some (.ref b), some (.int l), some (.int lo), some (.ref s), some (.int p), x6, x7, x8] ∧ Ex H11 H')
      ⟨x6, rfl, Ex.refl H11⟩ (fun i σ H' _ ⟨_, _, k⟩ => SqT.of (k T _ hT11)) ?_ ?_
    · rintro j y σ H12 hy ⟨y6, rfl, e12⟩
      obtain ⟨o, c, d, rfl, ho, hc1, hcd, hdl⟩ : ∃ (o : Addr) (c d : Int), y = .ref o ∧ H11 o = some (.tup [.int c, .int d]) ∧ 1 ≤ c ∧ c ≤ d ∧ d ≤ l := by
        match j, hy with
        | 0, hy => exact ⟨s, lo, hi, (Option.some.inj hy).symm, hs11, ha1, hhi1, hhil⟩
        | 1, hy => exact ⟨wh, 1, l, (Option.some.inj hy).symm, hw11, by omega, by omega, by omega⟩
        | j + 2, hy => simp at hy
      have ho12 := e12 _ _ ho
      refine ⟨_, rfl, _, rfl, _, rfl, l, o, c, d, p, rfl, by omega, ho12, hc1, hcd, hdl, hp1, hpl, fun H13 u1 n1 v1 e13 ht1 hu1 => ?_⟩
      refine ⟨_, rfl, _, rfl, _, rfl, l, o, c, d, p, false, rfl, hl7, e13 _ _ ho12, hc1, hcd, hdl, hp1, hpl, fun H14 u2 n2 v2 e14 ht2 hu2 => ?_⟩
      obtain ⟨en, ev⟩ := ht1.inj ht2
      subst en ev
      refine neSame (toldV ht1) (e14 _ _ hu1) hu2 ⟨_, rfl, iteF ?_⟩
      have e1214 := e13.trans e14
      have ho14 := e1214 _ _ ho12
      refine ⟨_, rfl, _, rfl, _, rfl, l, o, c, d, p, rfl, by omega, ho14, hc1, hcd, hdl, hp1, hpl, fun H15 u3 n3 v3 e15 ht3 hu3 => ?_⟩
      refine ⟨_, rfl, _, rfl, _, rfl, l, o, c, d, p, true, rfl, hl7, e15 _ _ ho14, hc1, hcd, hdl, hp1, hpl, fun H16 u4 n4 v4 e16 ht4 hu4 => ?_⟩
      obtain ⟨en, ev⟩ := ht3.inj ht4
      subst en ev
      refine neSame (toldV ht3) (e16 _ _ hu3) hu4 ⟨_, rfl, iteF ?_⟩
      exact ⟨_, rfl, ((e12.trans e1214).trans e15).trans e16⟩
    · rintro σ H12 ⟨y6, rfl, e12⟩
      refine ⟨_, rfl, l, 1, rfl, rfl, 1, l + 1, rfl, ⟨by decide, by decide, by omega, by omega⟩, fun C nC => ?_⟩
      refine lc_range (lo := 1) (n := (l + 1 - 1).toNat) (fun i H' => ∃ cs : List Int, Ex H12 H' ∧ H' C = some (.lst (cs.map V.int)) ∧ cs.length = i ∧ ∀ (j : Nat) (c : Int), cs[j]? = some c → ∃ k : Nat, c = (k : Int) ∧ LeastN false l 1 l (1 + (j : Int)) k)
        ⟨[], Ex.new nC, upd_same, rfl, fun j c z => (by simp at z)⟩ (fun j H15 hj ⟨cs, e15, hC, hcl, hcs⟩ => ?_) (fun H15 ⟨cs, e15, hC, hcl, hcs⟩ => ?_)
      · refine ⟨rfl, ?_⟩
        dsimp only [tYes]
        rw [if_pos rfl]
        refine ⟨_, rfl, _, rfl, by show 2 ≤ sizeLine; decide, fun z nz => ?_⟩
        have e16 : Ex H15 (upd H15 z (.tup [.int 1, .int l])) := Ex.new nz
        refine ⟨_, rfl, l, z, 1, l, 1 + (j : Int), false, rfl, hl7, upd_same, by omega, by omega, by omega, by omega, by omega, fun H17 u n v e17 ht hu => ?_⟩
        have hC17 := e17 _ _ (e16 _ _ hC)
        refine ⟨u, _, 0, .int (n : Nat), rfl, rfl, SqT.of hu, rfl, _, hC17, ?_, cs ++ [((n : Nat) : Int)], ((e15.trans e16).trans e17).mut nC, ?_, ?_, ?_⟩
        · rw [List.length_map, hcl]
          exact small1000 (by omega)
        · rw [upd_same, List.map_append]
          rfl
        · rw [List.length_append, hcl]
          rfl
        · intro j2 c hc
          by_cases hj2 : j2 < cs.length
          · rw [List.getElem?_append_left hj2] at hc
            exact hcs j2 c hc
          · rw [List.getElem?_append_right (by omega)] at hc
            have hj3 : j2 - cs.length = 0 := by
              have := (List.getElem?_eq_some_iff.mp hc).1
              simp at this
              omega
            rw [hj3] at hc
            have ec : ((n : Nat) : Int) = c := Option.some.inj hc
            exact ⟨n, ec.symm, by rw [show j2 = j by omega]; exact ht.least⟩
      · have hcl' : (cs.length : Int) = l := by omega
        have e1115 := e12.trans e15
        refine ⟨_, rfl, l, rfl, by omega, by omega, fun H16 u n v e16 hat hu => ?_⟩
        have hC16 := e16 _ _ hC
        have hpos : 0 < cs.length := by omega
        refine ⟨_, rfl, C, cs, rfl, SqL.of hC16, hpos, fun m hm hmin => ⟨1, m, rfl, rfl, ?_⟩⟩
        refine ⟨_, rfl, .inl ⟨rfl, _, SqL.of hC16⟩, _, rfl, C, cs, rfl, SqL.of hC16, hpos, fun m' hm' hmin' => ?_⟩
        have emm : m' = m := by
          have := hmin m' hm'
          have := hmin' m hm
          omega
        subst emm
        rcases id hat with ⟨z, _⟩ | ⟨_, mm, pp, rfl, rfl, hpp, hpm, hall, hfst⟩
        · omega
        have hji : (pp - 1).toNat < cs.length := by omega
        obtain ⟨kj, hkj, hkl⟩ := hcs _ _ (List.getElem?_eq_getElem hji)
        rw [show 1 + (((pp - 1).toNat : Nat) : Int) = pp by omega] at hkl
        have ekm : kj = mm := hkl.inj hpm
        have emk : m' = ((mm : Nat) : Int) := by
          obtain ⟨j2, hj2, hj2e⟩ := List.getElem_of_mem hm'
          obtain ⟨k2, hk2, hk2l⟩ := hcs j2 m' (by rw [List.getElem?_eq_getElem hj2, hj2e])
          have g1 := hall (1 + (j2 : Int)) (by omega) (by omega) k2 hk2l
          have g2 := hmin' _ (List.getElem_mem hji)
          omega
        have flat : (cs.map V.int).all flatV = true := flat_ints cs
        refine ⟨C, cs.map V.int, .int m', (pp - 1).toNat, .int m', rfl, rfl, SqL.of hC16, rfl, flat, ?_, ?_, ?_, ?_⟩
        · rw [List.getElem?_map, List.getElem?_eq_getElem hji, hkj, ekm, ← emk]
          rfl
        · show (m' == m') = true
          exact beq_self_eq_true m'
        · intro j2 z hj2 hz
          obtain ⟨c, hc, rfl⟩ := int_at hz
          obtain ⟨k2, hk2, hk2l⟩ := hcs j2 c hc
          have g1 := hfst (1 + (j2 : Int)) (by omega) (by omega) k2 hk2l
          show (c == m') = false
          rw [beq_eq_false_iff_ne]
          omega
        · refine ⟨1, _, rfl, rfl, by show 2 ≤ sizeLine; decide, fun T2 nT2 => ?_⟩
          have epp : (1 : Int) + (((pp - 1).toNat : Nat) : Int) = pp := by omega
          have emm1 : (1 : Int) + m' = (((mm + 1 : Nat)) : Int) := by omega
          dsimp only at nT2 ⊢
          rw [epp, emm1]
          have e17 : Ex H16 (upd H16 T2 (.tup [.int (((mm + 1 : Nat)) : Int), .int pp])) := Ex.new nT2
          refine neTT (ns := [(((mm + 1 : Nat)) : Int), pp]) (ms := [(((mm + 1 : Nat)) : Int), pp]) (SqT.of (e17 _ _ hu)) (SqT.of upd_same) ⟨_, rfl, ?_⟩
          rw [decide_eq_true rfl]
          refine iteF ?_
          have e1117 := (e1115.trans e16).trans e17
          generalize upd H16 T2 (.tup [.int (((mm + 1 : Nat)) : Int), .int pp]) = H17 at e1117 ⊢
          have B17 := B11.ex e1117
          have k117 := k111.trans (Kp.ex e1117)
          exact ⟨_, _, _, _, _, _, _, _, rfl, k117, B17⟩
  · rintro σ H2 ⟨x1, x2, x3, x4, x5, x6, x7, x8, rfl, k2, B2⟩
    refine ⟨1, rfl, by decide, by decide, fun H3 u n v e3 hat hu => ?_⟩
    have h1n : n = 0 ∧ v = .non := by
      rcases hat with ⟨_, z1, z2⟩ | ⟨z, _⟩
      · exact ⟨z1, z2⟩
      · omega
    obtain ⟨rfl, rfl⟩ := h1n
    refine ⟨by show 2 ≤ sizeLine; decide, fun z nz => ?_⟩
    refine eq0N ((Ex.new nz) _ _ hu) upd_same ⟨_, rfl, iteT ?_⟩
    refine ⟨2, rfl, by decide, by decide, fun H4 u4 n4 v4 e4 hat4 hu4 => ?_⟩
    obtain ⟨rfl, rfl⟩ := atall_by hat4 1 (by decide) (by decide +kernel) (by decide +kernel)
    refine ⟨by show 2 ≤ sizeLine; decide, fun z4 nz4 => ?_⟩
    refine eqTT (ns := [2, 1]) (ms := [2, 1]) (SqT.of ((Ex.new nz4) _ _ hu4)) (SqT.of upd_same) ⟨_, rfl, iteT ?_⟩
    refine ⟨3, rfl, by decide, by decide, fun H5 u5 n5 v5 e5 hat5 hu5 => ?_⟩
    obtain ⟨rfl, rfl⟩ := atall_by hat5 1 (by decide) (by decide +kernel) (by decide +kernel)
    refine ⟨by show 2 ≤ sizeLine; decide, fun z5 nz5 => ?_⟩
    refine eqTT (ns := [2, 1]) (ms := [2, 1]) (SqT.of ((Ex.new nz5) _ _ hu5)) (SqT.of upd_same) ?_
    rw [decide_eq_true rfl]
    exact q _
theorem len_law {K : PySem.W.Frag} {vs : List V} {H : Hp} {Q : VK} {E : XK} (h : sp_law K vs H Q E) : vs.length = 1 := by
  obtain ⟨a, ns, rfl, _⟩ := h
  rfl
def topS (i : Nat) : Stmt := PySem.Challenge.pw_warmcold_k06_going_on_by_all_ways.main.body.getD i (.Pass ⟨0, 0, 0, 0⟩)
abbrev s_is_whole : Stmt := topS 9
theorem sc_is_whole : FnScope N_is_whole ["value"] (defScope s_is_whole) := ⟨rfl, rfl, rfl, by decide +kernel, rfl, by decide +kernel, by decide +kernel⟩
abbrev s_is_place : Stmt := topS 10
theorem sc_is_place : FnScope N_is_place ["value", "length"] (defScope s_is_place) := ⟨rfl, rfl, rfl, by decide +kernel, rfl, by decide +kernel, by decide +kernel⟩
abbrev s_check_length : Stmt := topS 11
theorem sc_check_length : FnScope N_check_length ["length"] (defScope s_check_length) := ⟨rfl, rfl, rfl, by decide +kernel, rfl, by decide +kernel, by decide +kernel⟩
abbrev s_check_going_length : Stmt := topS 12
theorem sc_check_going_length : FnScope N_check_going_length ["length"] (defScope s_check_going_length) := ⟨rfl, rfl, rfl, by decide +kernel, rfl, by decide +kernel, by decide +kernel⟩
abbrev s_check_place : Stmt := topS 13
theorem sc_check_place : FnScope N_check_place ["place", "length"] (defScope s_check_place) := ⟨rfl, rfl, rfl, by decide +kernel, rfl, by decide +kernel, by decide +kernel⟩
abbrev s_check_stretch : Stmt := topS 14
theorem sc_check_stretch : FnScope N_check_stretch ["stretch", "length"] (defScope s_check_stretch) := ⟨rfl, rfl, rfl, by decide +kernel, rfl, by decide +kernel, by decide +kernel⟩
abbrev s_parts_of : Stmt := topS 16
theorem sc_parts_of : FnScope N_parts_of ["stretch", "earlier", "later"] (defScope s_parts_of) := ⟨rfl, rfl, rfl, by decide +kernel, rfl, by decide +kernel, by decide +kernel⟩
abbrev s_other_places : Stmt := topS 17
theorem sc_other_places : FnScope N_other_places ["length", "place"] (defScope s_other_places) := ⟨rfl, rfl, rfl, by decide +kernel, rfl, by decide +kernel, by decide +kernel⟩
abbrev s_stands_are_enough : Stmt := topS 18
theorem sc_stands_are_enough : FnScope N_stands_are_enough ["length", "stretch", "place", "many", "known"] (defScope s_stands_are_enough) := ⟨rfl, rfl, rfl, by decide +kernel, rfl, by decide +kernel, by decide +kernel⟩
abbrev s_first_onward : Stmt := topS 19
theorem sc_first_onward : FnScope N_first_onward ["length", "stretch", "place", "many", "known"] (defScope s_first_onward) := ⟨rfl, rfl, rfl, by decide +kernel, rfl, by decide +kernel, by decide +kernel⟩
abbrev s_stands_from : Stmt := topS 20
theorem sc_stands_from : FnScope N_stands_from ["length", "stretch", "place"] (defScope s_stands_from) := ⟨rfl, rfl, rfl, by decide +kernel, rfl, by decide +kernel, by decide +kernel⟩
abbrev s_stands_at_all : Stmt := topS 21
theorem sc_stands_at_all : FnScope N_stands_at_all ["length"] (defScope s_stands_at_all) := ⟨rfl, rfl, rfl, by decide +kernel, rfl, by decide +kernel, by decide +kernel⟩
abbrev s_least_steps : Stmt := topS 22
theorem sc_least_steps : FnScope N_least_steps ["stretch", "place"] (defScope s_least_steps) := ⟨rfl, rfl, rfl, by decide +kernel, rfl, by decide +kernel, by decide +kernel⟩
abbrev s_steps_by : Stmt := topS 23
theorem sc_steps_by : FnScope N_steps_by ["stretch", "place", "onward"] (defScope s_steps_by) := ⟨rfl, rfl, rfl, by decide +kernel, rfl, by decide +kernel, by decide +kernel⟩
abbrev s_steps_from : Stmt := topS 24
theorem sc_steps_from : FnScope N_steps_from ["length", "stretch", "place"] (defScope s_steps_from) := ⟨rfl, rfl, rfl, by decide +kernel, rfl, by decide +kernel, by decide +kernel⟩
abbrev s__law_cell_at : Stmt := topS 26
theorem sc__law_cell_at : FnScope N__law_cell_at ["script", "k"] (defScope s__law_cell_at) := ⟨rfl, rfl, rfl, by decide +kernel, rfl, by decide +kernel, by decide +kernel⟩
abbrev s__law_draws : Stmt := topS 27
theorem sc__law_draws : FnScope N__law_draws ["cell", "many", "size"] (defScope s__law_draws) := ⟨rfl, rfl, rfl, by decide +kernel, rfl, by decide +kernel, by decide +kernel⟩
abbrev s__law_bag : Stmt := topS 28
theorem sc__law_bag : FnScope N__law_bag ["script", "k"] (defScope s__law_bag) := ⟨rfl, rfl, rfl, by decide +kernel, rfl, by decide +kernel, by decide +kernel⟩
abbrev s__law_bags : Stmt := topS 29
theorem sc__law_bags : FnScope N__law_bags ["script", "limit"] (defScope s__law_bags) := ⟨rfl, rfl, rfl, by decide +kernel, rfl, by decide +kernel, by decide +kernel⟩
abbrev s__law_take : Stmt := topS 30
theorem sc__law_take : FnScope N__law_take ["bag", "many"] (defScope s__law_take) := ⟨rfl, rfl, rfl, by decide +kernel, rfl, by decide +kernel, by decide +kernel⟩
abbrev s__law_word : Stmt := topS 31
theorem sc__law_word : FnScope N__law_word ["far", "near"] (defScope s__law_word) := ⟨rfl, rfl, rfl, by decide +kernel, rfl, by decide +kernel, by decide +kernel⟩
abbrev s__law_cuts : Stmt := topS 32
theorem sc__law_cuts : FnScope N__law_cuts ["stretch", "place", "later"] (defScope s__law_cuts) := ⟨rfl, rfl, rfl, by decide +kernel, rfl, by decide +kernel, by decide +kernel⟩
abbrev s__law_enough : Stmt := topS 33
theorem sc__law_enough : FnScope N__law_enough ["known", "length", "stretch", "place", "spare", "steps"] (defScope s__law_enough) := ⟨rfl, rfl, rfl, by decide +kernel, rfl, by decide +kernel, by decide +kernel⟩
abbrev s__law_all_enough : Stmt := topS 34
theorem sc__law_all_enough : FnScope N__law_all_enough ["known", "length", "cuts", "place", "spare", "steps"] (defScope s__law_all_enough) := ⟨rfl, rfl, rfl, by decide +kernel, rfl, by decide +kernel, by decide +kernel⟩
abbrev s__law_due : Stmt := topS 35
theorem sc__law_due : FnScope N__law_due ["length", "stretch", "place", "steps"] (defScope s__law_due) := ⟨rfl, rfl, rfl, by decide +kernel, rfl, by decide +kernel, by decide +kernel⟩
abbrev s_law : Stmt := topS 36
theorem sc_law : FnScope N_law ["script"] (defScope s_law) := ⟨rfl, rfl, rfl, by decide +kernel, rfl, by decide +kernel, by decide +kernel⟩
structure Wd (K : PySem.W.Frag) (mg : Str → Option Value) : Prop where
  z_abs : mg "abs" = none
  z_all : mg "all" = none
  z_bool : mg "bool" = none
  z_int : mg "int" = none
  z_isinstance : mg "isinstance" = none
  z_len : mg "len" = none
  z_max : mg "max" = none
  z_min : mg "min" = none
  z_range : mg "range" = none
  z_tuple : mg "tuple" = none
  c_LONGEST_GOING : ∃ t, mg "LONGEST_GOING" = some (.int 16 t)
  c_LONGEST_PATH : ∃ t, mg "LONGEST_PATH" = some (.int 60 t)
section
variable {P : Program} {w : World} {K : PySem.W.Frag} {mg : Str → Option Value} {base : Heap}
theorem ok_is_whole {f : Addr} {fd : FuncData} (F : FnP K "is_whole" s_is_whole f fd) (W : Wd K mg)  : FnOk P w K mg base CX0 1 f fd ["value"] (sp_is_whole K) := by
  refine F.ok sc_is_whole (fun vs H Q E h => len_is_whole h) (fun cdv A outer s H vs Q E hr h => ⟨t_is_whole K, PSs.nox ?_, pure_is_whole h⟩)
  exact (pss_one (ps_ret (pe_and (pe_callB call_isi (by rfl) W.z_isinstance bb_isinstance (pa_cons (pv 0) (pa_cons (pe_bltn (v := .ty "int") (by rfl) W.z_int bt_int rfl) pa_nil))) (pe_one (pe_not (pe_callB call_isi (by rfl) W.z_isinstance bb_isinstance (pa_cons (pv 0) (pa_cons (pe_bltn (v := .ty "bool") (by rfl) W.z_bool bt_bool rfl) pa_nil))))))))
theorem ok_is_place {f : Addr} {fd : FuncData} (F : FnP K "is_place" s_is_place f fd) (W : Wd K mg) (O_is_whole : Own P w K mg base 1 "is_whole" ["value"] (sp_is_whole K)) : FnOk P w K mg base CX0 2 f fd ["value", "length"] (sp_is_place K) := by
  refine F.ok sc_is_place (fun vs H Q E h => len_is_place h) (fun cdv A outer s H vs Q E hr h => ⟨t_is_place K, PSs.nox ?_, pure_is_place h⟩)
  exact (pss_one (ps_ret (pe_and (pe_callO O_is_whole hr (by first | decide | omega) (by rfl) (pa_cons (pv 0) pa_nil)) (pe_one (pe_chain op_le op_le pe_int (pv 0) (pv 1))))))
theorem ok_check_length {f : Addr} {fd : FuncData} (F : FnP K "check_length" s_check_length f fd) (W : Wd K mg) (O_is_place : Own P w K mg base 2 "is_place" ["value", "length"] (sp_is_place K)) : FnOk P w K mg base CX0 3 f fd ["length"] (sp_check_length K) := by
  refine F.ok sc_check_length (fun vs H Q E h => len_check_length h) (fun cdv A outer s H vs Q E hr h => ⟨t_check_length K, PSs.nox ?_, pure_check_length h⟩)
  exact (pss_one (ps_if (pt_not (pt_val (pe_callO O_is_place hr (by first | decide | omega) (by rfl) (pa_cons (pv 0) (pa_cons (pe_glob (by rfl) W.c_LONGEST_PATH.choose_spec ⟨_, rfl⟩) pa_nil))))) (pss_one ps_never) pss_nil))
theorem ok_check_going_length {f : Addr} {fd : FuncData} (F : FnP K "check_going_length" s_check_going_length f fd) (W : Wd K mg) (O_check_length : Own P w K mg base 3 "check_length" ["length"] (sp_check_length K)) : FnOk P w K mg base CX0 4 f fd ["length"] (sp_check_going_length K) := by
  refine F.ok sc_check_going_length (fun vs H Q E h => len_check_going_length h) (fun cdv A outer s H vs Q E hr h => ⟨t_check_going_length K, PSs.nox ?_, pure_check_going_length h⟩)
  exact (pss_cons (ps_expr (pe_callO O_check_length hr (by first | decide | omega) (by rfl) (pa_cons (pv 0) pa_nil)))   (pss_one (ps_if (pt_cmpR op_gt (pv 0) (pe_glob (by rfl) W.c_LONGEST_GOING.choose_spec ⟨_, rfl⟩) (nomark _)) (pss_one ps_never) pss_nil)))
theorem ok_check_place {f : Addr} {fd : FuncData} (F : FnP K "check_place" s_check_place f fd) (W : Wd K mg) (O_is_place : Own P w K mg base 2 "is_place" ["value", "length"] (sp_is_place K)) : FnOk P w K mg base CX0 3 f fd ["place", "length"] (sp_check_place K) := by
  refine F.ok sc_check_place (fun vs H Q E h => len_check_place h) (fun cdv A outer s H vs Q E hr h => ⟨t_check_place K, PSs.nox ?_, pure_check_place h⟩)
  exact (pss_one (ps_if (pt_not (pt_val (pe_callO O_is_place hr (by first | decide | omega) (by rfl) (pa_cons (pv 0) (pa_cons (pv 1) pa_nil))))) (pss_one ps_never) pss_nil))
theorem ok_check_stretch {f : Addr} {fd : FuncData} (F : FnP K "check_stretch" s_check_stretch f fd) (W : Wd K mg) (O_is_place : Own P w K mg base 2 "is_place" ["value", "length"] (sp_is_place K)) : FnOk P w K mg base CX0 3 f fd ["stretch", "length"] (sp_check_stretch K) := by
  refine F.ok sc_check_stretch (fun vs H Q E h => len_check_stretch h) (fun cdv A outer s H vs Q E hr h => ⟨t_check_stretch K, PSs.nox ?_, pure_check_stretch h⟩)
  exact (pss_cons (ps_if (PW.pt (pw_or (pt_not (pt_val (pe_callB call_isi (by rfl) W.z_isinstance bb_isinstance (pa_cons (pv 0) (pa_cons (pe_bltn (v := .ty "tuple") (by rfl) W.z_tuple bt_tuple rfl) pa_nil))))) (pw_or1 (pt_cmpR op_ne (pe_callB call_len_seq (by rfl) W.z_len PySem.boot_len (pa_cons (pv 0) pa_nil)) pe_int (nomark _))))) (pss_one ps_never) pss_nil)   (pss_cons (ps_asg (pv 0) (pg_tup rfl (pgs_cons (pg_name (i := 2) sc_check_stretch.nd rfl (Or.inl rfl)) (pgs_cons (pg_name (i := 3) sc_check_stretch.nd rfl (Or.inl rfl)) pgs_nil))))   (pss_one (ps_if (PW.pt (pw_or (pt_not (pt_val (pe_callO O_is_place hr (by first | decide | omega) (by rfl) (pa_cons (pv 2) (pa_cons (pv 1) pa_nil))))) (pw_or (pt_not (pt_val (pe_callO O_is_place hr (by first | decide | omega) (by rfl) (pa_cons (pv 3) (pa_cons (pv 1) pa_nil))))) (pw_or1 (pt_cmpR op_gt (pv 2) (pv 3) (nomark _)))))) (pss_one ps_never) pss_nil))))
theorem ok_parts_of {f : Addr} {fd : FuncData} (F : FnP K "parts_of" s_parts_of f fd) (W : Wd K mg)  : FnOk P w K mg base CX0 1 f fd ["stretch", "earlier", "later"] (sp_parts_of K) := by
  refine F.ok sc_parts_of (fun vs H Q E h => len_parts_of h) (fun cdv A outer s H vs Q E hr h => ⟨t_parts_of K, PSs.nox ?_, pure_parts_of h⟩)
  exact (pss_cons (ps_asg (pv 0) (pg_tup rfl (pgs_cons (pg_name (i := 3) sc_parts_of.nd rfl (Or.inl rfl)) (pgs_cons (pg_name (i := 4) sc_parts_of.nd rfl (Or.inl rfl)) pgs_nil))))   (pss_cons (ps_set (i := 5) sc_parts_of.nd rfl (Or.inl rfl) (pe_op op_add (pv 1) (pv 2)))   (pss_cons (ps_set (i := 6) sc_parts_of.nd rfl (Or.inl rfl) (pe_tup (pa_cons (pv 3) (pa_cons (pe_callB (call_min2 rfl) (by rfl) W.z_min bb_min (pa_cons (pv 4) (pa_cons (pe_op op_fdiv (pe_op op_sub (pv 5) pe_int) pe_int) pa_nil))) pa_nil))))   (pss_cons (ps_set (i := 7) sc_parts_of.nd rfl (Or.inl rfl) (pe_tup (pa_cons (pe_callB (call_max2 rfl) (by rfl) W.z_max bb_max (pa_cons (pv 3) (pa_cons (pe_op op_fdiv (pe_op op_add (pv 5) pe_int) pe_int) pa_nil))) (pa_cons (pe_callB (call_min2 rfl) (by rfl) W.z_min bb_min (pa_cons (pv 4) (pa_cons (pe_op op_fdiv (pv 5) pe_int) pa_nil))) pa_nil))))   (pss_cons (ps_set (i := 8) sc_parts_of.nd rfl (Or.inl rfl) (pe_tup (pa_cons (pe_callB (call_max2 rfl) (by rfl) W.z_max bb_max (pa_cons (pv 3) (pa_cons (pe_op op_add (pe_op op_fdiv (pv 5) pe_int) pe_int) pa_nil))) (pa_cons (pv 4) pa_nil))))   (pss_one (ps_ret (pe_lc (own := [("part", 9)]) (g := (gName 9)) (tt := (tTest (tOp (rI0 fun i j => .bl (decide (i ≤ j))) (tOp (rIxT K) (tVar 9) (tC (.int 0))) (tOp (rIxT K) (tVar 9) (tC (.int 1)))))) (by rfl) sc_parts_of.nd (pi_tup (pe_tup (pa_cons (pv 6) (pa_cons (pv 7) (pa_cons (pv 8) pa_nil))))) (blkOk_by (own := [("part", 9)]) (N := N_parts_of) (sc := defScope s_parts_of) (by decide +kernel)) (fun _ _ _ _ _ => (pg_name (i := 9) sc_parts_of.nd rfl (Or.inl rfl))) (fun _ _ _ _ _ => (pts_one (pt_cmpR op_le (pe_ix ix_tup (pv 9) pe_int (fun _ _ => rfl)) (pe_ix ix_tup (pv 9) pe_int (fun _ _ => rfl)) (nomark _)))) (fun _ _ _ _ _ => (pv 9))))))))))
theorem ok_other_places {f : Addr} {fd : FuncData} (F : FnP K "other_places" s_other_places f fd) (W : Wd K mg)  : FnOk P w K mg base CX0 1 f fd ["length", "place"] (sp_other_places K) := by
  refine F.ok sc_other_places (fun vs H Q E h => len_other_places h) (fun cdv A outer s H vs Q E hr h => ⟨t_other_places K, PSs.nox ?_, pure_other_places h⟩)
  exact (pss_one (ps_ret (pe_lc (own := [("other", 2)]) (g := (gName 2)) (tt := (tTest (tOp rNe (tVar 2) (tVar 1)))) (by rfl) sc_other_places.nd (pi_range2 (by rfl) W.z_range (pa_cons pe_int (pa_cons (pe_op op_add (pv 0) pe_int) pa_nil))) (blkOk_by (own := [("other", 2)]) (N := N_other_places) (sc := defScope s_other_places) (by decide +kernel)) (fun _ _ _ _ _ => (pg_name (i := 2) sc_other_places.nd rfl (Or.inl rfl))) (fun _ _ _ _ _ => (pts_one (pt_cmpR op_ne (pv 2) (pv 1) (nomark _)))) (fun _ _ _ _ _ => (pv 2)))))
theorem ok_stands_are_enough {N : Nat} {f : Addr} {fd : FuncData} (F : FnP K "stands_are_enough" s_stands_are_enough f fd) (W : Wd K mg)  (O_first_onward : Own P w K mg base (1 + 2 + 2 * N) "first_onward" ["length", "stretch", "place", "many", "known"] (sp_first_onward K P w N)) : FnOk P w K mg base CX0 ((1 + 2 + 2 * N) + 1) f fd ["length", "stretch", "place", "many", "known"] (sp_stands_are_enough K P w (N + 1)) := by
  refine F.ok sc_stands_are_enough (fun vs H Q E h => len_stands_are_enough h) (fun cdv A outer s H vs Q E hr h => ⟨t_stands_are_enough K P w N, PSs.nox ?_, pure_stands_are_enough h⟩)
  exact (pss_cons (ps_asg (pv 1) (pg_tup rfl (pgs_cons (pg_name (i := 5) sc_stands_are_enough.nd rfl (Or.inl rfl)) (pgs_cons (pg_name (i := 6) sc_stands_are_enough.nd rfl (Or.inl rfl)) pgs_nil))))   (pss_cons (ps_if (pt_cmpR op_eq (pv 5) (pv 6) (nomark _)) (pss_one (ps_ret pe_bl)) pss_nil)   (pss_cons (ps_if (pt_cmpR op_ge (pe_op op_add (pe_op op_sub (pv 6) (pv 5)) pe_int) (pe_op op_shl pe_int (pv 3)) (nomark _)) (pss_one (ps_ret pe_bl)) pss_nil)   (pss_cons (ps_set (i := 7) sc_stands_are_enough.nd rfl (Or.inl rfl) (pe_tup (pa_cons (pv 5) (pa_cons (pv 6) (pa_cons (pv 2) (pa_cons (pv 3) pa_nil))))))   (Evl.pss_cut (ps_if (pt_cmpR (Fl.op_notInN (units65 hr)) (pv 7) (pv 4) rfl) (pss_one (Fl.ps_nput (units65 hr) (pv 4) (pv 7) (pe_cmpR op_notN (pe_callO O_first_onward hr (by first | decide | omega) (by rfl) (pa_cons (pv 0) (pa_cons (pv 1) (pa_cons (pv 2) (pa_cons (pv 3) (pa_cons (pv 4) pa_nil)))))) pe_non (nomark _)) (by rfl))) pss_nil)   (pss_one (ps_ret (Fl.pe_nget (units65 hr) (pv 4) (pv 7) (fun _ _ => rfl)))))))))
theorem ok0_stands_are_enough {f : Addr} {fd : FuncData} (F : FnP K "stands_are_enough" s_stands_are_enough f fd) : FnOk P w K mg base CX0 (1 + 1) f fd ["length", "stretch", "place", "many", "known"] (sp_stands_are_enough K P w 0) := F.ok sc_stands_are_enough (fun vs H Q E h => len_stands_are_enough h) (fun cdv A outer s H vs Q E hr h => (no_stands_are_enough h).elim)
theorem ok_first_onward {N : Nat} {f : Addr} {fd : FuncData} (F : FnP K "first_onward" s_first_onward f fd) (W : Wd K mg) (O_other_places : Own P w K mg base 1 "other_places" ["length", "place"] (sp_other_places K)) (O_parts_of : Own P w K mg base 1 "parts_of" ["stretch", "earlier", "later"] (sp_parts_of K)) (O_stands_are_enough : Own P w K mg base (1 + 1 + 2 * N) "stands_are_enough" ["length", "stretch", "place", "many", "known"] (sp_stands_are_enough K P w N)) : FnOk P w K mg base CX0 ((1 + 1 + 2 * N) + 1) f fd ["length", "stretch", "place", "many", "known"] (sp_first_onward K P w N) := by
  refine F.ok sc_first_onward (fun vs H Q E h => len_first_onward h) (fun cdv A outer s H vs Q E hr h => ⟨t_first_onward K P w N, PSs.nox ?_, pure_first_onward h⟩)
  exact (pss_cons (ps_for PassesOwn.never rfl (pi_list (pe_callO O_other_places hr (by first | decide | omega) (by rfl) (pa_cons (pv 0) (pa_cons (pv 2) pa_nil)))) (pg_name (i := 5) sc_first_onward.nd rfl (Or.inr rfl)) (pss_cons (ps_set (i := 6) sc_first_onward.nd rfl (Or.inl rfl) (pe_callO O_parts_of hr (by first | decide | omega) (by rfl) (pa_cons (pv 1) (pa_cons (pv 2) (pa_cons (pv 5) pa_nil)))))   (pss_one (ps_if (pt_val (pe_callB (cr_all rfl) (by rfl) W.z_all bb_all (pa_cons (pe_lc (own := [("part", 7)]) (g := (gName 7)) (tt := tYes) (by rfl) sc_first_onward.nd (pi_list (pv 6)) (blkOk_by (own := [("part", 7)]) (N := N_first_onward) (sc := defScope s_first_onward) (by decide +kernel)) (fun _ _ _ _ _ => (pg_name (i := 7) sc_first_onward.nd rfl (Or.inl rfl))) (fun _ _ _ _ _ => pts_nil) (fun _ _ _ _ _ => (pe_callO O_stands_are_enough hr (by first | decide | omega) (by rfl) (pa_cons (pv 0) (pa_cons (pv 7) (pa_cons (pv 5) (pa_cons (pe_op op_sub (pv 3) pe_int) (pa_cons (pv 4) pa_nil)))))))) pa_nil))) (pss_one (ps_ret (pv 5))) pss_nil))))   (pss_one (ps_ret pe_non)))
theorem ok_stands_from {f : Addr} {fd : FuncData} (F : FnP K "stands_from" s_stands_from f fd) (W : Wd K mg) (O_check_going_length : Own P w K mg base 4 "check_going_length" ["length"] (sp_check_going_length K)) (O_check_stretch : Own P w K mg base 3 "check_stretch" ["stretch", "length"] (sp_check_stretch K)) (O_check_place : Own P w K mg base 3 "check_place" ["place", "length"] (sp_check_place K)) (O_stands_are_enough : Own P w K mg base 82 "stands_are_enough" ["length", "stretch", "place", "many", "known"] (sp_stands_are_enough K P w 40)) (O_first_onward : Own P w K mg base 83 "first_onward" ["length", "stretch", "place", "many", "known"] (sp_first_onward K P w 40)) : FnOk P w K mg base CX0 84 f fd ["length", "stretch", "place"] (sp_stands_from K) := by
  refine F.ok sc_stands_from (fun vs H Q E h => len_stands_from h) (fun cdv A outer s H vs Q E hr h => ⟨t_stands_from K P w, PSs.nox ?_, pure_stands_from h⟩)
  exact (pss_cons (ps_expr (pe_callO O_check_going_length hr (by first | decide | omega) (by rfl) (pa_cons (pv 0) pa_nil)))   (pss_cons (ps_expr (pe_callO O_check_stretch hr (by first | decide | omega) (by rfl) (pa_cons (pv 1) (pa_cons (pv 0) pa_nil))))   (pss_cons (ps_expr (pe_callO O_check_place hr (by first | decide | omega) (by rfl) (pa_cons (pv 2) (pa_cons (pv 0) pa_nil))))   (pss_cons (ps_set (i := 3) sc_stands_from.nd rfl (Or.inl rfl) Fl.pe_nnew)   (pss_cons (ps_set (i := 4) sc_stands_from.nd rfl (Or.inl rfl) pe_int)   (pss_cons (ps_while PassesOwn.never (pt_not (pt_val (pe_callO O_stands_are_enough hr (by first | decide | omega) (by rfl) (pa_cons (pv 0) (pa_cons (pv 1) (pa_cons (pv 2) (pa_cons (pv 4) (pa_cons (pv 3) pa_nil)))))))) (pss_one (ps_aug (i := 4) sc_stands_from.nd rfl (Or.inl rfl) pe_int ip_add)))   (pss_cons (ps_if (pt_cmpR op_eq (pv 4) pe_int (nomark _)) (pss_one (ps_ret (pe_tup (pa_cons pe_int (pa_cons pe_non pa_nil))))) pss_nil)   (pss_one (ps_ret (pe_tup (pa_cons (pv 4) (pa_cons (pe_callO O_first_onward hr (by first | decide | omega) (by rfl) (pa_cons (pv 0) (pa_cons (pv 1) (pa_cons (pv 2) (pa_cons (pv 4) (pa_cons (pv 3) pa_nil)))))) pa_nil))))))))))))
theorem ok_stands_at_all {f : Addr} {fd : FuncData} (F : FnP K "stands_at_all" s_stands_at_all f fd) (W : Wd K mg) (O_check_going_length : Own P w K mg base 4 "check_going_length" ["length"] (sp_check_going_length K)) (O_stands_are_enough : Own P w K mg base 82 "stands_are_enough" ["length", "stretch", "place", "many", "known"] (sp_stands_are_enough K P w 40)) : FnOk P w K mg base CX0 83 f fd ["length"] (sp_stands_at_all K) := by
  refine F.ok sc_stands_at_all (fun vs H Q E h => len_stands_at_all h) (fun cdv A outer s H vs Q E hr h => ⟨t_stands_at_all K P w, PSs.nox ?_, pure_stands_at_all h⟩)
  exact (pss_cons (ps_expr (pe_callO O_check_going_length hr (by first | decide | omega) (by rfl) (pa_cons (pv 0) pa_nil)))   (pss_cons (ps_if (pt_cmpR op_eq (pv 0) pe_int (nomark _)) (pss_one (ps_ret (pe_tup (pa_cons pe_int (pa_cons pe_non pa_nil))))) pss_nil)   (pss_cons (ps_set (i := 1) sc_stands_at_all.nd rfl (Or.inl rfl) Fl.pe_nnew)   (pss_cons (ps_set (i := 2) sc_stands_at_all.nd rfl (Or.inl rfl) pe_int)   (pss_one (ps_while PassesOwn.never (pt_val pe_bl) (pss_cons (ps_aug (i := 2) sc_stands_at_all.nd rfl (Or.inl rfl) pe_int ip_add)   (pss_one (ps_for PassesOwn.never rfl (pi_range2 (by rfl) W.z_range (pa_cons pe_int (pa_cons (pe_op op_add (pv 0) pe_int) pa_nil))) (pg_name (i := 3) sc_stands_at_all.nd rfl (Or.inl rfl)) (pss_one (ps_if (pt_val (pe_callO O_stands_are_enough hr (by first | decide | omega) (by rfl) (pa_cons (pv 0) (pa_cons (pe_tup (pa_cons pe_int (pa_cons (pv 0) pa_nil))) (pa_cons (pv 3) (pa_cons (pv 2) (pa_cons (pv 1) pa_nil))))))) (pss_one (ps_ret (pe_tup (pa_cons (pe_op op_add (pv 2) pe_int) (pa_cons (pv 3) pa_nil))))) pss_nil)))))))))))
theorem ok_least_steps {f : Addr} {fd : FuncData} (F : FnP K "least_steps" s_least_steps f fd) (W : Wd K mg)  : FnOk P w K mg base CX0 1 f fd ["stretch", "place"] (sp_least_steps K) := by
  refine F.ok sc_least_steps (fun vs H Q E h => len_least_steps h) (fun cdv A outer s H vs Q E hr h => ⟨t_least_steps K, PSs.nox ?_, pure_least_steps h⟩)
  exact (pss_cons (ps_asg (pv 0) (pg_tup rfl (pgs_cons (pg_name (i := 2) sc_least_steps.nd rfl (Or.inl rfl)) (pgs_cons (pg_name (i := 3) sc_least_steps.nd rfl (Or.inl rfl)) pgs_nil))))   (pss_cons (ps_if (pt_cmpR op_eq (pv 2) (pv 3) (nomark _)) (pss_one (ps_ret pe_int)) pss_nil)   (pss_cons (ps_if (pt_cmpR op_le (pv 1) (pv 2) (nomark _)) (pss_one (ps_ret (pe_op op_sub (pv 3) (pv 1)))) pss_nil)   (pss_cons (ps_if (pt_cmpR op_ge (pv 1) (pv 3) (nomark _)) (pss_one (ps_ret (pe_op op_sub (pv 1) (pv 2)))) pss_nil)   (pss_cons (ps_set (i := 4) sc_least_steps.nd rfl (Or.inl rfl) (pe_callB (call_max2 rfl) (by rfl) W.z_max bb_max (pa_cons (pe_op op_sub (pv 3) (pv 1)) (pa_cons (pe_op op_add (pe_op op_sub (pv 1) (pv 2)) pe_int) pa_nil))))   (pss_cons (ps_set (i := 5) sc_least_steps.nd rfl (Or.inl rfl) (pe_callB (call_max2 rfl) (by rfl) W.z_max bb_max (pa_cons (pe_op op_sub (pv 1) (pv 2)) (pa_cons (pe_op op_add (pe_op op_sub (pv 3) (pv 1)) pe_int) pa_nil))))   (pss_one (ps_ret (pe_callB (call_min2 rfl) (by rfl) W.z_min bb_min (pa_cons (pv 4) (pa_cons (pv 5) pa_nil)))))))))))
theorem ok_steps_by {f : Addr} {fd : FuncData} (F : FnP K "steps_by" s_steps_by f fd) (W : Wd K mg) (O_parts_of : Own P w K mg base 1 "parts_of" ["stretch", "earlier", "later"] (sp_parts_of K)) (O_least_steps : Own P w K mg base 1 "least_steps" ["stretch", "place"] (sp_least_steps K)) : FnOk P w K mg base CX0 2 f fd ["stretch", "place", "onward"] (sp_steps_by K) := by
  refine F.ok sc_steps_by (fun vs H Q E h => len_steps_by h) (fun cdv A outer s H vs Q E hr h => ⟨t_steps_by K, PSs.nox ?_, pure_steps_by h⟩)
  exact (pss_cons (ps_set (i := 3) sc_steps_by.nd rfl (Or.inl rfl) (pe_callO O_parts_of hr (by first | decide | omega) (by rfl) (pa_cons (pv 0) (pa_cons (pv 1) (pa_cons (pv 2) pa_nil)))))   (pss_one (ps_ret (pe_op op_add (pe_callB call_abs (by rfl) W.z_abs bb_abs (pa_cons (pe_op op_sub (pv 2) (pv 1)) pa_nil)) (pe_callB (cr_max rfl) (by rfl) W.z_max bb_max (pa_cons (pe_lc (own := [("part", 4)]) (g := (gName 4)) (tt := tYes) (by rfl) sc_steps_by.nd (pi_list (pv 3)) (blkOk_by (own := [("part", 4)]) (N := N_steps_by) (sc := defScope s_steps_by) (by decide +kernel)) (fun _ _ _ _ _ => (pg_name (i := 4) sc_steps_by.nd rfl (Or.inl rfl))) (fun _ _ _ _ _ => pts_nil) (fun _ _ _ _ _ => (pe_callO O_least_steps hr (by first | decide | omega) (by rfl) (pa_cons (pv 4) (pa_cons (pv 2) pa_nil))))) pa_nil))))))
theorem ok_steps_from {f : Addr} {fd : FuncData} (F : FnP K "steps_from" s_steps_from f fd) (W : Wd K mg) (O_check_going_length : Own P w K mg base 4 "check_going_length" ["length"] (sp_check_going_length K)) (O_check_stretch : Own P w K mg base 3 "check_stretch" ["stretch", "length"] (sp_check_stretch K)) (O_check_place : Own P w K mg base 3 "check_place" ["place", "length"] (sp_check_place K)) (O_least_steps : Own P w K mg base 1 "least_steps" ["stretch", "place"] (sp_least_steps K)) (O_other_places : Own P w K mg base 1 "other_places" ["length", "place"] (sp_other_places K)) (O_steps_by : Own P w K mg base 2 "steps_by" ["stretch", "place", "onward"] (sp_steps_by K)) : FnOk P w K mg base CX0 5 f fd ["length", "stretch", "place"] (sp_steps_from K) := by
  refine F.ok sc_steps_from (fun vs H Q E h => len_steps_from h) (fun cdv A outer s H vs Q E hr h => ⟨t_steps_from K, PSs.nox ?_, pure_steps_from h⟩)
  exact (pss_cons (ps_expr (pe_callO O_check_going_length hr (by first | decide | omega) (by rfl) (pa_cons (pv 0) pa_nil)))   (pss_cons (ps_expr (pe_callO O_check_stretch hr (by first | decide | omega) (by rfl) (pa_cons (pv 1) (pa_cons (pv 0) pa_nil))))   (pss_cons (ps_expr (pe_callO O_check_place hr (by first | decide | omega) (by rfl) (pa_cons (pv 2) (pa_cons (pv 0) pa_nil))))   (pss_cons (ps_set (i := 3) sc_steps_from.nd rfl (Or.inr rfl) (pe_callO O_least_steps hr (by first | decide | omega) (by rfl) (pa_cons (pv 1) (pa_cons (pv 2) pa_nil))))   (pss_cons (ps_if (pt_cmpR op_eq (pv 3) pe_int (nomark _)) (pss_one (ps_ret (pe_tup (pa_cons pe_int (pa_cons pe_non pa_nil))))) pss_nil)   (pss_cons (ps_setLc (i := 4) (own := [("onward", 5)]) (g := (gName 5)) (tt := (tTest (tOp rEq (tCall (sp_steps_by K) [] E0 (tCons (tVar 1) (tCons (tVar 2) (tCons (tVar 5) tNil)))) (tVar 3)))) (by rfl) sc_steps_from.nd rfl rfl (sw_true rfl rfl rfl (by decide +kernel)) (pi_list (pe_callO O_other_places hr (by first | decide | omega) (by rfl) (pa_cons (pv 0) (pa_cons (pv 2) pa_nil)))) (blkOk_by (own := [("onward", 5)]) (N := N_steps_from) (sc := defScope s_steps_from) (by decide +kernel)) (fun _ _ _ _ _ => (pg_name (i := 5) sc_steps_from.nd rfl (Or.inl rfl))) (fun _ _ _ _ _ => (pts_one (pt_cmpR op_eq (pe_callO O_steps_by hr (by first | decide | omega) (by rfl) (pa_cons (pv 1) (pa_cons (pv 2) (pa_cons (pv 5) pa_nil)))) (pv 3) (nomark _)))) (fun _ _ _ _ _ => (pv 5)))   (pss_one (ps_ret (pe_tup (pa_cons (pv 3) (pa_cons (pe_ix ix_list (pv 4) pe_int (fun _ _ => rfl)) pa_nil)))))))))))
theorem ok__law_cell_at {f : Addr} {fd : FuncData} (F : FnP K "_law_cell_at" s__law_cell_at f fd) (W : Wd K mg)  : FnOk P w K mg base CX0 1 f fd ["script", "k"] (sp__law_cell_at K) := by
  refine F.ok sc__law_cell_at (fun vs H Q E h => len__law_cell_at h) (fun cdv A outer s H vs Q E hr h => ⟨t__law_cell_at K, PSs.nox ?_, pure__law_cell_at h⟩)
  exact (pss_cons (ps_if (pt_cmpR op_lt (pv 1) (pe_callB call_len_seq (by rfl) W.z_len PySem.boot_len (pa_cons (pv 0) pa_nil)) (nomark _)) (pss_one (ps_ret (pe_ix ix_list (pv 0) (pv 1) (fun _ _ => rfl)))) pss_nil)   (pss_one (ps_ret pe_int)))
theorem ok__law_draws {f : Addr} {fd : FuncData} (F : FnP K "_law_draws" s__law_draws f fd) (W : Wd K mg)  : FnOk P w K mg base CX0 1 f fd ["cell", "many", "size"] (sp__law_draws K) := by
  refine F.ok sc__law_draws (fun vs H Q E h => len__law_draws h) (fun cdv A outer s H vs Q E hr h => ⟨t__law_draws K, PSs.nox ?_, pure__law_draws h⟩)
  exact (pss_cons (ps_set (i := 3) sc__law_draws.nd rfl (Or.inl rfl) (pe_lst pa_nil))   (pss_cons (ps_set (i := 4) sc__law_draws.nd rfl (Or.inl rfl) (pe_op op_mul (pv 0) (pe_callTy call_int1 (by rfl) W.z_int bt_int (pa_cons (pe_cmpR op_ge (pv 0) (pe_op op_pow pe_int pe_int) (nomark _)) pa_nil))))   (pss_cons (ps_set (i := 5) sc__law_draws.nd rfl (Or.inl rfl) (pe_op op_mod (pv 0) pe_int))   (pss_cons (ps_for PassesOwn.never rfl (pi_range1 (by rfl) W.z_range (pa_cons (pe_op op_add (pv 1) pe_int) pa_nil)) (pg_name (i := 6) sc__law_draws.nd rfl (Or.inl rfl)) (pss_cons (ps_set (i := 5) sc__law_draws.nd rfl (Or.inl rfl) (pe_op op_mod (pe_op op_add (pe_op op_add (pe_op op_add (pe_op op_mul (pv 5) (pv 5)) (pe_op op_mul pe_int (pv 5))) (pv 6)) pe_int) pe_int))   (pss_one (ps_if (PW.pt (pw_and (pt_cmpR op_gt (pv 6) pe_int (nomark _)) (pw_and1 (pt_cmpR op_gt (pv 4) pe_int (nomark _))))) (pss_cons (ps_expr (pe_bm PySem.F.plainAttrs_list PySem.F.slot_list_append PySem.F.type_list_append mt_append (pv 3) (pa_cons (pe_op op_mod (pv 4) (pv 2)) pa_nil)))   (pss_one (ps_set (i := 4) sc__law_draws.nd rfl (Or.inl rfl) (pe_op op_fdiv (pv 4) (pv 2))))) (pss_one (ps_if (pt_cmpR op_gt (pv 6) pe_int (nomark _)) (pss_one (ps_expr (pe_bm PySem.F.plainAttrs_list PySem.F.slot_list_append PySem.F.type_list_append mt_append (pv 3) (pa_cons (pe_op op_mod (pe_op op_fdiv (pv 5) pe_int) (pv 2)) pa_nil)))) pss_nil))))))   (pss_one (ps_ret (pv 3)))))))
theorem ok__law_bag {f : Addr} {fd : FuncData} (F : FnP K "_law_bag" s__law_bag f fd) (W : Wd K mg) (O__law_draws : Own P w K mg base 1 "_law_draws" ["cell", "many", "size"] (sp__law_draws K)) (O__law_cell_at : Own P w K mg base 1 "_law_cell_at" ["script", "k"] (sp__law_cell_at K)) : FnOk P w K mg base CX0 2 f fd ["script", "k"] (sp__law_bag K) := by
  refine F.ok sc__law_bag (fun vs H Q E h => len__law_bag h) (fun cdv A outer s H vs Q E hr h => ⟨t__law_bag K, PSs.nox ?_, pure__law_bag h⟩)
  exact (pss_one (ps_ret (pe_lst (pa_cons (pe_callO O__law_draws hr (by first | decide | omega) (by rfl) (pa_cons (pe_callO O__law_cell_at hr (by first | decide | omega) (by rfl) (pa_cons (pv 0) (pa_cons (pv 1) pa_nil))) (pa_cons pe_int (pa_cons pe_int pa_nil)))) (pa_cons pe_int pa_nil)))))
theorem ok__law_bags {f : Addr} {fd : FuncData} (F : FnP K "_law_bags" s__law_bags f fd) (W : Wd K mg) (O__law_bag : Own P w K mg base 2 "_law_bag" ["script", "k"] (sp__law_bag K)) : FnOk P w K mg base CX0 3 f fd ["script", "limit"] (sp__law_bags K) := by
  refine F.ok sc__law_bags (fun vs H Q E h => len__law_bags h) (fun cdv A outer s H vs Q E hr h => ⟨t__law_bags K, PSs.nox ?_, pure__law_bags h⟩)
  exact (pss_one (ps_ret (pe_lc (own := [("k", 2)]) (g := (gName 2)) (tt := tYes) (by rfl) sc__law_bags.nd (pi_range1 (by rfl) W.z_range (pa_cons (pe_callB (call_max2 rfl) (by rfl) W.z_max bb_max (pa_cons pe_int (pa_cons (pe_callB (call_min2 rfl) (by rfl) W.z_min bb_min (pa_cons (pv 1) (pa_cons (pe_callB call_len_seq (by rfl) W.z_len PySem.boot_len (pa_cons (pv 0) pa_nil)) pa_nil))) pa_nil))) pa_nil)) (blkOk_by (own := [("k", 2)]) (N := N__law_bags) (sc := defScope s__law_bags) (by decide +kernel)) (fun _ _ _ _ _ => (pg_name (i := 2) sc__law_bags.nd rfl (Or.inl rfl))) (fun _ _ _ _ _ => pts_nil) (fun _ _ _ _ _ => (pe_callO O__law_bag hr (by first | decide | omega) (by rfl) (pa_cons (pv 0) (pa_cons (pv 2) pa_nil)))))))
theorem ok__law_take {f : Addr} {fd : FuncData} (F : FnP K "_law_take" s__law_take f fd) (W : Wd K mg)  : FnOk P w K mg base CX0 1 f fd ["bag", "many"] (sp__law_take K) := by
  refine F.ok sc__law_take (fun vs H Q E h => len__law_take h) (fun cdv A outer s H vs Q E hr h => ⟨t__law_take K, PSs.nox ?_, pure__law_take h⟩)
  exact (pss_cons (ps_asg (pe_op op_add (pe_ix ix_list (pv 0) pe_int (fun _ _ => rfl)) pe_int) (pg_sub (pv 0) pe_int set_list))   (pss_one (ps_ret (pe_op op_mod (pe_ix ix_list (pe_ix ix_list (pv 0) pe_int (fun _ _ => rfl)) (pe_op op_mod (pe_ix ix_list (pv 0) pe_int (fun _ _ => rfl)) (pe_callB call_len_seq (by rfl) W.z_len PySem.boot_len (pa_cons (pe_ix ix_list (pv 0) pe_int (fun _ _ => rfl)) pa_nil))) (fun _ _ => rfl)) (pv 1)))))
theorem ok__law_word {f : Addr} {fd : FuncData} (F : FnP K "_law_word" s__law_word f fd) (W : Wd K mg)  : FnOk P w K mg base CX0 1 f fd ["far", "near"] (sp__law_word K) := by
  refine F.ok sc__law_word (fun vs H Q E h => len__law_word h) (fun cdv A outer s H vs Q E hr h => ⟨t__law_word K, PSs.nox ?_, pure__law_word h⟩)
  exact (pss_cons (ps_if (pt_cmpR op_lt (pv 1) (pv 0) (nomark _)) (pss_one (ps_ret pe_str)) pss_nil)   (pss_one (ps_ret (pe_ifExp (pt_cmpR op_gt (pv 1) (pv 0) (nomark _)) pe_str pe_str))))
theorem ok__law_cuts {f : Addr} {fd : FuncData} (F : FnP K "_law_cuts" s__law_cuts f fd) (W : Wd K mg) (O__law_word : Own P w K mg base 1 "_law_word" ["far", "near"] (sp__law_word K)) : FnOk P w K mg base CX0 2 f fd ["stretch", "place", "later"] (sp__law_cuts K) := by
  refine F.ok sc__law_cuts (fun vs H Q E h => len__law_cuts h) (fun cdv A outer s H vs Q E hr h => ⟨t__law_cuts K, PSs.nox ?_, pure__law_cuts h⟩)
  exact (pss_cons (ps_set (i := 3) sc__law_cuts.nd rfl (Or.inl rfl) pe_dnewK)   (pss_cons (ps_for PassesOwn.never rfl (pi_range2 (by rfl) W.z_range (pa_cons (pe_ix ix_tup (pv 0) pe_int (fun _ _ => rfl)) (pa_cons (pe_op op_add (pe_ix ix_tup (pv 0) pe_int (fun _ _ => rfl)) pe_int) pa_nil))) (pg_name (i := 4) sc__law_cuts.nd rfl (Or.inl rfl)) (pss_cons (ps_set (i := 5) sc__law_cuts.nd rfl (Or.inl rfl) (pe_callO O__law_word hr (by first | decide | omega) (by rfl) (pa_cons (pe_callB call_abs (by rfl) W.z_abs bb_abs (pa_cons (pe_op op_sub (pv 4) (pv 1)) pa_nil)) (pa_cons (pe_callB call_abs (by rfl) W.z_abs bb_abs (pa_cons (pe_op op_sub (pv 4) (pv 2)) pa_nil)) pa_nil))))   (pss_one (ps_dput (hu_of hr) (pv 3) (pv 5) (pe_op op_cat (pe_dget2 (hu_of hr) (pv 3) (pv 5) (pe_lst pa_nil) ⟨by rfl, by rfl, by rfl, by rfl⟩) (pe_lst (pa_cons (pv 4) pa_nil))) (by rfl)))))   (pss_one (ps_ret (pe_lock (pe_lc (own := [("some", 6)]) (g := (gName 6)) (tt := tYes) (by rfl) sc__law_cuts.nd (pi_values (pv 3)) (blkOk_by (own := [("some", 6)]) (N := N__law_cuts) (sc := defScope s__law_cuts) (by decide +kernel)) (fun _ _ _ _ _ => (pg_name (i := 6) sc__law_cuts.nd rfl (Or.inl rfl))) (fun _ _ _ _ _ => pts_nil) (fun _ _ _ _ _ => (pe_tup (pa_cons (pe_ix ix_list (pv 6) pe_int (fun _ _ => rfl)) (pa_cons (pe_ix ix_list (pv 6) (pe_un un_neg pe_int) (fun _ _ => rfl)) pa_nil))))))))))
theorem ok__law_enough {N : Nat} {f : Addr} {fd : FuncData} (F : FnP K "_law_enough" s__law_enough f fd) (W : Wd K mg) (O__law_cuts : Own P w K mg base 2 "_law_cuts" ["stretch", "place", "later"] (sp__law_cuts K)) (O__law_all_enough : Own P w K mg base (2 + 2 + 2 * N) "_law_all_enough" ["known", "length", "cuts", "place", "spare", "steps"] (sp__law_all_enough K P w N)) : FnOk P w K mg base CX0 ((2 + 2 + 2 * N) + 1) f fd ["known", "length", "stretch", "place", "spare", "steps"] (sp__law_enough K P w (N + 1)) := by
  refine F.ok sc__law_enough (fun vs H Q E h => len__law_enough h) (fun cdv A outer s H vs Q E hr h => ⟨t__law_enough K P w N, PSs.nox ?_, pure__law_enough h⟩)
  exact (pss_cons (ps_if (pt_cmpR op_eq (pe_ix ix_tup (pv 2) pe_int (fun _ _ => rfl)) (pe_ix ix_tup (pv 2) pe_int (fun _ _ => rfl)) (nomark _)) (pss_one (ps_ret pe_bl)) pss_nil)   (pss_cons (ps_set (i := 6) sc__law_enough.nd rfl (Or.inl rfl) (pe_tup (pa_cons (pv 2) (pa_cons (pv 3) (pa_cons (pv 4) pa_nil)))))   (Evl.pss_cut (ps_if (pt_cmpR (op_notInN (units65 hr)) (pv 6) (pv 0) rfl) (pss_cons (ps_nput (units65 hr) (pv 0) (pv 6) pe_bl (by rfl))   (pss_one (ps_for PassesOwn.never rfl (pi_range2 (by rfl) W.z_range (pa_cons pe_int (pa_cons (pe_op op_add (pv 1) pe_int) pa_nil))) (pg_name (i := 7) sc__law_enough.nd rfl (Or.inl rfl)) (pss_cons (ps_set (i := 8) sc__law_enough.nd rfl (Or.inl rfl) (pe_ifExp (pt_val (pv 5)) (pe_callB call_abs (by rfl) W.z_abs bb_abs (pa_cons (pe_op op_sub (pv 3) (pv 7)) pa_nil)) pe_int))   (pss_one (ps_if (PW.pt (pw_and (pt_chain op_lt op_le pe_int (pv 8) (pv 4)) (pw_and1 (pt_not (pt_val (pe_nget (units65 hr) (pv 0) (pv 6) (fun _ _ => rfl))))))) (pss_cons (ps_set (i := 9) sc__law_enough.nd rfl (Or.inl rfl) (pe_callO O__law_cuts hr (by first | decide | omega) (by rfl) (pa_cons (pv 2) (pa_cons (pv 3) (pa_cons (pv 7) pa_nil)))))   (pss_one (ps_nput (units65 hr) (pv 0) (pv 6) (pe_callO O__law_all_enough hr (by first | decide | omega) (by rfl) (pa_cons (pv 0) (pa_cons (pv 1) (pa_cons (pv 9) (pa_cons (pv 7) (pa_cons (pe_op op_sub (pv 4) (pv 8)) (pa_cons (pv 5) pa_nil))))))) (by rfl)))) pss_nil)))))) pss_nil)   (pss_one (ps_ret (pe_nget (units65 hr) (pv 0) (pv 6) (fun _ _ => rfl)))))))
theorem ok0__law_enough {f : Addr} {fd : FuncData} (F : FnP K "_law_enough" s__law_enough f fd) : FnOk P w K mg base CX0 (2 + 1) f fd ["known", "length", "stretch", "place", "spare", "steps"] (sp__law_enough K P w 0) := F.ok sc__law_enough (fun vs H Q E h => len__law_enough h) (fun cdv A outer s H vs Q E hr h => (no__law_enough h).elim)
theorem ok__law_all_enough {N : Nat} {f : Addr} {fd : FuncData} (F : FnP K "_law_all_enough" s__law_all_enough f fd) (W : Wd K mg)  (O__law_enough : Own P w K mg base (2 + 1 + 2 * N) "_law_enough" ["known", "length", "stretch", "place", "spare", "steps"] (sp__law_enough K P w N)) : FnOk P w K mg base CX0 ((2 + 1 + 2 * N) + 1) f fd ["known", "length", "cuts", "place", "spare", "steps"] (sp__law_all_enough K P w N) := by
  refine F.ok sc__law_all_enough (fun vs H Q E h => len__law_all_enough h) (fun cdv A outer s H vs Q E hr h => ⟨t__law_all_enough K P w N, PSs.nox ?_, pure__law_all_enough h⟩)
  exact (pss_one (ps_ret (pe_callB (cr_all rfl) (by rfl) W.z_all bb_all (pa_cons (pe_lc (own := [("one", 6)]) (g := (gName 6)) (tt := tYes) (by rfl) sc__law_all_enough.nd (pi_list (pv 2)) (blkOk_by (own := [("one", 6)]) (N := N__law_all_enough) (sc := defScope s__law_all_enough) (by decide +kernel)) (fun _ _ _ _ _ => (pg_name (i := 6) sc__law_all_enough.nd rfl (Or.inl rfl))) (fun _ _ _ _ _ => pts_nil) (fun _ _ _ _ _ => (pe_callO O__law_enough hr (by first | decide | omega) (by rfl) (pa_cons (pv 0) (pa_cons (pv 1) (pa_cons (pv 6) (pa_cons (pv 3) (pa_cons (pv 4) (pa_cons (pv 5) pa_nil))))))))) pa_nil))))
theorem ok__law_due {f : Addr} {fd : FuncData} (F : FnP K "_law_due" s__law_due f fd) (W : Wd K mg) (O__law_enough : Own P w K mg base 83 "_law_enough" ["known", "length", "stretch", "place", "spare", "steps"] (sp__law_enough K P w 40)) (O__law_all_enough : Own P w K mg base 84 "_law_all_enough" ["known", "length", "cuts", "place", "spare", "steps"] (sp__law_all_enough K P w 40)) (O__law_cuts : Own P w K mg base 2 "_law_cuts" ["stretch", "place", "later"] (sp__law_cuts K)) : FnOk P w K mg base CX0 85 f fd ["length", "stretch", "place", "steps"] (sp__law_due K) := by
  refine F.ok sc__law_due (fun vs H Q E h => len__law_due h) (fun cdv A outer s H vs Q E hr h => ⟨t__law_due K P w, PSs.nox ?_, pure__law_due h⟩)
  exact (pss_cons (ps_par (i := 4) (j := 5) (by rfl) sc__law_due.nd rfl rfl (by decide) rfl rfl (pa_cons pe_nnew (pa_cons pe_int pa_nil)) (by rfl))   (pss_cons (ps_while PassesOwn.never (pt_not (pt_val (pe_callO O__law_enough hr (by first | decide | omega) (by rfl) (pa_cons (pv 4) (pa_cons (pv 0) (pa_cons (pv 1) (pa_cons (pv 2) (pa_cons (pv 5) (pa_cons (pv 3) pa_nil))))))))) (pss_one (ps_set (i := 5) sc__law_due.nd rfl (Or.inl rfl) (pe_op op_add (pv 5) pe_int))))   (pss_cons (ps_if (pt_cmpR op_eq (pv 5) pe_int (nomark _)) (pss_one (ps_ret (pe_tup (pa_cons pe_int (pa_cons pe_non pa_nil))))) pss_nil)   (pss_cons (ps_for PassesOwn.never rfl (pi_range2 (by rfl) W.z_range (pa_cons pe_int (pa_cons (pe_op op_add (pv 0) pe_int) pa_nil))) (pg_name (i := 6) sc__law_due.nd rfl (Or.inl rfl)) (pss_cons (ps_set (i := 7) sc__law_due.nd rfl (Or.inl rfl) (pe_ifExp (pt_val (pv 3)) (pe_callB call_abs (by rfl) W.z_abs bb_abs (pa_cons (pe_op op_sub (pv 2) (pv 6)) pa_nil)) pe_int))   (pss_one (ps_if (PW.pt (pw_and (pt_cmpR op_ne (pv 6) (pv 2) (nomark _)) (pw_and1 (pt_cmpR op_le (pv 7) (pv 5) (nomark _))))) (pss_one (ps_if (pt_val (pe_callO O__law_all_enough hr (by first | decide | omega) (by rfl) (pa_cons (pv 4) (pa_cons (pv 0) (pa_cons (pe_callO O__law_cuts hr (by first | decide | omega) (by rfl) (pa_cons (pv 1) (pa_cons (pv 2) (pa_cons (pv 6) pa_nil)))) (pa_cons (pv 6) (pa_cons (pe_op op_sub (pv 5) (pv 7)) (pa_cons (pv 3) pa_nil)))))))) (pss_one (ps_ret (pe_tup (pa_cons (pv 5) (pa_cons (pv 6) pa_nil))))) pss_nil)) pss_nil))))   (pss_one (ps_ret pe_non))))))
theorem ok_law {f : Addr} {fd : FuncData} (F : FnP K "law" s_law f fd) (W : Wd K mg) (O__law_bags : Own P w K mg base 3 "_law_bags" ["script", "limit"] (sp__law_bags K)) (O__law_take : Own P w K mg base 1 "_law_take" ["bag", "many"] (sp__law_take K)) (O_stands_from : Own P w K mg base 84 "stands_from" ["length", "stretch", "place"] (sp_stands_from K)) (O__law_due : Own P w K mg base 85 "_law_due" ["length", "stretch", "place", "steps"] (sp__law_due K)) (O_steps_from : Own P w K mg base 5 "steps_from" ["length", "stretch", "place"] (sp_steps_from K)) (O_stands_at_all : Own P w K mg base 83 "stands_at_all" ["length"] (sp_stands_at_all K)) : FnOk P w K mg base CX0 86 f fd ["script"] (sp_law K) := by
  refine F.ok sc_law (fun vs H Q E h => len_law h) (fun cdv A outer s H vs Q E hr h => ⟨t_law K, PSs.nox ?_, pure_law h⟩)
  exact (pss_cons (ps_for PassesOwn.never rfl (pi_list (pe_callO O__law_bags hr (by first | decide | omega) (by rfl) (pa_cons (pv 0) (pa_cons pe_int pa_nil)))) (pg_name (i := 1) sc_law.nd rfl (Or.inl rfl)) (pss_cons (ps_set (i := 2) sc_law.nd rfl (Or.inr rfl) (pe_op op_add pe_int (pe_callO O__law_take hr (by first | decide | omega) (by rfl) (pa_cons (pv 1) (pa_cons pe_int pa_nil)))))   (pss_cons (ps_set (i := 3) sc_law.nd rfl (Or.inl rfl) (pe_op op_add pe_int (pe_callO O__law_take hr (by first | decide | omega) (by rfl) (pa_cons (pv 1) (pa_cons (pv 2) pa_nil)))))   (pss_cons (ps_par (i := 4) (j := 5) (by rfl) sc_law.nd rfl rfl (by decide) rfl rfl (pa_cons (pe_tup (pa_cons (pv 3) (pa_cons (pe_op op_add (pv 3) (pe_callO O__law_take hr (by first | decide | omega) (by rfl) (pa_cons (pv 1) (pa_cons (pe_op op_sub (pe_op op_add (pv 2) pe_int) (pv 3)) pa_nil)))) pa_nil))) (pa_cons (pe_op op_add pe_int (pe_callO O__law_take hr (by first | decide | omega) (by rfl) (pa_cons (pv 1) (pa_cons (pv 2) pa_nil)))) pa_nil)) (by rfl))   (pss_cons (ps_for PassesOwn.never rfl (pi_tup (pe_tup (pa_cons (pv 4) (pa_cons (pe_tup (pa_cons pe_int (pa_cons (pv 2) pa_nil))) pa_nil)))) (pg_name (i := 6) sc_law.nd rfl (Or.inl rfl)) (pss_cons (ps_if (pt_cmpR (op_neD hr.units) (pe_callO O_stands_from hr (by first | decide | omega) (by rfl) (pa_cons (pv 2) (pa_cons (pv 6) (pa_cons (pv 5) pa_nil)))) (pe_callO O__law_due hr (by first | decide | omega) (by rfl) (pa_cons (pv 2) (pa_cons (pv 6) (pa_cons (pv 5) (pa_cons pe_bl pa_nil))))) (nomark _)) (pss_one (ps_ret pe_bl)) pss_nil)   (pss_one (ps_if (pt_cmpR (op_neD hr.units) (pe_callO O_steps_from hr (by first | decide | omega) (by rfl) (pa_cons (pv 2) (pa_cons (pv 6) (pa_cons (pv 5) pa_nil)))) (pe_callO O__law_due hr (by first | decide | omega) (by rfl) (pa_cons (pv 2) (pa_cons (pv 6) (pa_cons (pv 5) (pa_cons pe_bl pa_nil))))) (nomark _)) (pss_one (ps_ret pe_bl)) pss_nil))))   (pss_cons (ps_setLc (i := 7) (own := [("begin", 8)]) (g := (gName 8)) (tt := tYes) (by rfl) sc_law.nd rfl rfl (sw_true rfl rfl rfl (by decide +kernel)) (pi_range2 (by rfl) W.z_range (pa_cons pe_int (pa_cons (pe_op op_add (pv 2) pe_int) pa_nil))) (blkOk_by (own := [("begin", 8)]) (N := N_law) (sc := defScope s_law) (by decide +kernel)) (fun _ _ _ _ _ => (pg_name (i := 8) sc_law.nd rfl (Or.inl rfl))) (fun _ _ _ _ _ => pts_nil) (fun _ _ _ _ _ => (pe_ix ix_tup (pe_callO O__law_due hr (by first | decide | omega) (by rfl) (pa_cons (pv 2) (pa_cons (pe_tup (pa_cons pe_int (pa_cons (pv 2) pa_nil))) (pa_cons (pv 8) (pa_cons pe_bl pa_nil))))) pe_int (fun _ _ => rfl))))   (pss_one (ps_if (pt_cmpR (op_neD hr.units) (pe_callO O_stands_at_all hr (by first | decide | omega) (by rfl) (pa_cons (pv 2) pa_nil)) (pe_tup (pa_cons (pe_op op_add pe_int (pe_callB (cr_min rfl) (by rfl) W.z_min bb_min (pa_cons (pv 7) pa_nil))) (pa_cons (pe_op op_add pe_int (pe_bm PySem.F.plainAttrs_list PySem.F.slot_list_index PySem.F.type_list_index mt_index (pv 7) (pa_cons (pe_callB (cr_min rfl) (by rfl) W.z_min bb_min (pa_cons (pv 7) pa_nil)) pa_nil))) pa_nil))) (nomark _)) (pss_one (ps_ret pe_bl)) pss_nil))))))))   (pss_one (ps_ret (pe_and (pe_cmpR (op_eqD hr.units) (pe_callO O_stands_at_all hr (by first | decide | omega) (by rfl) (pa_cons pe_int pa_nil)) (pe_tup (pa_cons pe_int (pa_cons pe_non pa_nil))) (nomark _)) (pe_and (pe_cmpR (op_eqD hr.units) (pe_callO O_stands_at_all hr (by first | decide | omega) (by rfl) (pa_cons pe_int pa_nil)) (pe_tup (pa_cons pe_int (pa_cons pe_int pa_nil))) (nomark _)) (pe_one (pe_cmpR (op_eqD hr.units) (pe_callO O_stands_at_all hr (by first | decide | omega) (by rfl) (pa_cons pe_int pa_nil)) (pe_tup (pa_cons pe_int (pa_cons pe_int pa_nil))) (nomark _))))))))
end
def d_is_whole : He.DefD := ⟨("is_whole", none), "is_whole", "is_whole", defArgs s_is_whole, defBody s_is_whole, defScope s_is_whole, [], []⟩
def d_is_place : He.DefD := ⟨("is_place", none), "is_place", "is_place", defArgs s_is_place, defBody s_is_place, defScope s_is_place, [], []⟩
def d_check_length : He.DefD := ⟨("check_length", none), "check_length", "check_length", defArgs s_check_length, defBody s_check_length, defScope s_check_length, [], []⟩
def d_check_going_length : He.DefD := ⟨("check_going_length", none), "check_going_length", "check_going_length", defArgs s_check_going_length, defBody s_check_going_length, defScope s_check_going_length, [], []⟩
def d_check_place : He.DefD := ⟨("check_place", none), "check_place", "check_place", defArgs s_check_place, defBody s_check_place, defScope s_check_place, [], []⟩
def d_check_stretch : He.DefD := ⟨("check_stretch", none), "check_stretch", "check_stretch", defArgs s_check_stretch, defBody s_check_stretch, defScope s_check_stretch, [], []⟩
def d_parts_of : He.DefD := ⟨("parts_of", none), "parts_of", "parts_of", defArgs s_parts_of, defBody s_parts_of, defScope s_parts_of, [], []⟩
def d_other_places : He.DefD := ⟨("other_places", none), "other_places", "other_places", defArgs s_other_places, defBody s_other_places, defScope s_other_places, [], []⟩
def d_stands_are_enough : He.DefD := ⟨("stands_are_enough", none), "stands_are_enough", "stands_are_enough", defArgs s_stands_are_enough, defBody s_stands_are_enough, defScope s_stands_are_enough, [], []⟩
def d_first_onward : He.DefD := ⟨("first_onward", none), "first_onward", "first_onward", defArgs s_first_onward, defBody s_first_onward, defScope s_first_onward, [], []⟩
def d_stands_from : He.DefD := ⟨("stands_from", none), "stands_from", "stands_from", defArgs s_stands_from, defBody s_stands_from, defScope s_stands_from, [], []⟩
def d_stands_at_all : He.DefD := ⟨("stands_at_all", none), "stands_at_all", "stands_at_all", defArgs s_stands_at_all, defBody s_stands_at_all, defScope s_stands_at_all, [], []⟩
def d_least_steps : He.DefD := ⟨("least_steps", none), "least_steps", "least_steps", defArgs s_least_steps, defBody s_least_steps, defScope s_least_steps, [], []⟩
def d_steps_by : He.DefD := ⟨("steps_by", none), "steps_by", "steps_by", defArgs s_steps_by, defBody s_steps_by, defScope s_steps_by, [], []⟩
def d_steps_from : He.DefD := ⟨("steps_from", none), "steps_from", "steps_from", defArgs s_steps_from, defBody s_steps_from, defScope s_steps_from, [], []⟩
def d__law_cell_at : He.DefD := ⟨("_law_cell_at", none), "_law_cell_at", "_law_cell_at", defArgs s__law_cell_at, defBody s__law_cell_at, defScope s__law_cell_at, [], []⟩
def d__law_draws : He.DefD := ⟨("_law_draws", none), "_law_draws", "_law_draws", defArgs s__law_draws, defBody s__law_draws, defScope s__law_draws, [], []⟩
def d__law_bag : He.DefD := ⟨("_law_bag", none), "_law_bag", "_law_bag", defArgs s__law_bag, defBody s__law_bag, defScope s__law_bag, [], []⟩
def d__law_bags : He.DefD := ⟨("_law_bags", none), "_law_bags", "_law_bags", defArgs s__law_bags, defBody s__law_bags, defScope s__law_bags, [], []⟩
def d__law_take : He.DefD := ⟨("_law_take", none), "_law_take", "_law_take", defArgs s__law_take, defBody s__law_take, defScope s__law_take, [], []⟩
def d__law_word : He.DefD := ⟨("_law_word", none), "_law_word", "_law_word", defArgs s__law_word, defBody s__law_word, defScope s__law_word, [], []⟩
def d__law_cuts : He.DefD := ⟨("_law_cuts", none), "_law_cuts", "_law_cuts", defArgs s__law_cuts, defBody s__law_cuts, defScope s__law_cuts, [], []⟩
def d__law_enough : He.DefD := ⟨("_law_enough", none), "_law_enough", "_law_enough", defArgs s__law_enough, defBody s__law_enough, defScope s__law_enough, [], []⟩
def d__law_all_enough : He.DefD := ⟨("_law_all_enough", none), "_law_all_enough", "_law_all_enough", defArgs s__law_all_enough, defBody s__law_all_enough, defScope s__law_all_enough, [], []⟩
def d__law_due : He.DefD := ⟨("_law_due", none), "_law_due", "_law_due", defArgs s__law_due, defBody s__law_due, defScope s__law_due, [], []⟩
def d_law : He.DefD := ⟨("law", none), "law", "law", defArgs s_law, defBody s_law, defScope s_law, [], []⟩
def fn : List He.DefD := [d_is_whole, d_is_place, d_check_length, d_check_going_length, d_check_place, d_check_stretch, d_parts_of, d_other_places, d_stands_are_enough, d_first_onward, d_stands_from, d_stands_at_all, d_least_steps, d_steps_by, d_steps_from, d__law_cell_at, d__law_draws, d__law_bag, d__law_bags, d__law_take, d__law_word, d__law_cuts, d__law_enough, d__law_all_enough, d__law_due, d_law]
def fa : List He.Fa := [.glo "is_whole", .glo "is_place", .glo "check_length", .glo "check_going_length", .glo "check_place", .glo "check_stretch", .glo "parts_of", .glo "other_places", .glo "stands_are_enough", .glo "first_onward", .glo "stands_from", .glo "stands_at_all", .glo "least_steps", .glo "steps_by", .glo "steps_from", .glo "_law_cell_at", .glo "_law_draws", .glo "_law_bag", .glo "_law_bags", .glo "_law_take", .glo "_law_word", .glo "_law_cuts", .glo "_law_enough", .glo "_law_all_enough", .glo "_law_due", .glo "law", .free "abs", .free "all", .free "bool", .free "int", .free "isinstance", .free "len", .free "max", .free "min", .free "range", .free "tuple", .int "LONGEST_GOING" 16, .int "LONGEST_PATH" 60]
def loose : List PySem.Str := ((["SeekError", "NoLength", "NoPlace", "NoStretch", "TooLong", "LONGEST_PATH", "LONGEST_GOING", "is_whole", "is_place", "check_length", "check_going_length", "check_place", "check_stretch", "parts_of", "other_places", "stands_are_enough", "first_onward", "stands_from", "stands_at_all", "least_steps"] : List PySem.Str) ++ (["steps_by", "steps_from", "_law_cell_at", "_law_draws", "_law_bag", "_law_bags", "_law_take", "_law_word", "_law_cuts", "_law_enough", "_law_all_enough", "_law_due"] : List PySem.Str))
abbrev R : PySem.W.OpenRow := PySem.W.OpenLaw.row PySem.Challenge.rw_warmcold_k06_going_on_by_all_ways
def exB (K : PySem.W.Frag) : Bool := true
abbrev hk : PySem.W.Hook := hookY 4 fa fn exB
def ob (s : PySem.W.SharedT) : He.AlD × Bool := obsYG 4 fa fn exB (HandSHeadRun.getT s)
theorem ob_eq (s : PySem.W.SharedT) : ob s = hk.obs s.abs := obsYG_eq (HandSHeadRun.getT_eq s)
theorem run (w : World) : HandSHeadRun.RunEq R (PySem.W.view R.prog [36]) hk ob 4000 loose w := by
  intro os
  kernel_rfl
theorem facts {P : Program} {w : World} {K : PySem.W.Frag} {h : Heap} {mg : Str → Option Value} {f : Addr} (X : K.In h) (G : h.Ns mainGlobals mg) (hfa : mg ("law" : Str) = some (.ref f)) (c2 : SaysY fa fn exB K) :
    ∃ fd : FuncData, (∀ (s : Shared) (v : Value), BindsTo s fd ⟨[v], []⟩ [("script", v)]) ∧ ∀ base : Heap, K.In base → base.Ns mainGlobals mg → FnOk P w K mg base CX0 86 f fd ["script"] (sp_law K) := by
  have c := c2.1
  obtain ⟨fd_is_whole, F_is_whole⟩ := c.def_ 0 (d := d_is_whole) rfl
  obtain ⟨fd_is_place, F_is_place⟩ := c.def_ 1 (d := d_is_place) rfl
  obtain ⟨fd_check_length, F_check_length⟩ := c.def_ 2 (d := d_check_length) rfl
  obtain ⟨fd_check_going_length, F_check_going_length⟩ := c.def_ 3 (d := d_check_going_length) rfl
  obtain ⟨fd_check_place, F_check_place⟩ := c.def_ 4 (d := d_check_place) rfl
  obtain ⟨fd_check_stretch, F_check_stretch⟩ := c.def_ 5 (d := d_check_stretch) rfl
  obtain ⟨fd_parts_of, F_parts_of⟩ := c.def_ 6 (d := d_parts_of) rfl
  obtain ⟨fd_other_places, F_other_places⟩ := c.def_ 7 (d := d_other_places) rfl
  obtain ⟨fd_stands_are_enough, F_stands_are_enough⟩ := c.def_ 8 (d := d_stands_are_enough) rfl
  obtain ⟨fd_first_onward, F_first_onward⟩ := c.def_ 9 (d := d_first_onward) rfl
  obtain ⟨fd_stands_from, F_stands_from⟩ := c.def_ 10 (d := d_stands_from) rfl
  obtain ⟨fd_stands_at_all, F_stands_at_all⟩ := c.def_ 11 (d := d_stands_at_all) rfl
  obtain ⟨fd_least_steps, F_least_steps⟩ := c.def_ 12 (d := d_least_steps) rfl
  obtain ⟨fd_steps_by, F_steps_by⟩ := c.def_ 13 (d := d_steps_by) rfl
  obtain ⟨fd_steps_from, F_steps_from⟩ := c.def_ 14 (d := d_steps_from) rfl
  obtain ⟨fd__law_cell_at, F__law_cell_at⟩ := c.def_ 15 (d := d__law_cell_at) rfl
  obtain ⟨fd__law_draws, F__law_draws⟩ := c.def_ 16 (d := d__law_draws) rfl
  obtain ⟨fd__law_bag, F__law_bag⟩ := c.def_ 17 (d := d__law_bag) rfl
  obtain ⟨fd__law_bags, F__law_bags⟩ := c.def_ 18 (d := d__law_bags) rfl
  obtain ⟨fd__law_take, F__law_take⟩ := c.def_ 19 (d := d__law_take) rfl
  obtain ⟨fd__law_word, F__law_word⟩ := c.def_ 20 (d := d__law_word) rfl
  obtain ⟨fd__law_cuts, F__law_cuts⟩ := c.def_ 21 (d := d__law_cuts) rfl
  obtain ⟨fd__law_enough, F__law_enough⟩ := c.def_ 22 (d := d__law_enough) rfl
  obtain ⟨fd__law_all_enough, F__law_all_enough⟩ := c.def_ 23 (d := d__law_all_enough) rfl
  obtain ⟨fd__law_due, F__law_due⟩ := c.def_ 24 (d := d__law_due) rfl
  obtain ⟨fd_law, F_law⟩ := c.def_ 25 (d := d_law) rfl
  have W : Wd K mg := {
    z_abs := He.free_ok X G (c.fact 26 (f := .free "abs") rfl)
    z_all := He.free_ok X G (c.fact 27 (f := .free "all") rfl)
    z_bool := He.free_ok X G (c.fact 28 (f := .free "bool") rfl)
    z_int := He.free_ok X G (c.fact 29 (f := .free "int") rfl)
    z_isinstance := He.free_ok X G (c.fact 30 (f := .free "isinstance") rfl)
    z_len := He.free_ok X G (c.fact 31 (f := .free "len") rfl)
    z_max := He.free_ok X G (c.fact 32 (f := .free "max") rfl)
    z_min := He.free_ok X G (c.fact 33 (f := .free "min") rfl)
    z_range := He.free_ok X G (c.fact 34 (f := .free "range") rfl)
    z_tuple := He.free_ok X G (c.fact 35 (f := .free "tuple") rfl)
    c_LONGEST_GOING := He.int_ok X G (c.fact 36 (f := .int "LONGEST_GOING" 16) rfl)
    c_LONGEST_PATH := He.int_ok X G (c.fact 37 (f := .int "LONGEST_PATH" 60) rfl)
  }
  have e := hfa.symm.trans (He.glo_ok X G (c.fact 25 (f := .glo "law") rfl))
  cases e
  have bL := FunD.bindsA (ps := ["script"]) F_law fun _ _ _ _ _ _ us hl => match us, hl with | [_], _ => rfl
  refine ⟨fd_law, fun s v => bL s [v] rfl, fun base _ _ => ?_⟩
  have O_is_whole : Own P w K mg base 1 "is_whole" ["value"] (sp_is_whole K) := ⟨_, fd_is_whole, ok_is_whole F_is_whole W , He.glo_ok X G (c.fact 0 (f := .glo "is_whole") rfl), F_is_whole.kp, FunD.bindsN F_is_whole fun _ _ _ _ _ _ us hl => match us, hl with | [_], _ => rfl⟩
  have O_is_place : Own P w K mg base 2 "is_place" ["value", "length"] (sp_is_place K) := ⟨_, fd_is_place, ok_is_place F_is_place W O_is_whole, He.glo_ok X G (c.fact 1 (f := .glo "is_place") rfl), F_is_place.kp, FunD.bindsN F_is_place fun _ _ _ _ _ _ us hl => match us, hl with | [_, _], _ => rfl⟩
  have O_check_length : Own P w K mg base 3 "check_length" ["length"] (sp_check_length K) := ⟨_, fd_check_length, ok_check_length F_check_length W O_is_place, He.glo_ok X G (c.fact 2 (f := .glo "check_length") rfl), F_check_length.kp, FunD.bindsN F_check_length fun _ _ _ _ _ _ us hl => match us, hl with | [_], _ => rfl⟩
  have O_check_going_length : Own P w K mg base 4 "check_going_length" ["length"] (sp_check_going_length K) := ⟨_, fd_check_going_length, ok_check_going_length F_check_going_length W O_check_length, He.glo_ok X G (c.fact 3 (f := .glo "check_going_length") rfl), F_check_going_length.kp, FunD.bindsN F_check_going_length fun _ _ _ _ _ _ us hl => match us, hl with | [_], _ => rfl⟩
  have O_check_place : Own P w K mg base 3 "check_place" ["place", "length"] (sp_check_place K) := ⟨_, fd_check_place, ok_check_place F_check_place W O_is_place, He.glo_ok X G (c.fact 4 (f := .glo "check_place") rfl), F_check_place.kp, FunD.bindsN F_check_place fun _ _ _ _ _ _ us hl => match us, hl with | [_, _], _ => rfl⟩
  have O_check_stretch : Own P w K mg base 3 "check_stretch" ["stretch", "length"] (sp_check_stretch K) := ⟨_, fd_check_stretch, ok_check_stretch F_check_stretch W O_is_place, He.glo_ok X G (c.fact 5 (f := .glo "check_stretch") rfl), F_check_stretch.kp, FunD.bindsN F_check_stretch fun _ _ _ _ _ _ us hl => match us, hl with | [_, _], _ => rfl⟩
  have O_parts_of : Own P w K mg base 1 "parts_of" ["stretch", "earlier", "later"] (sp_parts_of K) := ⟨_, fd_parts_of, ok_parts_of F_parts_of W , He.glo_ok X G (c.fact 6 (f := .glo "parts_of") rfl), F_parts_of.kp, FunD.bindsN F_parts_of fun _ _ _ _ _ _ us hl => match us, hl with | [_, _, _], _ => rfl⟩
  have O_other_places : Own P w K mg base 1 "other_places" ["length", "place"] (sp_other_places K) := ⟨_, fd_other_places, ok_other_places F_other_places W , He.glo_ok X G (c.fact 7 (f := .glo "other_places") rfl), F_other_places.kp, FunD.bindsN F_other_places fun _ _ _ _ _ _ us hl => match us, hl with | [_, _], _ => rfl⟩
  have rec_stands_are_enough : ∀ N : Nat, Own P w K mg base (1 + 1 + 2 * N) "stands_are_enough" ["length", "stretch", "place", "many", "known"] (sp_stands_are_enough K P w N) ∧ Own P w K mg base (1 + 2 + 2 * N) "first_onward" ["length", "stretch", "place", "many", "known"] (sp_first_onward K P w N) := by
    have stepB : ∀ N : Nat, Own P w K mg base (1 + 1 + 2 * N) "stands_are_enough" ["length", "stretch", "place", "many", "known"] (sp_stands_are_enough K P w N) → Own P w K mg base (1 + 2 + 2 * N) "first_onward" ["length", "stretch", "place", "many", "known"] (sp_first_onward K P w N) := fun N oA => by
      have e : 1 + 2 + 2 * N = (1 + 1 + 2 * N) + 1 := by omega
      rw [e]
      exact ⟨_, fd_first_onward, ok_first_onward F_first_onward W O_other_places O_parts_of oA, He.glo_ok X G (c.fact 9 (f := .glo "first_onward") rfl), F_first_onward.kp, FunD.bindsN F_first_onward fun _ _ _ _ _ _ us hl => match us, hl with | [_, _, _, _, _], _ => rfl⟩
    intro N
    induction N with
    | zero =>
      have oA : Own P w K mg base (1 + 1 + 2 * 0) "stands_are_enough" ["length", "stretch", "place", "many", "known"] (sp_stands_are_enough K P w 0) := ⟨_, fd_stands_are_enough, ok0_stands_are_enough F_stands_are_enough, He.glo_ok X G (c.fact 8 (f := .glo "stands_are_enough") rfl), F_stands_are_enough.kp, FunD.bindsN F_stands_are_enough fun _ _ _ _ _ _ us hl => match us, hl with | [_, _, _, _, _], _ => rfl⟩
      exact ⟨oA, stepB 0 oA⟩
    | succ N ih =>
      have oA : Own P w K mg base (1 + 1 + 2 * (N + 1)) "stands_are_enough" ["length", "stretch", "place", "many", "known"] (sp_stands_are_enough K P w (N + 1)) := by
        have e : 1 + 1 + 2 * (N + 1) = (1 + 2 + 2 * N) + 1 := by omega
        rw [e]
        exact ⟨_, fd_stands_are_enough, ok_stands_are_enough F_stands_are_enough W  ih.2, He.glo_ok X G (c.fact 8 (f := .glo "stands_are_enough") rfl), F_stands_are_enough.kp, FunD.bindsN F_stands_are_enough fun _ _ _ _ _ _ us hl => match us, hl with | [_, _, _, _, _], _ => rfl⟩
      exact ⟨oA, stepB (N + 1) oA⟩
  have O_stands_are_enough : Own P w K mg base 82 "stands_are_enough" ["length", "stretch", "place", "many", "known"] (sp_stands_are_enough K P w 40) := (rec_stands_are_enough 40).1
  have O_first_onward : Own P w K mg base 83 "first_onward" ["length", "stretch", "place", "many", "known"] (sp_first_onward K P w 40) := (rec_stands_are_enough 40).2
  have O_stands_from : Own P w K mg base 84 "stands_from" ["length", "stretch", "place"] (sp_stands_from K) := ⟨_, fd_stands_from, ok_stands_from F_stands_from W O_check_going_length O_check_stretch O_check_place O_stands_are_enough O_first_onward, He.glo_ok X G (c.fact 10 (f := .glo "stands_from") rfl), F_stands_from.kp, FunD.bindsN F_stands_from fun _ _ _ _ _ _ us hl => match us, hl with | [_, _, _], _ => rfl⟩
  have O_stands_at_all : Own P w K mg base 83 "stands_at_all" ["length"] (sp_stands_at_all K) := ⟨_, fd_stands_at_all, ok_stands_at_all F_stands_at_all W O_check_going_length O_stands_are_enough, He.glo_ok X G (c.fact 11 (f := .glo "stands_at_all") rfl), F_stands_at_all.kp, FunD.bindsN F_stands_at_all fun _ _ _ _ _ _ us hl => match us, hl with | [_], _ => rfl⟩
  have O_least_steps : Own P w K mg base 1 "least_steps" ["stretch", "place"] (sp_least_steps K) := ⟨_, fd_least_steps, ok_least_steps F_least_steps W , He.glo_ok X G (c.fact 12 (f := .glo "least_steps") rfl), F_least_steps.kp, FunD.bindsN F_least_steps fun _ _ _ _ _ _ us hl => match us, hl with | [_, _], _ => rfl⟩
  have O_steps_by : Own P w K mg base 2 "steps_by" ["stretch", "place", "onward"] (sp_steps_by K) := ⟨_, fd_steps_by, ok_steps_by F_steps_by W O_parts_of O_least_steps, He.glo_ok X G (c.fact 13 (f := .glo "steps_by") rfl), F_steps_by.kp, FunD.bindsN F_steps_by fun _ _ _ _ _ _ us hl => match us, hl with | [_, _, _], _ => rfl⟩
  have O_steps_from : Own P w K mg base 5 "steps_from" ["length", "stretch", "place"] (sp_steps_from K) := ⟨_, fd_steps_from, ok_steps_from F_steps_from W O_check_going_length O_check_stretch O_check_place O_least_steps O_other_places O_steps_by, He.glo_ok X G (c.fact 14 (f := .glo "steps_from") rfl), F_steps_from.kp, FunD.bindsN F_steps_from fun _ _ _ _ _ _ us hl => match us, hl with | [_, _, _], _ => rfl⟩
  have O__law_cell_at : Own P w K mg base 1 "_law_cell_at" ["script", "k"] (sp__law_cell_at K) := ⟨_, fd__law_cell_at, ok__law_cell_at F__law_cell_at W , He.glo_ok X G (c.fact 15 (f := .glo "_law_cell_at") rfl), F__law_cell_at.kp, FunD.bindsN F__law_cell_at fun _ _ _ _ _ _ us hl => match us, hl with | [_, _], _ => rfl⟩
  have O__law_draws : Own P w K mg base 1 "_law_draws" ["cell", "many", "size"] (sp__law_draws K) := ⟨_, fd__law_draws, ok__law_draws F__law_draws W , He.glo_ok X G (c.fact 16 (f := .glo "_law_draws") rfl), F__law_draws.kp, FunD.bindsN F__law_draws fun _ _ _ _ _ _ us hl => match us, hl with | [_, _, _], _ => rfl⟩
  have O__law_bag : Own P w K mg base 2 "_law_bag" ["script", "k"] (sp__law_bag K) := ⟨_, fd__law_bag, ok__law_bag F__law_bag W O__law_draws O__law_cell_at, He.glo_ok X G (c.fact 17 (f := .glo "_law_bag") rfl), F__law_bag.kp, FunD.bindsN F__law_bag fun _ _ _ _ _ _ us hl => match us, hl with | [_, _], _ => rfl⟩
  have O__law_bags : Own P w K mg base 3 "_law_bags" ["script", "limit"] (sp__law_bags K) := ⟨_, fd__law_bags, ok__law_bags F__law_bags W O__law_bag, He.glo_ok X G (c.fact 18 (f := .glo "_law_bags") rfl), F__law_bags.kp, FunD.bindsN F__law_bags fun _ _ _ _ _ _ us hl => match us, hl with | [_, _], _ => rfl⟩
  have O__law_take : Own P w K mg base 1 "_law_take" ["bag", "many"] (sp__law_take K) := ⟨_, fd__law_take, ok__law_take F__law_take W , He.glo_ok X G (c.fact 19 (f := .glo "_law_take") rfl), F__law_take.kp, FunD.bindsN F__law_take fun _ _ _ _ _ _ us hl => match us, hl with | [_, _], _ => rfl⟩
  have O__law_word : Own P w K mg base 1 "_law_word" ["far", "near"] (sp__law_word K) := ⟨_, fd__law_word, ok__law_word F__law_word W , He.glo_ok X G (c.fact 20 (f := .glo "_law_word") rfl), F__law_word.kp, FunD.bindsN F__law_word fun _ _ _ _ _ _ us hl => match us, hl with | [_, _], _ => rfl⟩
  have O__law_cuts : Own P w K mg base 2 "_law_cuts" ["stretch", "place", "later"] (sp__law_cuts K) := ⟨_, fd__law_cuts, ok__law_cuts F__law_cuts W O__law_word, He.glo_ok X G (c.fact 21 (f := .glo "_law_cuts") rfl), F__law_cuts.kp, FunD.bindsN F__law_cuts fun _ _ _ _ _ _ us hl => match us, hl with | [_, _, _], _ => rfl⟩
  have rec__law_enough : ∀ N : Nat, Own P w K mg base (2 + 1 + 2 * N) "_law_enough" ["known", "length", "stretch", "place", "spare", "steps"] (sp__law_enough K P w N) ∧ Own P w K mg base (2 + 2 + 2 * N) "_law_all_enough" ["known", "length", "cuts", "place", "spare", "steps"] (sp__law_all_enough K P w N) := by
    have stepB : ∀ N : Nat, Own P w K mg base (2 + 1 + 2 * N) "_law_enough" ["known", "length", "stretch", "place", "spare", "steps"] (sp__law_enough K P w N) → Own P w K mg base (2 + 2 + 2 * N) "_law_all_enough" ["known", "length", "cuts", "place", "spare", "steps"] (sp__law_all_enough K P w N) := fun N oA => by
      have e : 2 + 2 + 2 * N = (2 + 1 + 2 * N) + 1 := by omega
      rw [e]
      exact ⟨_, fd__law_all_enough, ok__law_all_enough F__law_all_enough W  oA, He.glo_ok X G (c.fact 23 (f := .glo "_law_all_enough") rfl), F__law_all_enough.kp, FunD.bindsN F__law_all_enough fun _ _ _ _ _ _ us hl => match us, hl with | [_, _, _, _, _, _], _ => rfl⟩
    intro N
    induction N with
    | zero =>
      have oA : Own P w K mg base (2 + 1 + 2 * 0) "_law_enough" ["known", "length", "stretch", "place", "spare", "steps"] (sp__law_enough K P w 0) := ⟨_, fd__law_enough, ok0__law_enough F__law_enough, He.glo_ok X G (c.fact 22 (f := .glo "_law_enough") rfl), F__law_enough.kp, FunD.bindsN F__law_enough fun _ _ _ _ _ _ us hl => match us, hl with | [_, _, _, _, _, _], _ => rfl⟩
      exact ⟨oA, stepB 0 oA⟩
    | succ N ih =>
      have oA : Own P w K mg base (2 + 1 + 2 * (N + 1)) "_law_enough" ["known", "length", "stretch", "place", "spare", "steps"] (sp__law_enough K P w (N + 1)) := by
        have e : 2 + 1 + 2 * (N + 1) = (2 + 2 + 2 * N) + 1 := by omega
        rw [e]
        exact ⟨_, fd__law_enough, ok__law_enough F__law_enough W O__law_cuts ih.2, He.glo_ok X G (c.fact 22 (f := .glo "_law_enough") rfl), F__law_enough.kp, FunD.bindsN F__law_enough fun _ _ _ _ _ _ us hl => match us, hl with | [_, _, _, _, _, _], _ => rfl⟩
      exact ⟨oA, stepB (N + 1) oA⟩
  have O__law_enough : Own P w K mg base 83 "_law_enough" ["known", "length", "stretch", "place", "spare", "steps"] (sp__law_enough K P w 40) := (rec__law_enough 40).1
  have O__law_all_enough : Own P w K mg base 84 "_law_all_enough" ["known", "length", "cuts", "place", "spare", "steps"] (sp__law_all_enough K P w 40) := (rec__law_enough 40).2
  have O__law_due : Own P w K mg base 85 "_law_due" ["length", "stretch", "place", "steps"] (sp__law_due K) := ⟨_, fd__law_due, ok__law_due F__law_due W O__law_enough O__law_all_enough O__law_cuts, He.glo_ok X G (c.fact 24 (f := .glo "_law_due") rfl), F__law_due.kp, FunD.bindsN F__law_due fun _ _ _ _ _ _ us hl => match us, hl with | [_, _, _, _], _ => rfl⟩
  exact ok_law F_law W O__law_bags O__law_take O_stands_from O__law_due O_steps_from O_stands_at_all
end Wc
open PySem PySem.W PySem.Calls PyProof.Rows
set_option maxRecDepth 100000 in
set_option maxHeartbeats 0 in
theorem PySem.Challenge.cw_warmcold_k06_going_on_by_all_ways_holds : PySem.Challenge.rw_warmcold_k06_going_on_by_all_ways.Holds := by
  w_on; o_law
  refine HandSHeadRun.head_any (r := OpenLaw.row PySem.Challenge.rw_warmcold_k06_going_on_by_all_ways) (q := view (OpenLaw.row PySem.Challenge.rw_warmcold_k06_going_on_by_all_ways).prog [36]) (H := Wc.hk) (ob := Wc.ob) (M := 4000) (loose := Wc.loose) (d := HandSHeadRun.topDef (OpenLaw.row PySem.Challenge.rw_warmcold_k06_going_on_by_all_ways).prog 36) (kwd := []) Wc.ob_eq (by kernel_rfl) (fun s => by kernel_rfl) Wc.run (by kernel_rfl) (by kernel_rfl) (by kernel_rfl) (by rfl) (by first | assumption | decide +kernel) (by decide +kernel) ⟨rfl, rfl, rfl, rfl, rfl, by decide +kernel⟩ ?hw ?hc
  case hw => w_witness2
  case hc =>
    refine L2.walk_ofE (l := PySem.Challenge.rw_warmcold_k06_going_on_by_all_ways) (n := 63) (k := 86) (x := "script") (CX := L2.CX0) rfl (by decide) (by kernel_rfl) ⟨rfl, by decide, by decide⟩ ?F (fun _ _ _ _ z => z)
    intro w mg fa h Y G hmg0
    obtain ⟨K, KX, c⟩ := Y
    have hmg : mg ("law" : PySem.Str) = some (.ref fa) := by
      have e : (HandSHeadRun.topDef (OpenLaw.row PySem.Challenge.rw_warmcold_k06_going_on_by_all_ways).prog 36).name = ("law" : PySem.Str) := by kernel_rfl
      rw [← e]
      exact hmg0
    obtain ⟨fd, hb, hF⟩ := Wc.facts (P := (PySem.Challenge.rw_warmcold_k06_going_on_by_all_ways).prog) (w := w) KX G hmg c
    exact ⟨K, fd, Wc.sp_law K, KX, hb, fun H a ns hl _ hS => ⟨a, ns, rfl, hS, hl, fun _ => rfl⟩, hF⟩
