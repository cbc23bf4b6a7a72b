import PyProof.Rows.All
import Wide.All
import OpenK.AllK
import Wide.FinOn
import KE.KStateDown
import HandS.ForMost
import HandS.Defaults
import HandS.IsInst
import HandS.Conv
import HandS.Style
import HandS.Evl
import HandS.Head0
import HandS.Head1
import HandS.Head2
import HandS.HeadEnd
import HandS.HeadHook1
import HandS.HeadHook2
import KE.KRevSl
import HandS.TupSets
import HandS.Deep
import HandS.TupAny
import KE.DatumOrd
import PyProof.Rows.RowBridgeK
import HandS.Walk
import KE.KeyNested
import PySem.Challenge.RW_warmcold_k02_where_the_thing_can_lie
set_option Elab.async false
set_option linter.all false
set_option maxRecDepth 100000
set_option maxHeartbeats 2000000
namespace Wc
open PySem PySem.Spec PyProof.Rows L2
open Evl (Ex ex_l ex_t fresh_back)
/-! ### own defs by their promises -/
structure Own (P : Program) (w : World) (K : PySem.W.Frag) (mg : Str → Option Value) (base : Heap) (k : Nat) (x : Str) (ps : List Str) (sp : Sp) : Prop where
  ex : ∃ (f : Addr) (fd : FuncData), FnOk P w K mg base CX0 k f fd ps sp ∧ mg x = some (.ref f) ∧ PySem.W.keepIn K (.ref f) = true ∧ Binds K fd ps []
theorem pe_callO {X : Cx} {k k' : Nat} {x : Str} {ps : List Str} {sp : Sp} {p pos : Pos} {e : Expr} {es : List Expr} {t : TA}
    (O : Own X.prog X.w X.K X.mg X.base k x ps sp) (hr : Room k' X.A) (hk : k ≤ k') (hg : Gl X x) (ha : PA X (e :: es) t)
    (hdb : (x == ("__debug__" : Str)) = false := by decide) (he : starEach (e :: es) X.env = (false, eval e X.env) :: starEach es X.env := by rfl) (hpl : (backTo pos (starEach es X.env)).any (·.1) = false := by rfl) :
    PE X (.Call (.Name x p) (e :: es) [] pos) (tCall sp [] E0 t) := by
  obtain ⟨f, fd, F, hm, hkp, hb⟩ := O.ex
  exact pe_call F (hr.mono hk) hg hm hkp hb .nil pass0 ha hdb he hpl
theorem units65 {k : Nat} {A : Around} (hr : Room k A) : A.units + 65 < cLine := by
  have := hr.un
  omega
abbrev FnP (K : PySem.W.Frag) (x : Str) (st : Stmt) (f : Addr) (fd : FuncData) : Prop := FunD K x x (defArgs st) (defBody st) (defScope st) [] [] f fd
/-! ### the head's facts, with one Bool more -/
def obsY (fa : List He.Fa) (fn : List He.DefD) (ex : PySem.W.Frag → Bool) (K : PySem.W.Frag) : He.AlD × Bool := (He.obsD fa fn K, ex K)
def obsYG (n : Nat) (fa : List He.Fa) (fn : List He.DefD) (ex : PySem.W.Frag → Bool) (g : Addr → Option Obj) : He.AlD × Bool := obsY fa fn ex (He.frG g (He.asD g n))
def SaysY (fa : List He.Fa) (fn : List He.DefD) (ex : PySem.W.Frag → Bool) (K : PySem.W.Frag) : Prop := He.SaysD fa fn K ∧ ex K = true
def hookY (n : Nat) (fa : List He.Fa) (fn : List He.DefD) (ex : PySem.W.Frag → Bool) : PySem.W.Hook where
  α := He.AlD × Bool
  obs := fun s => obsYG n fa fn ex s.heap.get?
  val := fun _ => (He.valD fn, true)
  says := fun _ h => ∃ K : PySem.W.Frag, K.In h ∧ SaysY fa fn ex K
  of := fun _ _ e => ⟨_, He.frG_in, congrArg Prod.fst e, congrArg Prod.snd e⟩
  keeps := fun _ _ _ ⟨K, hK, c⟩ k => ⟨K, PySem.W.Frag.In.keeps hK k, c⟩
theorem obsYG_eq {n : Nat} {fa : List He.Fa} {fn : List He.DefD} {ex : PySem.W.Frag → Bool} {g : Addr → Option Obj} {s : Shared} (h : ∀ a, g a = s.heap.get? a) : obsYG n fa fn ex g = (hookY n fa fn ex).obs s := by
  have e : g = s.heap.get? := funext h
  rw [e]
  rfl
/-! ### built-ins -/
theorem bb_abs : bootBuiltins "abs" = some (.builtin "abs") := by decide +kernel
theorem bb_max : bootBuiltins "max" = some (.builtin "max") := by decide +kernel
theorem bb_min : bootBuiltins "min" = some (.builtin "min") := by decide +kernel
theorem bb_all : bootBuiltins "all" = some (.builtin "all") := by decide +kernel
theorem bb_sum : bootBuiltins "sum" = some (.builtin "sum") := by decide +kernel
theorem bb_sorted : bootBuiltins "sorted" = some (.builtin "sorted") := by decide +kernel
theorem bb_isinstance : bootBuiltins "isinstance" = some (.builtin "isinstance") := by decide +kernel
theorem bt_int : bootBuiltins "int" = some (.type "int") := by decide +kernel
theorem bt_bool : bootBuiltins "bool" = some (.type "bool") := by decide +kernel
theorem bt_str : bootBuiltins "str" = some (.type "str") := by decide +kernel
theorem bt_list : bootBuiltins "list" = some (.type "list") := by decide +kernel
theorem bt_tuple : bootBuiltins "tuple" = some (.type "tuple") := by decide +kernel
abbrev rAbs : List V → Hp → VK → Prop := fun xs H Q => ∃ i, xs = [.int i] ∧ Q (.int (if i < 0 then -i else i)) H
abbrev rMax2 : List V → Hp → VK → Prop := fun xs H Q => ∃ i j, xs = [.int i, .int j] ∧ Q (.int (if j > i then j else i)) H
abbrev rMin2 : List V → Hp → VK → Prop := fun xs H Q => ∃ i j, xs = [.int i, .int j] ∧ Q (.int (if j < i then j else i)) H
abbrev rInt1 : List V → Hp → VK → Prop := fun xs H Q => (∃ i, xs = [.int i] ∧ Q (.int i) H) ∨ ∃ k, xs = [.bl k] ∧ Q (.int (if k then 1 else 0)) H
abbrev rLenQ (K : PySem.W.Frag) : List V → Hp → VK → Prop := fun xs H Q => ∃ p ys, xs = [.ref p] ∧ (SqL K H p ys ∨ SqT K H p ys) ∧ Q (.int ys.length) H
abbrev rListOf (K : PySem.W.Frag) : List V → Hp → VK → Prop := fun xs H Q => ∃ p ys, xs = [.ref p] ∧ (SqL K H p ys ∨ SqT K H p ys) ∧ ∀ l, H l = none → Q (.ref l) (upd H l (.lst ys))
abbrev rTupleOf (K : PySem.W.Frag) : List V → Hp → VK → Prop := fun xs H Q => ∃ p ys, xs = [.ref p] ∧ ((SqL K H p ys ∧ ∀ l, H l = none → Q (.ref l) (upd H l (.tup ys))) ∨ (SqT K H p ys ∧ Q (.ref p) H))
/-! ### words -/
inductive Wo where
  | warm | cold | same
  deriving DecidableEq
def Wo.str : Wo → Str
  | .warm => "warm"
  | .cold => "cold"
  | .same => "same"
def vW (x : Wo) : V := .str x.str
theorem Wo.str_inj {x y : Wo} (h : x.str = y.str) : x = y := by
  revert h
  cases x <;> cases y <;> first | (intro _; rfl) | (intro h; exact absurd h (by decide +kernel))
theorem vW_inj {x y : Wo} (h : vW x = vW y) : x = y := Wo.str_inj (V.str.inj h)
def ab (i : Int) : Int := if i < 0 then -i else i
def word (far near : Int) : Wo := if near < far then .warm else if far < near then .cold else .same
def mv (t e l : Int) : Wo := word (ab (t - e)) (ab (t - l))
def wordsOf (t : Int) : List Int → List Wo
  | e :: l :: r => mv t e l :: wordsOf t (l :: r)
  | _ => []
theorem wordsOf_len (t : Int) : ∀ ns : List Int, (wordsOf t ns).length = ns.length - 1
  | [] => rfl
  | [_] => rfl
  | x :: y :: r => by
    show (wordsOf t (y :: r)).length + 1 = (y :: r).length + 1 - 1
    rw [wordsOf_len t (y :: r)]
    simp
theorem wordsOf_get (t : Int) : ∀ (ns : List Int) (i : Nat) (x y : Int), ns[i]? = some x → ns[i + 1]? = some y → (wordsOf t ns)[i]? = some (mv t x y)
  | [], _, _, _, h, _ => by simp at h
  | [_], 0, _, _, _, h => by simp at h
  | [_], i + 1, _, _, h, _ => by simp at h
  | a :: b :: r, 0, x, y, h, h2 => by
    have e1 : a = x := Option.some.inj h
    have e2 : b = y := Option.some.inj h2
    rw [← e1, ← e2]
    rfl
  | a :: b :: r, i + 1, x, y, h, h2 => wordsOf_get t (b :: r) i x y h h2
/-! ### data -/
theorem dpI {K : PySem.W.Frag} {H : Hp} : ∀ ns : List Int, DpAll K H (ns.map V.int) (ns.map PyData.int)
  | [] => .nil
  | n :: r => .cons (.int n) (dpI r)
theorem dpW {K : PySem.W.Frag} {H : Hp} : ∀ ws : List Wo, DpAll K H (ws.map vW) (ws.map fun x => PyData.str x.str)
  | [] => .nil
  | x :: r => .cons (.str x.str) (dpW r)
theorem shI : ∀ ns : List Int, PyData.canLayAll0 (ns.map PyData.int) = true ∧ PyData.depthAll (ns.map PyData.int) = 0
  | [] => ⟨rfl, rfl⟩
  | n :: r => by
    obtain ⟨h1, h2⟩ := shI r
    constructor
    · show (PyData.canLay0 (PyData.int n) && PyData.canLayAll0 (r.map PyData.int)) = true
      rw [h1] <;> rfl
    · show max (PyData.depth (PyData.int n)) (PyData.depthAll (r.map PyData.int)) = 0
      rw [h2] <;> rfl
theorem strOk_w (x : Wo) : PyData.canLay0 (PyData.str x.str) = true := by
  cases x <;> decide +kernel
theorem shW : ∀ ws : List Wo, PyData.canLayAll0 (ws.map fun x => PyData.str x.str) = true ∧ PyData.depthAll (ws.map fun x => PyData.str x.str) = 0
  | [] => ⟨rfl, rfl⟩
  | x :: r => by
    obtain ⟨h1, h2⟩ := shW r
    constructor
    · show (PyData.canLay0 (PyData.str x.str) && PyData.canLayAll0 (r.map fun x => PyData.str x.str)) = true
      rw [h1, strOk_w] <;> rfl
    · show max (PyData.depth (PyData.str x.str)) (PyData.depthAll (r.map fun x => PyData.str x.str)) = 0
      rw [h2] <;> rfl
theorem shaped_l {ds : List PyData} (h : PyData.canLayAll0 ds = true ∧ PyData.depthAll ds = 0) : SeqAt.shaped (.list ds) = true := by
  unfold SeqAt.shaped
  have e1 : PyData.canLay0 (.list ds) = true := h.1
  have e2 : PyData.depth (.list ds) = 1 := by
    show PyData.depthAll ds + 1 = 1
    rw [h.2]
  rw [e1, e2] <;> rfl
theorem shaped_t {ds : List PyData} (h : PyData.canLayAll0 ds = true ∧ PyData.depthAll ds = 0) : SeqAt.shaped (.tuple ds) = true := by
  unfold SeqAt.shaped
  have e1 : PyData.canLay0 (.tuple ds) = true := h.1
  have e2 : PyData.depth (.tuple ds) = 1 := by
    show PyData.depthAll ds + 1 = 1
    rw [h.2]
  rw [e1, e2] <;> rfl
theorem eqvI : ∀ ns ms : List Int, PyData.eqvAll (ns.map PyData.int) (ms.map PyData.int) = decide (ns = ms)
  | [], [] => rfl
  | [], _ :: _ => rfl
  | _ :: _, [] => rfl
  | n :: r, m :: q => by
    show (PyData.eqv (PyData.int n) (PyData.int m) && PyData.eqvAll (r.map PyData.int) (q.map PyData.int)) = _
    rw [eqvI r q]
    show ((n == m) && decide (r = q)) = _
    by_cases h1 : n = m <;> by_cases h2 : r = q <;> simp [h1, h2]
theorem eqvW : ∀ ns ms : List Wo, PyData.eqvAll (ns.map fun x => PyData.str x.str) (ms.map fun x => PyData.str x.str) = decide (ns = ms)
  | [], [] => rfl
  | [], _ :: _ => rfl
  | _ :: _, [] => rfl
  | n :: r, m :: q => by
    show (PyData.eqv (PyData.str n.str) (PyData.str m.str) && PyData.eqvAll (r.map fun x => PyData.str x.str) (q.map fun x => PyData.str x.str)) = _
    rw [eqvW r q]
    show ((n.str == m.str) && decide (r = q)) = _
    have e : (n.str == m.str) = decide (n = m) := by
      cases n <;> cases m <;> decide +kernel
    rw [e]
    by_cases h1 : n = m <;> by_cases h2 : r = q <;> simp [h1, h2]
/-- two lists of ints, of words, compared -/
theorem eqII {K : PySem.W.Frag} {H : Hp} {a b : Addr} {ns ms : List Int} {Q : VK} (h1 : SqL K H a (ns.map V.int)) (h2 : SqL K H b (ms.map V.int)) (q : Q (.bl (decide (ns = ms))) H) : rEqD K (.ref a) (.ref b) H Q := by
  refine ⟨_, _, .lst h1 (dpI ns), .lst h2 (dpI ms), shaped_l (shI ns), shaped_l (shI ms), ?_⟩
  show Q (.bl (PyData.eqvAll (ns.map PyData.int) (ms.map PyData.int))) H
  rw [eqvI]
  exact q
theorem neII {K : PySem.W.Frag} {H : Hp} {a b : Addr} {ns ms : List Int} {Q : VK} (h1 : SqL K H a (ns.map V.int)) (h2 : SqL K H b (ms.map V.int)) (q : Q (.bl (!decide (ns = ms))) H) : rNeD K (.ref a) (.ref b) H Q := by
  refine ⟨_, _, .lst h1 (dpI ns), .lst h2 (dpI ms), shaped_l (shI ns), shaped_l (shI ms), ?_⟩
  show Q (.bl (!PyData.eqvAll (ns.map PyData.int) (ms.map PyData.int))) H
  rw [eqvI]
  exact q
theorem eqWW {K : PySem.W.Frag} {H : Hp} {a b : Addr} {ns ms : List Wo} {Q : VK} (h1 : SqL K H a (ns.map vW)) (h2 : SqL K H b (ms.map vW)) (q : Q (.bl (decide (ns = ms))) H) : rEqD K (.ref a) (.ref b) H Q := by
  refine ⟨_, _, .lst h1 (dpW ns), .lst h2 (dpW ms), shaped_l (shW ns), shaped_l (shW ms), ?_⟩
  show Q (.bl (PyData.eqvAll (ns.map fun x => PyData.str x.str) (ms.map fun x => PyData.str x.str))) H
  rw [eqvW]
  exact q
theorem neWW {K : PySem.W.Frag} {H : Hp} {a b : Addr} {ns ms : List Wo} {Q : VK} (h1 : SqL K H a (ns.map vW)) (h2 : SqL K H b (ms.map vW)) (q : Q (.bl (!decide (ns = ms))) H) : rNeD K (.ref a) (.ref b) H Q := by
  refine ⟨_, _, .lst h1 (dpW ns), .lst h2 (dpW ms), shaped_l (shW ns), shaped_l (shW ms), ?_⟩
  show Q (.bl (!PyData.eqvAll (ns.map fun x => PyData.str x.str) (ms.map fun x => PyData.str x.str))) H
  rw [eqvW]
  exact q
theorem eqTT {K : PySem.W.Frag} {H : Hp} {a b : Addr} {ns ms : List Int} {Q : VK} (h1 : SqT K H a (ns.map V.int)) (h2 : SqT K H b (ms.map V.int)) (q : Q (.bl (decide (ns = ms))) H) : rEqD K (.ref a) (.ref b) H Q := by
  refine ⟨_, _, .tup h1 (dpI ns), .tup h2 (dpI ms), shaped_t (shI ns), shaped_t (shI ms), ?_⟩
  show Q (.bl (PyData.eqvAll (ns.map PyData.int) (ms.map PyData.int))) H
  rw [eqvI]
  exact q
theorem neTT {K : PySem.W.Frag} {H : Hp} {a b : Addr} {ns ms : List Int} {Q : VK} (h1 : SqT K H a (ns.map V.int)) (h2 : SqT K H b (ms.map V.int)) (q : Q (.bl (!decide (ns = ms))) H) : rNeD K (.ref a) (.ref b) H Q := by
  refine ⟨_, _, .tup h1 (dpI ns), .tup h2 (dpI ms), shaped_t (shI ns), shaped_t (shI ms), ?_⟩
  show Q (.bl (!PyData.eqvAll (ns.map PyData.int) (ms.map PyData.int))) H
  rw [eqvI]
  exact q
/-! ### comprehensions, slices -/
theorem given_all (n : Nat) (v : Nat → V) : Evl.given n (fun _ => true) v = (List.range n).map v := by
  unfold Evl.given
  rw [List.filter_eq_self.mpr (fun _ _ => rfl)]
theorem range_map (ns : List Int) (F : Int → V) : (List.range ns.length).map (fun i => F (ns.getD i 0)) = ns.map F := by
  apply List.ext_getElem?
  intro i
  rw [List.getElem?_map, List.getElem?_map]
  by_cases h : i < ns.length
  · rw [List.getElem?_range h, List.getElem?_eq_getElem h]
    show some (F (ns.getD i 0)) = some (F ns[i])
    rw [List.getD_eq_getElem?_getD, List.getElem?_eq_getElem h]
    rfl
  · rw [List.getElem?_eq_none (by rw [List.length_range]; omega), List.getElem?_eq_none (by omega)]
    rfl
/-- a list of ints, each sent on -/
theorem el_map {K : PySem.W.Frag} {σ : L2.St} {H : Hp} {a : Addr} {ns : List Int} {tl te : TE} {j : Nat} {vs : List Nat} (F : Int → V) (h : Evl.Ev tl σ H (.ref a)) (hx : SqL K H a (ns.map V.int)) (hz : ns.length ≤ 40000)
    (hw : ∀ x, wipe ((wipe σ vs).set j (some x)) vs = wipe σ vs) (he : ∀ n H1, Ex H H1 → n ∈ ns → Evl.Ev te ((wipe σ vs).set j (some (.int n))) H1 (F n)) : Evl.EvL (tLc (iList K tl) (gName j) tYes te vs) σ H (ns.map F) := by
  have r := Evl.el_lcL (K := K) (xs := ns.map V.int) (te := te) (t := tYes) (vs := vs) (j := j) (fun _ => true) (fun i => F (ns.getD i 0)) h hx (by rw [List.length_map]; exact hz) hw (fun i x H1 _ _ => fun H2 _ Q q => q H2 (Ex.refl H2)) (fun i x H1 e hi _ => by
    rw [List.getElem?_map] at hi
    by_cases hl : i < ns.length
    · rw [List.getElem?_eq_getElem hl] at hi
      have ex : x = .int ns[i] := (Option.some.inj hi).symm
      have eg : ns.getD i 0 = ns[i] := by
        rw [List.getD_eq_getElem?_getD, List.getElem?_eq_getElem hl]
        rfl
      rw [ex]
      show Evl.Ev te ((wipe σ vs).set j (some (.int ns[i]))) H1 (F (ns.getD i 0))
      rw [eg]
      exact he ns[i] H1 e (List.getElem_mem hl)
    · rw [List.getElem?_eq_none (by omega)] at hi
      cases hi)
  rw [given_all, List.length_map, range_map] at r
  exact r
/-- the same of any list -/
theorem range_mapG {α : Type} (d : α) (ns : List α) (F : α → V) : (List.range ns.length).map (fun i => F (ns.getD i d)) = ns.map F := by
  apply List.ext_getElem?
  intro i
  rw [List.getElem?_map, List.getElem?_map]
  by_cases h : i < ns.length
  · rw [List.getElem?_range h, List.getElem?_eq_getElem h]
    show some (F (ns.getD i d)) = some (F ns[i])
    rw [List.getD_eq_getElem?_getD, List.getElem?_eq_getElem h]
    rfl
  · rw [List.getElem?_eq_none (by rw [List.length_range]; omega), List.getElem?_eq_none (by omega)]
    rfl
theorem el_mapG {α : Type} (d : α) (em : α → V) {K : PySem.W.Frag} {σ : L2.St} {H : Hp} {a : Addr} {ns : List α} {tl te : TE} {j : Nat} {vs : List Nat} (F : α → V) (h : Evl.Ev tl σ H (.ref a)) (hx : SqL K H a (ns.map em)) (hz : ns.length ≤ 40000)
    (hw : ∀ x, wipe ((wipe σ vs).set j (some x)) vs = wipe σ vs) (he : ∀ n H1, Ex H H1 → n ∈ ns → Evl.Ev te ((wipe σ vs).set j (some (em n))) H1 (F n)) : Evl.EvL (tLc (iList K tl) (gName j) tYes te vs) σ H (ns.map F) := by
  have r := Evl.el_lcL (K := K) (xs := ns.map em) (te := te) (t := tYes) (vs := vs) (j := j) (fun _ => true) (fun i => F (ns.getD i d)) h hx (by rw [List.length_map]; exact hz) hw (fun i x H1 _ _ => fun H2 _ Q q => q H2 (Ex.refl H2)) (fun i x H1 e hi _ => by
    rw [List.getElem?_map] at hi
    by_cases hl : i < ns.length
    · rw [List.getElem?_eq_getElem hl] at hi
      have ex : x = em ns[i] := (Option.some.inj hi).symm
      have eg : ns.getD i d = ns[i] := by
        rw [List.getD_eq_getElem?_getD, List.getElem?_eq_getElem hl]
        rfl
      rw [ex]
      show Evl.Ev te ((wipe σ vs).set j (some (em ns[i]))) H1 (F (ns.getD i d))
      rw [eg]
      exact he ns[i] H1 e (List.getElem_mem hl)
    · rw [List.getElem?_eq_none (by omega)] at hi
      cases hi)
  rw [given_all, List.length_map, range_mapG] at r
  exact r
/-- the whole numbers from lo up to below hi -/
def rng (lo hi : Int) : List Int := (List.range (hi - lo).toNat).map fun i : Nat => lo + (i : Int)
theorem mem_rng {lo hi n : Int} : n ∈ rng lo hi ↔ lo ≤ n ∧ n < hi := by
  unfold rng
  rw [List.mem_map]
  constructor
  · rintro ⟨k, hk, rfl⟩
    have := List.mem_range.mp hk
    omega
  · intro h
    exact ⟨(n - lo).toNat, List.mem_range.mpr (by omega), by omega⟩
theorem rng_len (lo hi : Int) : (rng lo hi).length = (hi - lo).toNat := by
  unfold rng
  rw [List.length_map, List.length_range]
theorem given_rng (lo hi : Int) (f : Int → Bool) (F : Int → V) : Evl.given (hi - lo).toNat (fun i => f (lo + (i : Int))) (fun i => F (lo + (i : Int))) = ((rng lo hi).filter f).map F := by
  unfold Evl.given rng
  rw [List.filter_map, List.map_map]
  rfl
/-- a comprehension over range(lo, hi) that keeps some -/
theorem el_rng {σ : L2.St} {H : Hp} {ta : TA} {t : TT} {te : TE} {j : Nat} {vs : List Nat} {lo hi : Int} (f : Int → Bool) (F : Int → V) (h : Evl.EvA ta σ H [.int lo, .int hi]) (hb : -30000 ≤ lo ∧ lo ≤ 30000 ∧ -30000 ≤ hi ∧ hi ≤ 10000)
    (hw : ∀ x, wipe ((wipe σ vs).set j (some x)) vs = wipe σ vs) (ht : ∀ n H1, Ex H H1 → lo ≤ n → n < hi → Evl.EvT t ((wipe σ vs).set j (some (.int n))) H1 (f n))
    (he : ∀ n H1, Ex H H1 → lo ≤ n → n < hi → f n = true → Evl.Ev te ((wipe σ vs).set j (some (.int n))) H1 (F n)) : Evl.EvL (tLc (iRng2 ta) (gName j) t te vs) σ H (((rng lo hi).filter f).map F) := fun H0 e Q q => h H0 e _ fun H1 e1 =>
  ⟨lo, hi, rfl, ⟨by omega, by omega, by omega, by omega⟩, fun Dl hD =>
    lc_range (lo := lo) (n := (hi - lo).toNat) (Evl.Cw H1 (fun i => f (lo + (i : Int))) (fun i => F (lo + (i : Int))) Dl) ⟨hD, Ex.new hD, upd_same⟩ (fun i H' hi' p =>
      ⟨hw _, Evl.cw_turn p (by omega) (ht (lo + (i : Int)) H1 (e.trans e1) (by omega) (by omega)) (fun hf => he (lo + (i : Int)) H1 (e.trans e1) (by omega) (by omega) hf)⟩)
      (fun H' p => by
        have p3 := p.2.2
        rw [given_rng] at p3
        exact q Dl H' (fresh_back e1 p.1) (e1.trans p.2.1) p3)⟩
theorem given_list (ns : List Int) (f : Int → Bool) (F : Int → V) : Evl.given ns.length (fun i => f (ns.getD i 0)) (fun i => F (ns.getD i 0)) = (ns.filter f).map F := by
  have e : (List.range ns.length).map (fun i => ns.getD i 0) = ns := by
    apply List.ext_getElem?
    intro i
    rw [List.getElem?_map]
    by_cases h : i < ns.length
    · rw [List.getElem?_range h, List.getElem?_eq_getElem h]
      show some (ns.getD i 0) = some ns[i]
      rw [List.getD_eq_getElem?_getD, List.getElem?_eq_getElem h]
      rfl
    · rw [List.getElem?_eq_none (by rw [List.length_range]; omega), List.getElem?_eq_none (by omega)]
      rfl
  unfold Evl.given
  conv => rhs; rw [← e]
  rw [List.filter_map, List.map_map]
  rfl
theorem getD_at {ns : List Int} {i : Nat} {x : V} (hi : (ns.map V.int)[i]? = some x) : ns.getD i 0 ∈ ns ∧ x = .int (ns.getD i 0) := by
  rw [List.getElem?_map] at hi
  by_cases hl : i < ns.length
  · rw [List.getElem?_eq_getElem hl] at hi
    rw [List.getD_eq_getElem?_getD, List.getElem?_eq_getElem hl]
    exact ⟨List.getElem_mem hl, (Option.some.inj hi).symm⟩
  · rw [List.getElem?_eq_none (by omega)] at hi
    cases hi
/-- a comprehension over a list, a tuple, a new tuple of ints that keeps some -/
theorem el_lst {K : PySem.W.Frag} {σ : L2.St} {H : Hp} {a : Addr} {ns : List Int} {tl te : TE} {t : TT} {j : Nat} {vs : List Nat} (f : Int → Bool) (F : Int → V) (h : Evl.Ev tl σ H (.ref a)) (hx : SqL K H a (ns.map V.int)) (hz : ns.length ≤ 40000)
    (hw : ∀ x, wipe ((wipe σ vs).set j (some x)) vs = wipe σ vs) (ht : ∀ n H1, Ex H H1 → n ∈ ns → Evl.EvT t ((wipe σ vs).set j (some (.int n))) H1 (f n))
    (he : ∀ n H1, Ex H H1 → n ∈ ns → f n = true → Evl.Ev te ((wipe σ vs).set j (some (.int n))) H1 (F n)) : Evl.EvL (tLc (iList K tl) (gName j) t te vs) σ H ((ns.filter f).map F) := by
  have r := Evl.el_lcL (K := K) (xs := ns.map V.int) (te := te) (t := t) (vs := vs) (j := j) (fun i => f (ns.getD i 0)) (fun i => F (ns.getD i 0)) h hx (by rw [List.length_map]; exact hz) hw
    (fun i x H1 e hi => by rw [(getD_at hi).2]; exact ht _ H1 e (getD_at hi).1) (fun i x H1 e hi hf => by rw [(getD_at hi).2]; exact he _ H1 e (getD_at hi).1 hf)
  rw [List.length_map, given_list] at r
  exact r
theorem el_tup {K : PySem.W.Frag} {σ : L2.St} {H : Hp} {a : Addr} {ns : List Int} {tl te : TE} {t : TT} {j : Nat} {vs : List Nat} (f : Int → Bool) (F : Int → V) (h : Evl.Ev tl σ H (.ref a)) (hx : SqT K H a (ns.map V.int)) (hz : ns.length ≤ 40000)
    (hw : ∀ x, wipe ((wipe σ vs).set j (some x)) vs = wipe σ vs) (ht : ∀ n H1, Ex H H1 → n ∈ ns → Evl.EvT t ((wipe σ vs).set j (some (.int n))) H1 (f n))
    (he : ∀ n H1, Ex H H1 → n ∈ ns → f n = true → Evl.Ev te ((wipe σ vs).set j (some (.int n))) H1 (F n)) : Evl.EvL (tLc (iTup K tl) (gName j) t te vs) σ H ((ns.filter f).map F) := fun H0 e Q q => h H0 e _ fun H1 e1 =>
  ⟨a, rfl, ⟨_, ex_t (e.trans e1) hx⟩, fun Dl hD =>
    lc_tup (xs := ns.map V.int) (Evl.Cw H1 (fun i => f (ns.getD i 0)) (fun i => F (ns.getD i 0)) Dl) ⟨hD, Ex.new hD, upd_same⟩ (fun i H' _ p => ex_t ((e.trans e1).trans p.2.1) hx) (fun i x H' hi p => by
      have hl : i < ns.length := by
        have := (List.getElem?_eq_some_iff.mp hi).1
        rw [List.length_map] at this
        exact this
      rw [(getD_at hi).2]
      exact ⟨hw _, Evl.cw_turn p (by omega) (ht _ H1 (e.trans e1) (getD_at hi).1) (fun hf => he _ H1 (e.trans e1) (getD_at hi).1 hf)⟩)
      (fun H' p => by
        have p3 := p.2.2
        rw [List.length_map, given_list] at p3
        exact q Dl H' (fresh_back e1 p.1) (e1.trans p.2.1) p3)⟩
theorem el_tupU {K : PySem.W.Frag} {σ : L2.St} {H : Hp} {ns : List Int} {tl te : TE} {t : TT} {j : Nat} {vs : List Nat} (f : Int → Bool) (F : Int → V) (h : Evl.EvU tl σ H (ns.map V.int)) (hz : ns.length ≤ 40000)
    (hw : ∀ x, wipe ((wipe σ vs).set j (some x)) vs = wipe σ vs) (ht : ∀ n H1, Ex H H1 → n ∈ ns → Evl.EvT t ((wipe σ vs).set j (some (.int n))) H1 (f n))
    (he : ∀ n H1, Ex H H1 → n ∈ ns → f n = true → Evl.Ev te ((wipe σ vs).set j (some (.int n))) H1 (F n)) : Evl.EvL (tLc (iTup K tl) (gName j) t te vs) σ H ((ns.filter f).map F) := fun H0 e Q q => h H0 e _ fun a H1 _ e1 hx =>
  ⟨a, rfl, ⟨_, SqT.of hx⟩, fun Dl hD =>
    lc_tup (xs := ns.map V.int) (Evl.Cw H1 (fun i => f (ns.getD i 0)) (fun i => F (ns.getD i 0)) Dl) ⟨hD, Ex.new hD, upd_same⟩ (fun i H' _ p => SqT.of (p.2.1 _ _ hx)) (fun i x H' hi p => by
      have hl : i < ns.length := by
        have := (List.getElem?_eq_some_iff.mp hi).1
        rw [List.length_map] at this
        exact this
      rw [(getD_at hi).2]
      exact ⟨hw _, Evl.cw_turn p (by omega) (ht _ H1 (e.trans e1) (getD_at hi).1) (fun hf => he _ H1 (e.trans e1) (getD_at hi).1 hf)⟩)
      (fun H' p => by
        have p3 := p.2.2
        rw [List.length_map, given_list] at p3
        exact q Dl H' (fresh_back e1 p.1) (e1.trans p.2.1) p3)⟩
theorem yes_ev {σ : L2.St} {H : Hp} : Evl.EvT tYes σ H true := fun H1 _ _ q => q H1 (Ex.refl H1)
theorem filter_yes (ns : List Int) : ns.filter (fun _ => true) = ns := List.filter_eq_self.mpr fun _ _ => rfl
/-- a loop over enumerate of a list that stays -/
theorem for_enum {K : PySem.W.Frag} {a : Addr} {xs : List V} {g : TG} {tb : TS} {D : Ends} {σ : L2.St} {H : Hp} (Pv : Nat → L2.St → Hp → Prop) (h0 : Pv 0 σ H) (hl : ∀ i σ H, i ≤ xs.length → Pv i σ H → SqL K H a xs)
    (hs : ∀ (i : Nat) (x : V) (T : Addr) (σ : L2.St) (H : Hp), xs[i]? = some x → Pv i σ H → H T = none → g (.ref T) σ (upd H T (.tup [.int (i : Nat), x])) fun σ2 H2 => tb { D with nx := Pv (i + 1), ct := Pv (i + 1), bk := D.nx } σ2 H2) (hd : ∀ σ H, Pv xs.length σ H → D.nx σ H) :
    ∃ W : Nat → Nat → L2.St → Hp → Prop, (∃ m, W 0 m σ H) ∧ ∀ i m σ H, W i m σ H →
      ((Ite K a).stop i H ∧ D.nx σ H) ∨ ((Ite K a).go i H ∧ ∃ N : L2.St → Hp → Prop, (∀ σ' H', N σ' H' → ∃ m', m' < m ∧ W (i + 1) m' σ' H') ∧ ∀ v H', (Ite K a).yld i H v H' → g v σ H' fun σ2 H2 => tb { D with nx := N, ct := N, bk := D.nx } σ2 H2) := by
  refine ⟨fun i m σ H => i + m = xs.length ∧ Pv i σ H, ⟨xs.length, Nat.zero_add _, h0⟩, ?_⟩
  rintro i m σ H ⟨hm, p⟩
  have hq := hl i σ H (by omega) p
  by_cases hi : i < xs.length
  · refine .inr ⟨⟨xs, xs[i], hq, List.getElem?_eq_getElem hi⟩, Pv (i + 1), fun σ' H' p' => ⟨m - 1, by omega, by omega, p'⟩, ?_⟩
    rintro v H' ⟨T, x, rfl, nT, rfl, hx⟩
    exact hs i x T σ H (hx xs hq) p nT
  · have e : i = xs.length := by omega
    rw [e] at p
    exact .inl ⟨⟨xs, hq, by omega⟩, hd σ H p⟩
theorem cut1 (xs : List V) : cutV xs (some 1) none = xs.drop 1 := by
  unfold cutV
  have e1 : HT.sIx xs.length 0 (some 1) = min 1 xs.length := HT.sIx_nat xs.length 0 1
  rw [e1, HT.sIx_none]
  match xs with
  | [] => rfl
  | x :: r =>
    have e2 : min 1 (x :: r).length = 1 := Nat.min_eq_left (by simp)
    rw [e2]
    show List.take (r.length + 1 - 1) r = r
    rw [Nat.add_sub_cancel, List.take_length]
/-- a list of places of a path of length l -/
def Places (l : Int) (ns : List Int) : Prop := ∀ n ∈ ns, 1 ≤ n ∧ n ≤ l
/-- the places at which just these words are answered -/
def lies (l : Int) (st : List Int) (ws : List Wo) : List Int := (rng 1 (l + 1)).filter fun t => decide (wordsOf t st = ws)
/-! ### bags -/
def Bag1 (H : Hp) (b : Addr) : Prop := ∃ (d : Addr) (c : Int) (ds : List Int), H b = some (.lst [.ref d, .int c]) ∧ H d = some (.lst (ds.map V.int)) ∧ ds.length = 400
def Bags (bs : List Addr) (H : Hp) : Prop := ∀ b ∈ bs, Bag1 H b
/-- all that is no bag stays -/
def Kp (bs : List Addr) (H H' : Hp) : Prop := ∀ a o, a ∉ bs → H a = some o → H' a = some o
theorem Kp.refl (bs : List Addr) (H : Hp) : Kp bs H H := fun _ _ _ h => h
theorem Kp.trans {bs : List Addr} {H H1 H2 : Hp} (a : Kp bs H H1) (b : Kp bs H1 H2) : Kp bs H H2 := fun c o n h => b c o n (a c o n h)
theorem Kp.ex {bs : List Addr} {H H' : Hp} (e : Ex H H') : Kp bs H H' := fun a o _ h => e a o h
theorem Bag1.ex {H H' : Hp} {b : Addr} (e : Ex H H') (h : Bag1 H b) : Bag1 H' b := by
  obtain ⟨d, c, ds, h1, h2, h3⟩ := h
  exact ⟨d, c, ds, e _ _ h1, e _ _ h2, h3⟩
theorem Bags.ex {bs : List Addr} {H H' : Hp} (e : Ex H H') (h : Bags bs H) : Bags bs H' := fun b hb => (h b hb).ex e
theorem Bags.fresh {bs : List Addr} {H : Hp} (h : Bags bs H) {p : Addr} (n : H p = none) : p ∉ bs := fun hp => by
  obtain ⟨d, c, ds, h1, _⟩ := h p hp
  rw [n] at h1
  cases h1
/-- an object that is no bag, and no bag's draws, may change -/
theorem Bags.mut {bs : List Addr} {H : Hp} {p : Addr} {o : HO} (h : Bags bs H) (n1 : p ∉ bs) (n2 : ∀ d ds, H d = some (.lst (List.map V.int ds)) → ds.length = 400 → d ≠ p) : Bags bs (upd H p o) := fun b hb => by
  obtain ⟨d, c, ds, h1, h2, h3⟩ := h b hb
  have e1 : b ≠ p := fun e => n1 (e ▸ hb)
  exact ⟨d, c, ds, by rw [upd_ne e1]; exact h1, by rw [upd_ne (n2 d ds h2 h3)]; exact h2, h3⟩
/-- the list of the bags is none of them -/
theorem bags_list {bs : List Addr} {H : Hp} {L : Addr} (hB : Bags bs H) (hL : H L = some (.lst (bs.map V.ref))) : L ∉ bs := fun z => by
  obtain ⟨d, c, ds, h1, _⟩ := hB L z
  rw [hL] at h1
  have e2 := HO.lst.inj (Option.some.inj h1)
  match bs, e2 with
  | [_, _], e2 => simp at e2
theorem ref_at {bs : List Addr} {i : Nat} {x : V} (hx : (bs.map V.ref)[i]? = some x) : ∃ b, b ∈ bs ∧ x = V.ref b := by
  rw [List.getElem?_map] at hx
  cases hg : bs[i]? with
  | none =>
    rw [hg] at hx
    cases hx
  | some b =>
    rw [hg] at hx
    exact ⟨b, List.mem_of_getElem? hg, (Option.some.inj hx).symm⟩
theorem int_at {ns : List Int} {i : Nat} {x : V} (hx : (ns.map V.int)[i]? = some x) : ∃ n, ns[i]? = some n ∧ x = V.int n := by
  rw [List.getElem?_map] at hx
  cases hg : ns[i]? with
  | none =>
    rw [hg] at hx
    cases hx
  | some b =>
    rw [hg] at hx
    exact ⟨b, rfl, (Option.some.inj hx).symm⟩
theorem Kp.mut {bs : List Addr} {H0 H : Hp} {p : Addr} {o : HO} (k : Kp bs H0 H) (n : H0 p = none) : Kp bs H0 (upd H p o) := fun a u na h => by
  rw [upd_ne (ne_of_none h n)]
  exact k a u na h
theorem Kp.new {bs : List Addr} {H0 H : Hp} {p : Addr} {o : HO} (k : Kp bs H0 H) (n : H p = none) : Kp bs H0 (upd H p o) := fun a u na h => by
  rw [upd_ne (ne_of_none (k a u na h) n)]
  exact k a u na h
end Wc
namespace Wc
open PySem PySem.Spec PyProof.Rows L2
open Evl (Ex ex_l ex_t fresh_back)
def sp_is_whole (K : PySem.W.Frag) : Sp := fun vs H Q _ => ∃ i : Int, vs = [.int i] ∧ Q (.bl true) H
abbrev N_is_whole : List Str := ["value"]
def t_is_whole (K : PySem.W.Frag) : TS := (tRet (tAndV (tCB (rIsi K) (tCons (tVar 0) (tCons (tC (.ty "int")) tNil))) (tNotV (tCB (rIsi K) (tCons (tVar 0) (tCons (tC (.ty "bool")) tNil))))))
theorem pure_is_whole {K : PySem.W.Frag} {vs : List V} {H : Hp} {Q : VK} {E : XK} (h : sp_is_whole K vs H Q E) : t_is_whole K { nx := fun _ H' => Q .non H', rt := Q } (start N_is_whole vs) H := by
  obtain ⟨i, rfl, q⟩ := h
  refine ⟨_, rfl, .int i, .ty "int", _, _, true, rfl, .ty "int", .base (.int i), kit_ty (by decide +kernel), true, rfl, iteT ?_⟩
  exact ⟨_, rfl, .int i, .ty "bool", _, _, false, rfl, .ty "bool", .base (.int i), kit_ty (by decide +kernel), false, rfl, q⟩
theorem len_is_whole {K : PySem.W.Frag} {vs : List V} {H : Hp} {Q : VK} {E : XK} (h : sp_is_whole K vs H Q E) : vs.length = 1 := by
  obtain ⟨i, rfl, _⟩ := h
  rfl
def sp_is_place (K : PySem.W.Frag) : Sp := fun vs H Q _ => ∃ v l : Int, vs = [.int v, .int l] ∧ Q (.bl (decide (1 ≤ v ∧ v ≤ l))) H
abbrev N_is_place : List Str := ["value", "length"]
def t_is_place (K : PySem.W.Frag) : TS := (tRet (tAndV (tCall (sp_is_whole K) [] E0 (tCons (tVar 0) tNil)) (tChain (rI0 fun i j => .bl (decide (i ≤ j))) (rI0 fun i j => .bl (decide (i ≤ j))) (tC (.int 1)) (tVar 0) (tVar 1))))
theorem pure_is_place {K : PySem.W.Frag} {vs : List V} {H : Hp} {Q : VK} {E : XK} (h : sp_is_place K vs H Q E) : t_is_place K { nx := fun _ H' => Q .non H', rt := Q } (start N_is_place vs) H := by
  obtain ⟨v, l, rfl, q⟩ := h
  refine ⟨_, rfl, v, rfl, true, rfl, iteT ⟨_, rfl, 1, v, rfl, rfl, decide ((1 : Int) ≤ v), rfl, ?_⟩⟩
  by_cases h1 : (1 : Int) ≤ v
  · rw [decide_eq_true h1]
    refine iteT ⟨_, rfl, v, l, rfl, rfl, ?_⟩
    have e : decide (v ≤ l) = decide (1 ≤ v ∧ v ≤ l) := by simp [h1]
    show Q (.bl (decide (v ≤ l))) H
    rw [e]
    exact q
  · rw [decide_eq_false h1]
    refine iteF ?_
    have e : false = decide (1 ≤ v ∧ v ≤ l) := by simp [h1]
    show Q (.bl false) H
    rw [e]
    exact q
theorem len_is_place {K : PySem.W.Frag} {vs : List V} {H : Hp} {Q : VK} {E : XK} (h : sp_is_place K vs H Q E) : vs.length = 2 := by
  obtain ⟨v, l, rfl, _⟩ := h
  rfl
def sp_is_word (K : PySem.W.Frag) : Sp := fun vs H Q _ => ∃ x : Wo, vs = [vW x] ∧ Q (.bl true) H
abbrev N_is_word : List Str := ["value"]
def t_is_word (K : PySem.W.Frag) : TS := (tRet (tAndV (tCB (rIsi K) (tCons (tVar 0) (tCons (tC (.ty "str")) tNil))) (tOp (rIn K false) (tVar 0) (tC (.ref (He.ga K "WORDS"))))))
theorem pure_is_word {K : PySem.W.Frag} (hW : ∀ H, SqT K H (He.ga K "WORDS") [.str "warm", .str "cold", .str "same"]) {vs : List V} {H : Hp} {Q : VK} {E : XK} (h : sp_is_word K vs H Q E) : t_is_word K { nx := fun _ H' => Q .non H', rt := Q } (start N_is_word vs) H := by
  obtain ⟨x, rfl, q⟩ := h
  refine ⟨_, rfl, vW x, .ty "str", _, _, true, rfl, .ty "str", .base (.str x.str), kit_ty (by decide +kernel), true, rfl, iteT ?_⟩
  refine ⟨_, rfl, _, _, rfl, .inr (hW H), rfl, rfl, ?_⟩
  have e : (if false = true then !inV (vW x) [V.str "warm", V.str "cold", V.str "same"] else inV (vW x) [V.str "warm", V.str "cold", V.str "same"]) = true := by
    cases x <;> decide +kernel
  rw [e]
  exact q
theorem len_is_word {K : PySem.W.Frag} {vs : List V} {H : Hp} {Q : VK} {E : XK} (h : sp_is_word K vs H Q E) : vs.length = 1 := by
  obtain ⟨x, rfl, _⟩ := h
  rfl
def sp_check_length (K : PySem.W.Frag) : Sp := fun vs H Q _ => ∃ l : Int, vs = [.int l] ∧ 1 ≤ l ∧ l ≤ 60 ∧ Q .non H
abbrev N_check_length : List Str := ["length"]
def t_check_length (K : PySem.W.Frag) : TS := (tIfS (tNot (tB (tCall (sp_is_place K) [] E0 (tCons (tVar 0) (tCons (tC (.int 60)) tNil))))) tNever tNext)
theorem pure_check_length {K : PySem.W.Frag} {vs : List V} {H : Hp} {Q : VK} {E : XK} (h : sp_check_length K vs H Q E) : t_check_length K { nx := fun _ H' => Q .non H', rt := Q } (start N_check_length vs) H := by
  obtain ⟨l, rfl, h1, h2, q⟩ := h
  exact ⟨_, rfl, l, 60, rfl, _, rfl, iteNS ⟨h1, h2⟩ q⟩
theorem len_check_length {K : PySem.W.Frag} {vs : List V} {H : Hp} {Q : VK} {E : XK} (h : sp_check_length K vs H Q E) : vs.length = 1 := by
  obtain ⟨l, rfl, _⟩ := h
  rfl
def sp_check_stands (K : PySem.W.Frag) : Sp := fun vs H Q _ => ∃ (a : Addr) (ns : List Int) (l : Int), vs = [.ref a, .int l] ∧ H a = some (.lst (ns.map V.int)) ∧ ns.length ≤ 40 ∧ Places l ns ∧ ∀ H', Ex H H' → Q .non H'
abbrev N_check_stands : List Str := ["stands", "length", "stand"]
def t_check_stands (K : PySem.W.Frag) : TS := (tSeq (tIfS (tOr (tNot (tB (tCB (rIsi K) (tCons (tVar 0) (tCons (tC (.ty "list")) tNil))))) (tTest (tOp (rI0 fun i j => .bl (decide (j < i))) (tCB (rLenQ K) (tCons (tVar 0) tNil)) (tC (.int 40))))) tNever tNext)
  (tIfS (tNot (tB (tCB (rAll K) (tCons (tLc (iList K (tVar 0)) (gName 2) tYes (tCall (sp_is_place K) [] E0 (tCons (tVar 2) (tCons (tVar 1) tNil))) [2]) tNil)))) tNever tNext))
theorem pure_check_stands {K : PySem.W.Frag} {vs : List V} {H : Hp} {Q : VK} {E : XK} (h : sp_check_stands K vs H Q E) : t_check_stands K { nx := fun _ H' => Q .non H', rt := Q } (start N_check_stands vs) H := by
  obtain ⟨a, ns, l, rfl, ha, hl, hp, q⟩ := h
  refine ⟨_, rfl, .ref a, .ty "list", _, _, true, rfl, .ty "list", .base (.lst ha), kit_ty (by decide +kernel), true, rfl, iteF ?_⟩
  refine ⟨_, rfl, a, _, rfl, .inl (SqL.of ha), _, _, rfl, rfl, _, rfl, ite2 (fun e => ?_) (fun _ => ?_)⟩
  · have e2 := of_decide_eq_true e
    rw [List.length_map] at e2
    omega
  · have hc : Evl.EvL (tLc (iList K (tVar 0)) (gName 2) tYes (tCall (sp_is_place K) [] E0 (tCons (tVar 2) (tCons (tVar 1) tNil))) [2]) (start N_check_stands [.ref a, .int l]) H (ns.map fun n => V.bl (decide (1 ≤ n ∧ n ≤ l))) :=
      el_map (K := K) (a := a) (fun n => V.bl (decide (1 ≤ n ∧ n ≤ l))) (Evl.ev_var rfl) (SqL.of ha) (by omega) (fun _ => rfl) fun n H1 _ _ => fun H2 _ Q2 q2 => ⟨_, rfl, _, rfl, n, l, rfl, q2 H2 (Ex.refl H2)⟩
    dsimp only [tNext, tIfS, tNot, tB, tCB, tCons]
    refine hc H (Ex.refl H) _ fun p H2 _ e2 h2 => ?_
    refine ⟨p, ns.map fun n => decide (1 ≤ n ∧ n ≤ l), rfl, .inl (.inl ?_), _, rfl, ?_⟩
    · rw [h2, List.map_map]
      rfl
    · have ea : ((ns.map fun n => decide (1 ≤ n ∧ n ≤ l)).all id) = true := by
        rw [List.all_map, List.all_eq_true]
        intro n hn
        exact decide_eq_true (hp n hn)
      rw [ea]
      exact iteF (q H2 e2)
theorem len_check_stands {K : PySem.W.Frag} {vs : List V} {H : Hp} {Q : VK} {E : XK} (h : sp_check_stands K vs H Q E) : vs.length = 2 := by
  obtain ⟨a, ns, l, rfl, _⟩ := h
  rfl
def sp_check_answers (K : PySem.W.Frag) : Sp := fun vs H Q _ => ∃ (a s : Addr) (ws : List Wo) (st : List Int), vs = [.ref a, .ref s] ∧ H a = some (.lst (ws.map vW)) ∧ SqL K H s (st.map V.int) ∧ ws.length = st.length - 1 ∧ st.length ≤ 1000 ∧ ∀ H', Ex H H' → Q .non H'
abbrev N_check_answers : List Str := ["answers", "stands", "wanted", "answer"]
def t_check_answers (K : PySem.W.Frag) : TS := (tSeq (tAsg (tCB rMax2 (tCons (tC (.int 0)) (tCons (tOp (rI0 fun i j => .int (i - j)) (tCB (rLenQ K) (tCons (tVar 1) tNil)) (tC (.int 1))) tNil))) (gName 2))
  (tSeq (tIfS (tOr (tNot (tB (tCB (rIsi K) (tCons (tVar 0) (tCons (tC (.ty "list")) tNil))))) (tTest (tOp rNe (tCB (rLenQ K) (tCons (tVar 0) tNil)) (tVar 2)))) tNever tNext)
  (tIfS (tNot (tB (tCB (rAll K) (tCons (tLc (iList K (tVar 0)) (gName 3) tYes (tCall (sp_is_word K) [] E0 (tCons (tVar 3) tNil)) [3]) tNil)))) tNever tNext)))
theorem pure_check_answers {K : PySem.W.Frag} {vs : List V} {H : Hp} {Q : VK} {E : XK} (h : sp_check_answers K vs H Q E) : t_check_answers K { nx := fun _ H' => Q .non H', rt := Q } (start N_check_answers vs) H := by
  obtain ⟨a, s, ws, st, rfl, ha, hs, hl, hl2, q⟩ := h
  refine ⟨_, rfl, s, _, rfl, .inl hs, _, _, rfl, rfl, _, _, rfl, ?_⟩
  refine ⟨_, rfl, .ref a, .ty "list", _, _, true, rfl, .ty "list", .base (.lst ha), kit_ty (by decide +kernel), true, rfl, iteF ?_⟩
  refine ⟨_, rfl, a, _, rfl, .inl (SqL.of ha), _, rfl, rfl, _, rfl, ?_⟩
  have en : ((ws.map vW).length : Int) = (if ((st.map V.int).length : Int) - 1 > 0 then ((st.map V.int).length : Int) - 1 else 0) := by
    rw [List.length_map, List.length_map, hl]
    split <;> omega
  refine iteNS (congrArg V.int en) ?_
  have hc : Evl.EvL (tLc (iList K (tVar 0)) (gName 3) tYes (tCall (sp_is_word K) [] E0 (tCons (tVar 3) tNil)) [3]) [some (.ref a), some (.ref s), some (.int (if ((st.map V.int).length : Int) - 1 > 0 then ((st.map V.int).length : Int) - 1 else 0)), none] H (ws.map fun _ => V.bl true) :=
    el_mapG .warm vW (K := K) (a := a) (fun _ => V.bl true) (Evl.ev_var rfl) (SqL.of ha) (by omega) (fun _ => rfl) fun n H1 _ _ => fun H2 _ Q2 q2 => ⟨_, rfl, n, rfl, q2 H2 (Ex.refl H2)⟩
  dsimp only [tNext, tIfS, tNot, tB, tCB, tCons]
  refine hc H (Ex.refl H) _ fun p H2 _ e2 h2 => ?_
  refine ⟨p, ws.map fun _ => true, rfl, .inl (.inl ?_), _, rfl, ?_⟩
  · rw [h2, List.map_map]
    rfl
  · have ea : ((ws.map fun _ => true).all id) = true := by
      rw [List.all_map, List.all_eq_true]
      intro n hn
      rfl
    rw [ea]
    exact iteF (q H2 e2)
theorem len_check_answers {K : PySem.W.Frag} {vs : List V} {H : Hp} {Q : VK} {E : XK} (h : sp_check_answers K vs H Q E) : vs.length = 2 := by
  obtain ⟨a, s, ws, st, rfl, _⟩ := h
  rfl
def sp_word_for (K : PySem.W.Frag) : Sp := fun vs H Q _ => ∃ b a : Int, vs = [.int b, .int a] ∧ Q (vW (word b a)) H
abbrev N_word_for : List Str := ["before", "after"]
def t_word_for (K : PySem.W.Frag) : TS := (tSeq (tIfS (tTest (tOp (rI0 fun i j => .bl (decide (i < j))) (tVar 1) (tVar 0))) (tRet (tC (.str (Str.ofString "warm")))) tNext)
  (tSeq (tIfS (tTest (tOp (rI0 fun i j => .bl (decide (j < i))) (tVar 1) (tVar 0))) (tRet (tC (.str (Str.ofString "cold")))) tNext)
  (tRet (tC (.str (Str.ofString "same"))))))
theorem pure_word_for {K : PySem.W.Frag} {vs : List V} {H : Hp} {Q : VK} {E : XK} (h : sp_word_for K vs H Q E) : t_word_for K { nx := fun _ H' => Q .non H', rt := Q } (start N_word_for vs) H := by
  obtain ⟨b, a, rfl, q⟩ := h
  refine ⟨_, rfl, _, rfl, a, b, rfl, rfl, _, rfl, ite2 (fun h1 => ?_) (fun h1 => ?_)⟩
  · have e1 : word b a = .warm := if_pos (of_decide_eq_true h1)
    rw [e1] at q
    exact q
  · have n1 : ¬ a < b := fun z => h1 (decide_eq_true z)
    refine ⟨_, rfl, _, rfl, a, b, rfl, rfl, _, rfl, ite2 (fun h2 => ?_) (fun h2 => ?_)⟩
    · have e2 : word b a = .cold := (if_neg n1).trans (if_pos (of_decide_eq_true h2))
      rw [e2] at q
      exact q
    · have n2 : ¬ b < a := fun z => h2 (decide_eq_true z)
      have e3 : word b a = .same := (if_neg n1).trans (if_neg n2)
      rw [e3] at q
      exact q
theorem len_word_for {K : PySem.W.Frag} {vs : List V} {H : Hp} {Q : VK} {E : XK} (h : sp_word_for K vs H Q E) : vs.length = 2 := by
  obtain ⟨b, a, rfl, _⟩ := h
  rfl
def sp_answer_to_move (K : PySem.W.Frag) : Sp := fun vs H Q _ => ∃ t e l : Int, vs = [.int t, .int e, .int l] ∧ Q (vW (mv t e l)) H
abbrev N_answer_to_move : List Str := ["thing", "earlier", "later"]
def t_answer_to_move (K : PySem.W.Frag) : TS := (tRet (tCall (sp_word_for K) [] E0 (tCons (tCB rAbs (tCons (tOp (rI0 fun i j => .int (i - j)) (tVar 0) (tVar 1)) tNil)) (tCons (tCB rAbs (tCons (tOp (rI0 fun i j => .int (i - j)) (tVar 0) (tVar 2)) tNil)) tNil))))
theorem pure_answer_to_move {K : PySem.W.Frag} {vs : List V} {H : Hp} {Q : VK} {E : XK} (h : sp_answer_to_move K vs H Q E) : t_answer_to_move K { nx := fun _ H' => Q .non H', rt := Q } (start N_answer_to_move vs) H := by
  obtain ⟨t, e, l, rfl, q⟩ := h
  exact ⟨_, rfl, _, rfl, t, e, rfl, rfl, _, rfl, _, rfl, _, rfl, t, l, rfl, rfl, _, rfl, ab (t - e), ab (t - l), rfl, q⟩
theorem len_answer_to_move {K : PySem.W.Frag} {vs : List V} {H : Hp} {Q : VK} {E : XK} (h : sp_answer_to_move K vs H Q E) : vs.length = 3 := by
  obtain ⟨t, e, l, rfl, _⟩ := h
  rfl
def sp_row_of_answers (K : PySem.W.Frag) : Sp := fun vs H Q _ => ∃ (t : Int) (a : Addr) (ns : List Int), vs = [.int t, .ref a] ∧ SqL K H a (ns.map V.int) ∧ ns.length ≤ 1000 ∧ ∀ p H', H p = none → Ex H H' → H' p = some (.lst ((wordsOf t ns).map vW)) → Q (.ref p) H'
abbrev N_row_of_answers : List Str := ["thing", "stands", "earlier", "later"]
def t_row_of_answers (K : PySem.W.Frag) : TS := (tRet (tLc (iZip K (tCons (tVar 1) (tCons (tSl (rSlL K) (tVar 1) (tPart (tC (.int 1))) tNoPart) tNil))) (gTup K 2 (gCons (gName 2) (gCons (gName 3) gNil))) tYes (tCall (sp_answer_to_move K) [] E0 (tCons (tVar 0) (tCons (tVar 2) (tCons (tVar 3) tNil)))) [2, 3]))
theorem pure_row_of_answers {K : PySem.W.Frag} {vs : List V} {H : Hp} {Q : VK} {E : XK} (h : sp_row_of_answers K vs H Q E) : t_row_of_answers K { nx := fun _ H' => Q .non H', rt := Q } (start N_row_of_answers vs) H := by
  obtain ⟨t, a, ns, rfl, hS, hlen, q⟩ := h
  refine ⟨.ref a, rfl, .ref a, rfl, 1, rfl, a, ns.map V.int, rfl, hS, fun c nc => ?_⟩
  have s1 : Ex H (upd H c (.lst (cutV (ns.map V.int) (some 1) none))) := Ex.new nc
  refine ⟨a, c, ns.map V.int, _, rfl, ex_l s1 hS, .inl (.inl upd_same), fun D hD => ?_⟩
  have hD0 : H D = none := fresh_back s1 hD
  have s2 : Ex (upd H c (.lst (cutV (ns.map V.int) (some 1) none))) (upd (upd H c (.lst (cutV (ns.map V.int) (some 1) none))) D (.lst [])) := Ex.new hD
  have ncD : c ≠ D := fun e => by
    rw [← e, upd_same] at hD
    cases hD
  refine ⟨fun i m H3 => i + m = ns.length - 1 ∧ Ex H H3 ∧ H3 c = some (.lst ((ns.drop 1).map V.int)) ∧ H3 D = some (.lst (((wordsOf t ns).take i).map vW)),
    ⟨ns.length - 1, by omega, s1.trans s2, ?_, ?_⟩, fun i m H3 hW => ?_⟩
  · rw [upd_ne ncD, upd_same, cut1, List.map_drop]
  · rw [upd_same]
    rfl
  · obtain ⟨em, sm, ec, eo⟩ := hW
    have hA : SqL K H3 a (ns.map V.int) := ex_l sm hS
    have hC : SqL K H3 c ((ns.drop 1).map V.int) := .inl (.inl ec)
    by_cases hi : i < ns.length - 1
    · have h1 : i < ns.length := by omega
      have h2 : i + 1 < ns.length := by omega
      have g1 : (ns.map V.int)[i]? = some (.int ns[i]) := by
        rw [List.getElem?_map, List.getElem?_eq_getElem h1]
        rfl
      have g2 : ((ns.drop 1).map V.int)[i]? = some (.int ns[i + 1]) := by
        rw [List.getElem?_map, List.getElem?_drop, Nat.add_comm 1 i, List.getElem?_eq_getElem h2]
        rfl
      have gd : (wordsOf t ns)[i]? = some (mv t ns[i] ns[i + 1]) := wordsOf_get t ns i _ _ (List.getElem?_eq_getElem h1) (List.getElem?_eq_getElem h2)
      refine .inr ⟨⟨_, _, _, _, hA, hC, g1, g2⟩, fun H' => Ex H H' ∧ H' c = some (.lst ((ns.drop 1).map V.int)) ∧ H' D = some (.lst (((wordsOf t ns).take (i + 1)).map vW)), fun H' hN => ?_, fun x H' hy => ?_⟩
      · obtain ⟨sm', ec', eo'⟩ := hN
        exact ⟨m - 1, by omega, by omega, sm', ec', eo'⟩
      · obtain ⟨T, x1, x2, rfl, nT, rfl, f1, f2⟩ := hy
        have ex1 : x1 = .int ns[i] := Option.some.inj ((f1 _ hA).symm.trans g1)
        have ex2 : x2 = .int ns[i + 1] := Option.some.inj ((f2 _ hC).symm.trans g2)
        subst ex1 ex2
        have nTo : D ≠ T := ne_of_none eo nT
        have nTc : c ≠ T := ne_of_none ec nT
        have smT : Ex H3 (upd H3 T (.tup [.int ns[i], .int ns[i + 1]])) := Ex.new nT
        refine ⟨T, [.int ns[i], .int ns[i + 1]], rfl, .inl (.inl upd_same), rfl, _, [.int ns[i + 1]], rfl, _, [], rfl, rfl, rfl, ?_⟩
        dsimp only [tYes]
        rw [if_pos rfl]
        refine ⟨_, rfl, _, rfl, _, rfl, t, ns[i], ns[i + 1], rfl, ?_⟩
        have eoT : (upd H3 T (.tup [.int ns[i], .int ns[i + 1]])) D = some (.lst (((wordsOf t ns).take i).map vW)) := smT _ _ eo
        refine ⟨_, eoT, ?_, (sm.trans smT).mut hD0, ?_, ?_⟩
        · rw [List.length_map, List.length_take]
          exact Nat.lt_of_le_of_lt (Nat.min_le_left _ _) (small1000 (by omega))
        · rw [upd_ne ncD]
          exact smT _ _ ec
        · rw [upd_same, List.take_add_one, gd, List.map_append]
          rfl
    · refine .inl ⟨⟨_, _, hA, hC, .inr ?_⟩, ?_⟩
      · rw [List.length_map, List.length_drop]
        omega
      · have ei : (wordsOf t ns).take i = wordsOf t ns := List.take_of_length_le (by
          rw [wordsOf_len]
          omega)
        rw [ei] at eo
        exact q D H3 hD0 sm eo
theorem len_row_of_answers {K : PySem.W.Frag} {vs : List V} {H : Hp} {Q : VK} {E : XK} (h : sp_row_of_answers K vs H Q E) : vs.length = 2 := by
  obtain ⟨t, a, ns, rfl, _⟩ := h
  rfl
def sp_can_lie (K : PySem.W.Frag) : Sp := fun vs H Q _ => ∃ (l : Int) (s a : Addr) (st : List Int) (ws : List Wo), vs = [.int l, .ref s, .ref a] ∧ 1 ≤ l ∧ l ≤ 60 ∧ H s = some (.lst (st.map V.int)) ∧ st.length ≤ 40 ∧ Places l st ∧ H a = some (.lst (ws.map vW)) ∧ ws.length = st.length - 1 ∧
  ∀ p H', H p = none → Ex H H' → H' p = some (.tup ((lies l st ws).map V.int)) → Q (.ref p) H'
abbrev N_can_lie : List Str := ["length", "stands", "answers", "place"]
def t_can_lie (K : PySem.W.Frag) : TS := (tSeq (tDrop (tCall (sp_check_length K) [] E0 (tCons (tVar 0) tNil)))
  (tSeq (tDrop (tCall (sp_check_stands K) [] E0 (tCons (tVar 1) (tCons (tVar 0) tNil))))
  (tSeq (tDrop (tCall (sp_check_answers K) [] E0 (tCons (tVar 2) (tCons (tVar 1) tNil))))
  (tRet (tCB (rTupleOf K) (tCons (tLc (iRng2 (tCons (tC (.int 1)) (tCons (tOp (rI0 fun i j => .int (i + j)) (tVar 0) (tC (.int 1))) tNil))) (gName 3) (tTest (tOp (rEqD K) (tCall (sp_row_of_answers K) [] E0 (tCons (tVar 3) (tCons (tVar 1) tNil))) (tVar 2))) (tVar 3) [3]) tNil))))))
theorem pure_can_lie {K : PySem.W.Frag} {vs : List V} {H : Hp} {Q : VK} {E : XK} (h : sp_can_lie K vs H Q E) : t_can_lie K { nx := fun _ H' => Q .non H', rt := Q } (start N_can_lie vs) H := by
  obtain ⟨l, s, a, st, ws, rfl, h1, h2, hs, hl, hp, ha, hw, q⟩ := h
  refine ⟨_, rfl, l, rfl, h1, h2, ?_⟩
  refine ⟨_, rfl, _, rfl, s, st, l, rfl, hs, hl, hp, fun H1 e1 => ?_⟩
  refine ⟨_, rfl, _, rfl, a, s, ws, st, rfl, e1 _ _ ha, SqL.of (e1 _ _ hs), hw, by omega, fun H2 e2 => ?_⟩
  have hs2 := e2 _ _ (e1 _ _ hs)
  have ha2 := e2 _ _ (e1 _ _ ha)
  have hc : Evl.EvL (tLc (iRng2 (tCons (tC (.int 1)) (tCons (tOp (rI0 fun i j => .int (i + j)) (tVar 0) (tC (.int 1))) tNil))) (gName 3) (tTest (tOp (rEqD K) (tCall (sp_row_of_answers K) [] E0 (tCons (tVar 3) (tCons (tVar 1) tNil))) (tVar 2))) (tVar 3) [3]) (start N_can_lie [.int l, .ref s, .ref a]) H2 (((rng 1 (l + 1)).filter fun t => decide (wordsOf t st = ws)).map V.int) := by
    refine el_rng (fun t => decide (wordsOf t st = ws)) V.int (Evl.ea_cons Evl.ev_c (Evl.ea_cons (Evl.ev_op (Evl.ev_var rfl) Evl.ev_c Evl.rv_I0) Evl.ea_nil)) (by omega) (fun _ => rfl) (fun n H3 e3 _ _ => ?_) (fun n H3 e3 _ _ _ => Evl.ev_var rfl)
    intro H4 e4 Q4 q4
    refine ⟨_, rfl, _, rfl, n, s, st, rfl, SqL.of ((e3.trans e4) _ _ hs2), by omega, fun p H5 np e5 hp5 => ?_⟩
    refine ⟨_, rfl, ?_⟩
    exact eqWW (SqL.of hp5) (SqL.of (((e3.trans e4).trans e5) _ _ ha2)) ⟨_, rfl, q4 H5 e5⟩
  dsimp only [tRet, tCB, tCons]
  refine hc H2 (Ex.refl H2) _ fun p H3 np e3 h3 => ?_
  refine ⟨p, _, rfl, .inl ⟨SqL.of h3, fun u nu => ?_⟩⟩
  exact q u _ (fresh_back ((e1.trans e2).trans e3) nu) (((e1.trans e2).trans e3).trans (Ex.new nu)) upd_same
theorem len_can_lie {K : PySem.W.Frag} {vs : List V} {H : Hp} {Q : VK} {E : XK} (h : sp_can_lie K vs H Q E) : vs.length = 3 := by
  obtain ⟨l, s, a, st, ws, rfl, _⟩ := h
  rfl
def sp__law_cell_at (K : PySem.W.Frag) : Sp := fun vs H Q _ => ∃ (a : Addr) (ns : List Int) (k : Int), vs = [.ref a, .int k] ∧ SqL K H a (ns.map V.int) ∧ 0 ≤ k ∧ ∀ v : Int, Q (.int v) H
abbrev N__law_cell_at : List Str := ["script", "k"]
def t__law_cell_at (K : PySem.W.Frag) : TS := (tSeq (tIfS (tTest (tOp (rI0 fun i j => .bl (decide (i < j))) (tVar 1) (tCB (rLenQ K) (tCons (tVar 0) tNil)))) (tRet (tOp (rIxL K) (tVar 0) (tVar 1))) tNext)
  (tRet (tC (.int 0))))
theorem pure__law_cell_at {K : PySem.W.Frag} {vs : List V} {H : Hp} {Q : VK} {E : XK} (h : sp__law_cell_at K vs H Q E) : t__law_cell_at K { nx := fun _ H' => Q .non H', rt := Q } (start N__law_cell_at vs) H := by
  obtain ⟨a, ns, k, rfl, hS, hk, q⟩ := h
  refine ⟨_, rfl, _, rfl, a, _, rfl, .inl hS, _, _, rfl, rfl, _, rfl, ite2 (fun e => ?_) (fun _ => ?_)⟩
  · have e1 := of_decide_eq_true e
    rw [List.length_map] at e1
    obtain ⟨j, rfl⟩ := Int.eq_ofNat_of_zero_le hk
    have hj : j < ns.length := by omega
    refine ⟨_, rfl, _, rfl, a, _, _, .int ns[j], rfl, rfl, hS, atI_nat ?_, q _⟩
    rw [List.getElem?_map, List.getElem?_eq_getElem hj]
    rfl
  · exact q 0
theorem len__law_cell_at {K : PySem.W.Frag} {vs : List V} {H : Hp} {Q : VK} {E : XK} (h : sp__law_cell_at K vs H Q E) : vs.length = 2 := by
  obtain ⟨a, ns, k, rfl, _⟩ := h
  rfl
def sp__law_draws (K : PySem.W.Frag) : Sp := fun vs H Q _ => ∃ c : Int, vs = [.int c, .int 400, .int 1000] ∧ ∀ p H' (ds : List Int), H p = none → Ex H H' → H' p = some (.lst (ds.map V.int)) → ds.length = 400 → Q (.ref p) H'
abbrev N__law_draws : List Str := ["cell", "many", "size", "found", "rest", "stirred", "k"]
def t__law_draws (K : PySem.W.Frag) : TS := (tSeq (tAsg (tLst tNil) (gName 3))
  (tSeq (tAsg (tOp (rI CMul fun i j => .int (i * j)) (tVar 0) (tCB rInt1 (tCons (tOp (rI0 fun i j => .bl (decide (j ≤ i))) (tVar 0) (tOp (rI CPow fun i j => .int (i ^ j.toNat)) (tC (.int 10)) (tC (.int 18)))) tNil))) (gName 4))
  (tSeq (tAsg (tOp (rI (fun _ j => 0 < j) fun i j => .int (i % j)) (tVar 0) (tC (.int 2305843009213693951))) (gName 5))
  (tSeq (tFor (iRng1 (tCons (tOp (rI0 fun i j => .int (i + j)) (tVar 1) (tC (.int 3))) tNil)) (gName 6) (tSeq (tAsg (tOp (rI (fun _ j => 0 < j) fun i j => .int (i % j)) (tOp (rI0 fun i j => .int (i + j)) (tOp (rI0 fun i j => .int (i + j)) (tOp (rI0 fun i j => .int (i + j)) (tOp (rI CMul fun i j => .int (i * j)) (tVar 5) (tVar 5)) (tOp (rI CMul fun i j => .int (i * j)) (tC (.int 48271)) (tVar 5))) (tVar 6)) (tC (.int 1))) (tC (.int 2305843009213693951))) (gName 5))
  (tIfS (tAnd (tTest (tOp (rI0 fun i j => .bl (decide (j < i))) (tVar 6) (tC (.int 2)))) (tTest (tOp (rI0 fun i j => .bl (decide (j < i))) (tVar 4) (tC (.int 0))))) (tSeq (tDrop (tBM K "list" rAppend (tVar 3) (tCons (tOp (rI (fun _ j => 0 < j) fun i j => .int (i % j)) (tVar 4) (tVar 2)) tNil)))
  (tAsg (tOp (rI CDiv fun i j => .int (i / j)) (tVar 4) (tVar 2)) (gName 4))) (tIfS (tTest (tOp (rI0 fun i j => .bl (decide (j < i))) (tVar 6) (tC (.int 2)))) (tDrop (tBM K "list" rAppend (tVar 3) (tCons (tOp (rI (fun _ j => 0 < j) fun i j => .int (i % j)) (tOp (rI CDiv fun i j => .int (i / j)) (tVar 5) (tC (.int 4096))) (tVar 2)) tNil))) tNext))))
  (tRet (tVar 3))))))
theorem pure__law_draws {K : PySem.W.Frag} {vs : List V} {H : Hp} {Q : VK} {E : XK} (h : sp__law_draws K vs H Q E) : t__law_draws K { nx := fun _ H' => Q .non H', rt := Q } (start N__law_draws vs) H := by
  obtain ⟨c, rfl, q⟩ := h
  refine ⟨Nat.zero_le _, fun f nf => ?_⟩
  refine ⟨_, rfl, _, rfl, 10, 18, rfl, rfl, ⟨by decide, by decide, by decide⟩, _, _, rfl, rfl, .inr ⟨_, rfl, ?_⟩⟩
  refine ⟨_, _, rfl, rfl, .inr ?_, ?_⟩
  · by_cases hc : decide ((10 : Int) ^ Int.toNat 18 ≤ c) = true
    · rw [if_pos hc]
      exact ⟨by decide, by decide⟩
    · rw [if_neg hc]
      exact ⟨by decide, by decide⟩
  refine ⟨_, rfl, _, _, rfl, rfl, (by decide : (0 : Int) < 2305843009213693951), ?_⟩
  refine ⟨_, rfl, _, _, rfl, rfl, 403, rfl, by decide, by decide, ?_⟩
  refine for_range (lo := 0) (n := (403 : Int).toNat) (fun i σ H' => ∃ (r s : Int) (ds : List Int) (kv : Option V), σ = [some (.int c), some (.int 400), some (.int 1000), some (.ref f), some (.int r), some (.int s), kv] ∧ 0 ≤ s ∧ s < 2305843009213693951 ∧ Ex H H' ∧ H' f = some (.lst (ds.map V.int)) ∧ ds.length = i - 3)
    ⟨_, _, [], none, rfl, Int.emod_nonneg _ (by decide), Int.emod_lt_of_pos _ (by decide), Ex.new nf, upd_same, rfl⟩ ?_ ?_
  · rintro i σ H' hi ⟨r, s, ds, kv, rfl, h0, h1, he, hf, hl⟩
    have hi2 : i < 403 := hi
    have bs : -(2 ^ 64) < s ∧ s < 2 ^ 64 := ⟨by omega, by omega⟩
    refine ⟨_, rfl, _, rfl, s, s, rfl, rfl, .inl bs, _, rfl, 48271, s, rfl, rfl, .inl ⟨by decide, by decide⟩, _, _, rfl, rfl, _, rfl, _, _, rfl, rfl, _, _, rfl, rfl, _, _, rfl, rfl, (by decide : (0 : Int) < 2305843009213693951), ?_⟩
    have s0 : 0 ≤ (s * s + 48271 * s + (0 + (i : Int)) + 1) % 2305843009213693951 := Int.emod_nonneg _ (by decide)
    have s1 : (s * s + 48271 * s + (0 + (i : Int)) + 1) % 2305843009213693951 < 2305843009213693951 := Int.emod_lt_of_pos _ (by decide)
    have hsz : (ds.map V.int).length < sizeLine := by
      rw [List.length_map]
      exact small1000 (by omega)
    refine ⟨_, rfl, _, _, rfl, rfl, _, rfl, ite2 (fun e => ?_) (fun e => ?_)⟩
    · have e1 : (2 : Int) < 0 + (i : Int) := of_decide_eq_true e
      refine ⟨_, rfl, _, _, rfl, rfl, _, rfl, ite2 (fun e2 => ?_) (fun e2 => ?_)⟩
      · refine ⟨_, rfl, .inl ⟨rfl, _, SqL.of hf⟩, _, rfl, _, rfl, _, _, rfl, rfl, (by decide : (0 : Int) < 1000), f, _, _, rfl, rfl, hf, hsz, ?_⟩
        refine ⟨_, rfl, _, rfl, _, _, rfl, rfl, ⟨by decide, by decide⟩, ?_⟩
        refine ⟨_, _, ds ++ [r % 1000], _, rfl, s0, s1, he.mut nf, ?_, ?_⟩
        · rw [upd_same, List.map_append]
          rfl
        · rw [List.length_append, hl]
          show i - 3 + 1 = i + 1 - 3
          omega
      · refine ⟨_, rfl, _, _, rfl, rfl, _, rfl, ite2 (fun e3 => ?_) (fun e3 => absurd e e3)⟩
        refine ⟨_, rfl, .inl ⟨rfl, _, SqL.of hf⟩, _, rfl, _, _, rfl, rfl, ⟨by decide, by decide⟩, _, rfl, _, _, rfl, rfl, (by decide : (0 : Int) < 1000), f, _, _, rfl, rfl, hf, hsz, ?_⟩
        refine ⟨_, _, ds ++ [(s * s + 48271 * s + (0 + (i : Int)) + 1) % 2305843009213693951 / 4096 % 1000], _, rfl, s0, s1, he.mut nf, ?_, ?_⟩
        · rw [upd_same, List.map_append]
          rfl
        · rw [List.length_append, hl]
          show i - 3 + 1 = i + 1 - 3
          omega
    · have e1 : ¬ (2 : Int) < 0 + (i : Int) := fun z => e (decide_eq_true z)
      dsimp only
      rw [if_neg Bool.false_ne_true]
      refine ⟨_, rfl, _, _, rfl, rfl, _, rfl, ite2 (fun e3 => absurd e3 e) (fun e3 => ?_)⟩
      refine ⟨r, _, ds, _, rfl, s0, s1, he, hf, ?_⟩
      omega
  · rintro σ H' ⟨r, s, ds, kv, rfl, h0, h1, he, hf, hl⟩
    exact ⟨_, rfl, q f H' ds nf he hf (hl.trans rfl)⟩
theorem len__law_draws {K : PySem.W.Frag} {vs : List V} {H : Hp} {Q : VK} {E : XK} (h : sp__law_draws K vs H Q E) : vs.length = 3 := by
  obtain ⟨c, rfl, _⟩ := h
  rfl
def sp__law_bag (K : PySem.W.Frag) : Sp := fun vs H Q _ => ∃ (a : Addr) (ns : List Int) (k : Int), vs = [.ref a, .int k] ∧ SqL K H a (ns.map V.int) ∧ 0 ≤ k ∧ ∀ p H', H p = none → Ex H H' → Bag1 H' p → Q (.ref p) H'
abbrev N__law_bag : List Str := ["script", "k"]
def t__law_bag (K : PySem.W.Frag) : TS := (tRet (tLst (tCons (tCall (sp__law_draws K) [] E0 (tCons (tCall (sp__law_cell_at K) [] E0 (tCons (tVar 0) (tCons (tVar 1) tNil))) (tCons (tC (.int 400)) (tCons (tC (.int 1000)) tNil)))) (tCons (tC (.int 0)) tNil))))
theorem pure__law_bag {K : PySem.W.Frag} {vs : List V} {H : Hp} {Q : VK} {E : XK} (h : sp__law_bag K vs H Q E) : t__law_bag K { nx := fun _ H' => Q .non H', rt := Q } (start N__law_bag vs) H := by
  obtain ⟨a, ns, k, rfl, hS, hk, q⟩ := h
  refine ⟨_, rfl, _, rfl, a, ns, k, rfl, hS, hk, fun v => ?_⟩
  refine ⟨v, rfl, fun d H1 ds nd e1 hd hl => ?_⟩
  refine ⟨by show 2 ≤ sizeLine; decide, fun p np => ?_⟩
  refine q p _ (fresh_back e1 np) (e1.trans (Ex.new np)) ⟨d, 0, ds, upd_same, ?_, hl⟩
  rw [upd_ne (ne_of_none hd np)]
  exact hd
theorem len__law_bag {K : PySem.W.Frag} {vs : List V} {H : Hp} {Q : VK} {E : XK} (h : sp__law_bag K vs H Q E) : vs.length = 2 := by
  obtain ⟨a, ns, k, rfl, _⟩ := h
  rfl
def sp__law_bags (K : PySem.W.Frag) : Sp := fun vs H Q _ => ∃ (a : Addr) (ns : List Int) (m : Int), vs = [.ref a, .int m] ∧ SqL K H a (ns.map V.int) ∧ 0 ≤ m ∧ m ≤ 63 ∧ ∀ p H' (bs : List Addr), H p = none → Ex H H' → H' p = some (.lst (bs.map V.ref)) → Bags bs H' → (∀ b ∈ bs, H b = none) → Q (.ref p) H'
abbrev N__law_bags : List Str := ["script", "limit", "k"]
def t__law_bags (K : PySem.W.Frag) : TS := (tRet (tLc (iRng1 (tCons (tCB rMax2 (tCons (tC (.int 1)) (tCons (tCB rMin2 (tCons (tVar 1) (tCons (tCB (rLenQ K) (tCons (tVar 0) tNil)) tNil))) tNil))) tNil)) (gName 2) tYes (tCall (sp__law_bag K) [] E0 (tCons (tVar 0) (tCons (tVar 2) tNil))) [2]))
theorem pure__law_bags {K : PySem.W.Frag} {vs : List V} {H : Hp} {Q : VK} {E : XK} (h : sp__law_bags K vs H Q E) : t__law_bags K { nx := fun _ H' => Q .non H', rt := Q } (start N__law_bags vs) H := by
  obtain ⟨a, ns, m, rfl, hS, h0, h1, q⟩ := h
  refine ⟨_, rfl, _, rfl, a, _, rfl, .inl hS, m, _, rfl, 1, _, rfl, _, rfl, ?_, ?_, fun D hD => ?_⟩
  · split <;> split <;> omega
  · split <;> split <;> omega
  generalize hn : (if (if ((List.map V.int ns).length : Int) < m then ((List.map V.int ns).length : Int) else m) > 1 then (if ((List.map V.int ns).length : Int) < m then ((List.map V.int ns).length : Int) else m) else 1) = n
  have n63 : n ≤ 63 := by
    rw [← hn]
    split <;> split <;> omega
  have hDl : ∀ {H' : Hp} {b : Addr} {bs : List Addr}, Bag1 H' b → H' D = some (.lst (bs.map V.ref)) → b ≠ D := fun {H' b bs} ⟨d, c, ds, h1, _⟩ h2 e => by
    subst e
    rw [h1] at h2
    have e2 := HO.lst.inj (Option.some.inj h2)
    match bs, e2 with
    | [_, _], e2 => simp at e2
  refine lc_range (lo := 0) (n := n.toNat) (fun i H' => ∃ bs : List Addr, bs.length = i ∧ Ex H H' ∧ H' D = some (.lst (bs.map V.ref)) ∧ Bags bs H' ∧ ∀ b ∈ bs, H b = none)
    ⟨[], rfl, Ex.new hD, upd_same, fun _ hb => (nomatch hb), fun _ hb => (nomatch hb)⟩ (fun i H' hi p => ?_) (fun H' p => ?_)
  · obtain ⟨bs, hl, he, hd, hb, hf⟩ := p
    refine ⟨rfl, ?_⟩
    dsimp only [tYes]
    rw [if_pos rfl]
    refine ⟨_, rfl, _, rfl, a, ns, _, rfl, ex_l he hS, by omega, fun b H2 nb e2 hB => ?_⟩
    have nbD : b ≠ D := hDl hB (e2 _ _ hd)
    refine ⟨_, e2 _ _ hd, ?_, bs ++ [b], ?_, (he.trans e2).mut hD, ?_, ?_, ?_⟩
    · rw [List.length_map, hl]
      exact small1000 (by omega)
    · rw [List.length_append, hl]
      rfl
    · rw [upd_same, List.map_append]
      rfl
    · have hB2 : Bags (bs ++ [b]) H2 := fun x hx => by
        rcases List.mem_append.mp hx with z | z
        · exact (hb x z).ex e2
        · rw [List.mem_singleton.mp z]
          exact hB
      refine hB2.mut (fun z => ?_) (fun d ds h2 h3 e => ?_)
      · exact hDl (hB2 D z) (e2 _ _ hd) rfl
      · subst e
        rw [e2 _ _ hd] at h2
        have e3 := HO.lst.inj (Option.some.inj h2)
        match bs, ds, e3, hl with
        | [], ds, e3, _ =>
          have e4 : ds = [] := by simpa using e3.symm
          rw [e4] at h3
          cases h3
        | _ :: _, _ :: _, e3, _ => simp at e3
        | _ :: _, [], e3, _ => simp at e3
    · intro x hx
      rcases List.mem_append.mp hx with z | z
      · exact hf x z
      · rw [List.mem_singleton.mp z]
        exact fresh_back he nb
  · obtain ⟨bs, hl, he, hd, hb, hf⟩ := p
    exact q D H' bs hD he hd hb hf
theorem len__law_bags {K : PySem.W.Frag} {vs : List V} {H : Hp} {Q : VK} {E : XK} (h : sp__law_bags K vs H Q E) : vs.length = 2 := by
  obtain ⟨a, ns, m, rfl, _⟩ := h
  rfl
def sp__law_take (K : PySem.W.Frag) : Sp := fun vs H Q _ => ∃ (bs : List Addr) (b : Addr) (m : Int), vs = [.ref b, .int m] ∧ b ∈ bs ∧ Bags bs H ∧ 0 < m ∧ ∀ r H', 0 ≤ r → r < m → Kp bs H H' → Bags bs H' → Q (.int r) H'
abbrev N__law_take : List Str := ["bag", "many"]
def t__law_take (K : PySem.W.Frag) : TS := (tSeq (tAsg (tOp (rI0 fun i j => .int (i + j)) (tOp (rIxL K) (tVar 0) (tC (.int 1))) (tC (.int 1))) (gSub (tVar 0) (tC (.int 1)) rSetL))
  (tRet (tOp (rI (fun _ j => 0 < j) fun i j => .int (i % j)) (tOp (rIxL K) (tOp (rIxL K) (tVar 0) (tC (.int 0))) (tOp (rI (fun _ j => 0 < j) fun i j => .int (i % j)) (tOp (rIxL K) (tVar 0) (tC (.int 1))) (tCB (rLenQ K) (tCons (tOp (rIxL K) (tVar 0) (tC (.int 0))) tNil)))) (tVar 1))))
theorem pure__law_take {K : PySem.W.Frag} {vs : List V} {H : Hp} {Q : VK} {E : XK} (h : sp__law_take K vs H Q E) : t__law_take K { nx := fun _ H' => Q .non H', rt := Q } (start N__law_take vs) H := by
  obtain ⟨bs, b, m, rfl, hb, hB, hm, q⟩ := h
  obtain ⟨d, c, ds, h1, h2, h3⟩ := hB b hb
  have ndb : d ≠ b := fun e => by
    rw [e, h1] at h2
    have e2 := congrArg List.length (HO.lst.inj (Option.some.inj h2))
    rw [List.length_map, h3] at e2
    cases e2
  refine ⟨_, rfl, b, _, 1, .int c, rfl, rfl, SqL.of h1, rfl, c, 1, rfl, rfl, _, rfl, b, _, 1, 1, rfl, rfl, h1, rfl, ?_⟩
  have g1 : upd H b (.lst [.ref d, .int (c + 1)]) b = some (.lst [.ref d, .int (c + 1)]) := upd_same
  have g2 : upd H b (.lst [.ref d, .int (c + 1)]) d = some (.lst (ds.map V.int)) := by
    rw [upd_ne ndb]
    exact h2
  have hj0 : 0 ≤ (c + 1) % 400 := Int.emod_nonneg _ (by decide)
  have hj1 : (c + 1) % 400 < 400 := Int.emod_lt_of_pos _ (by decide)
  obtain ⟨j, ej⟩ := Int.eq_ofNat_of_zero_le hj0
  have hj : j < ds.length := by omega
  have el : ((ds.map V.int).length : Int) = 400 := by
    rw [List.length_map, h3]
    rfl
  refine ⟨_, rfl, b, _, 0, .ref d, rfl, rfl, SqL.of g1, rfl, _, rfl, b, _, 1, .int (c + 1), rfl, rfl, SqL.of g1, rfl, _, rfl, b, _, 0, .ref d, rfl, rfl, SqL.of g1, rfl, d, _, rfl, .inl (SqL.of g2), c + 1, _, rfl, rfl, ?_, ?_⟩
  · show (0 : Int) < ((ds.map V.int).length : Int)
    rw [el]
    decide
  refine ⟨d, ds.map V.int, _, .int ds[j], rfl, rfl, SqL.of g2, ?_, _, rfl, ds[j], m, rfl, rfl, hm, ?_⟩
  · rw [el, ej]
    refine atI_nat ?_
    rw [List.getElem?_map, List.getElem?_eq_getElem hj]
    rfl
  · refine q _ _ (Int.emod_nonneg _ (by omega)) (Int.emod_lt_of_pos _ hm) (fun a o na ha => ?_) (fun b' hb' => ?_)
    · have nab : a ≠ b := fun e => na (e ▸ hb)
      rw [upd_ne nab]
      exact ha
    · by_cases e : b' = b
      · subst e
        exact ⟨d, c + 1, ds, upd_same, g2, h3⟩
      · obtain ⟨d', c', ds', k1, k2, k3⟩ := hB b' hb'
        have nd' : d' ≠ b := fun z => by
          rw [z, h1] at k2
          have e2 := congrArg List.length (HO.lst.inj (Option.some.inj k2))
          rw [List.length_map, k3] at e2
          cases e2
        exact ⟨d', c', ds', by rw [upd_ne e]; exact k1, by rw [upd_ne nd']; exact k2, k3⟩
theorem len__law_take {K : PySem.W.Frag} {vs : List V} {H : Hp} {Q : VK} {E : XK} (h : sp__law_take K vs H Q E) : vs.length = 2 := by
  obtain ⟨bs, b, m, rfl, _⟩ := h
  rfl
def sp__law_some_stands (K : PySem.W.Frag) : Sp := fun vs H Q _ => ∃ (bs : List Addr) (b : Addr) (l m : Int), vs = [.ref b, .int l, .int m] ∧ b ∈ bs ∧ Bags bs H ∧ 1 ≤ l ∧ 0 ≤ m ∧ m ≤ 100 ∧
  ∀ p H' (ns : List Int), H p = none → Kp bs H H' → Bags bs H' → H' p = some (.lst (ns.map V.int)) → (ns.length : Int) ≤ m → Places l ns → Q (.ref p) H'
abbrev N__law_some_stands : List Str := ["bag", "length", "most", "found", "turn", "place"]
def t__law_some_stands (K : PySem.W.Frag) : TS := (tSeq (tAsg (tLst tNil) (gName 3))
  (tSeq (tFor (iRng1 (tCons (tCall (sp__law_take K) [] E0 (tCons (tVar 0) (tCons (tOp (rI0 fun i j => .int (i + j)) (tVar 2) (tC (.int 1))) tNil))) tNil)) (gName 4) (tSeq (tAsg (tOp (rI0 fun i j => .int (i + j)) (tC (.int 1)) (tCall (sp__law_take K) [] E0 (tCons (tVar 0) (tCons (tVar 1) tNil)))) (gName 5))
  (tSeq (tIfS (tAnd (tTest (tOp (rNeD K) (tVar 3) (tLst tNil))) (tTest (tOp rEq (tCall (sp__law_take K) [] E0 (tCons (tVar 0) (tCons (tC (.int 3)) tNil))) (tC (.int 0))))) (tAsg (tCB rMax2 (tCons (tC (.int 1)) (tCons (tCB rMin2 (tCons (tVar 1) (tCons (tOp (rI0 fun i j => .int (i - j)) (tOp (rI0 fun i j => .int (i + j)) (tOp (rIxL K) (tVar 3) (tUn (rU fun i => .int (-i)) (tC (.int 1)))) (tCall (sp__law_take K) [] E0 (tCons (tVar 0) (tCons (tC (.int 5)) tNil)))) (tC (.int 2))) tNil))) tNil))) (gName 5)) tNext)
  (tDrop (tBM K "list" rAppend (tVar 3) (tCons (tVar 5) tNil))))))
  (tRet (tVar 3))))
theorem places_add {l : Int} {ns : List Int} {n : Int} (h : Places l ns) (h1 : 1 ≤ n) (h2 : n ≤ l) : Places l (ns ++ [n]) := fun x hx => by
  rcases List.mem_append.mp hx with z | z
  · exact h x z
  · rw [List.mem_singleton.mp z]
    exact ⟨h1, h2⟩
theorem pure__law_some_stands {K : PySem.W.Frag} {vs : List V} {H : Hp} {Q : VK} {E : XK} (h : sp__law_some_stands K vs H Q E) : t__law_some_stands K { nx := fun _ H' => Q .non H', rt := Q } (start N__law_some_stands vs) H := by
  obtain ⟨bs, b, l, m, rfl, hb, hB, hl, hm0, hm, q⟩ := h
  refine ⟨Nat.zero_le _, fun f nf => ?_⟩
  have nfb : f ∉ bs := hB.fresh nf
  have B1 : Bags bs (upd H f (.lst [])) := hB.ex (Ex.new nf)
  refine ⟨_, rfl, _, rfl, m, 1, rfl, rfl, bs, b, m + 1, rfl, hb, B1, by omega, fun r H1 hr0 hr1 k1 B1 => ?_⟩
  have hf1 : H1 f = some (.lst []) := k1 f _ nfb upd_same
  have k0 : Kp bs H H1 := (Kp.ex (Ex.new nf)).trans k1
  refine ⟨r, rfl, by omega, by omega, ?_⟩
  refine for_range (lo := 0) (n := r.toNat) (fun i σ H' => ∃ (ns : List Int) (x y : Option V), σ = [some (.ref b), some (.int l), some (.int m), some (.ref f), x, y] ∧ Kp bs H H' ∧ Bags bs H' ∧ H' f = some (.lst (ns.map V.int)) ∧ ns.length = i ∧ Places l ns)
    ⟨[], none, none, rfl, k0, B1, hf1, rfl, fun _ hx => (nomatch hx)⟩ ?_ ?_
  · rintro i σ H2 hi ⟨ns, x, y, rfl, k2, B2, hf2, hlen, hP⟩
    refine ⟨_, rfl, _, rfl, bs, b, l, rfl, hb, B2, by omega, fun p H3 hp0 hp1 k3 B3 => ?_⟩
    have hf3 : H3 f = some (.lst (ns.map V.int)) := k3 f _ nfb hf2
    refine ⟨1, p, rfl, rfl, ?_⟩
    have app : ∀ (pl : Int) (H4 : Hp) (B4 : Bags bs H4) (k4 : Kp bs H H4) (hf4 : H4 f = some (.lst (ns.map V.int))), 1 ≤ pl → pl ≤ l →
        tDrop (tBM K "list" rAppend (tVar 3) (tCons (tVar 5) tNil)) { nx := fun σ H' => ∃ (ns : List Int) (x y : Option V), σ = [some (.ref b), some (.int l), some (.int m), some (.ref f), x, y] ∧ Kp bs H H' ∧ Bags bs H' ∧ H' f = some (.lst (ns.map V.int)) ∧ ns.length = i + 1 ∧ Places l ns, rt := Q, bk := fun _ _ => False, ct := fun _ _ => False }
          [some (.ref b), some (.int l), some (.int m), some (.ref f), some (.int (0 + (i : Int))), some (.int pl)] H4 := by
      intro pl H4 B4 k4 hf4 h1 h2
      refine ⟨_, rfl, .inl ⟨rfl, _, SqL.of hf4⟩, _, rfl, f, _, _, rfl, rfl, hf4, ?_, ns ++ [pl], _, _, rfl, k4.mut nf, ?_, ?_, ?_, places_add hP h1 h2⟩
      · rw [List.length_map]
        exact small1000 (by omega)
      · refine B4.mut nfb fun d ds hd hdl e => ?_
        subst e
        rw [hf4] at hd
        have e2 := congrArg List.length (HO.lst.inj (Option.some.inj hd))
        rw [List.length_map, List.length_map, hdl] at e2
        omega
      · rw [upd_same, List.map_append]
        rfl
      · rw [List.length_append, hlen]
        rfl
    refine ⟨_, rfl, Nat.zero_le _, fun z nz => ?_⟩
    have e3 : Ex H3 (upd H3 z (.lst [])) := Ex.new nz
    have B3z := B3.ex e3
    refine neII (ns := ns) (ms := []) (SqL.of (e3 _ _ hf3)) (SqL.of upd_same) ⟨_, rfl, ite2 (fun hne => ?_) (fun hne => ?_)⟩
    · have nne : ns ≠ [] := fun e => by
        subst e
        cases hne
      refine ⟨_, rfl, bs, b, 3, rfl, hb, B3z, by decide, fun c H4 _ _ k4 B4 => ?_⟩
      have hf4 : H4 f = some (.lst (ns.map V.int)) := k4 f _ nfb (e3 _ _ hf3)
      have kk4 : Kp bs H H4 := ((k2.trans k3).trans (Kp.ex e3)).trans k4
      refine ⟨rfl, _, rfl, ite2 (fun _ => ?_) (fun _ => ?_)⟩
      · have ha : ∃ y : Int, atI (ns.map V.int) (-1) = some (.int y) := by
          refine ⟨ns.getLast nne, ?_⟩
          have ez : ns.map V.int = (ns.dropLast.map V.int) ++ [V.int (ns.getLast nne)] := by
            rw [← List.map_singleton, ← List.map_append, List.dropLast_concat_getLast]
          rw [ez]
          exact atI_last _ _
        obtain ⟨y, ha⟩ := ha
        refine ⟨_, rfl, _, rfl, 1, rfl, f, _, -1, _, rfl, rfl, SqL.of hf4, ha, _, rfl, bs, b, 5, rfl, hb, B4, by decide, fun d H5 _ _ k5 B5 => ?_⟩
        refine ⟨y, d, rfl, rfl, y + d, 2, rfl, rfl, l, y + d - 2, rfl, 1, _, rfl, ?_⟩
        refine app _ H5 B5 (kk4.trans k5) (k5 f _ nfb hf4) ?_ ?_
        · split <;> split <;> omega
        · split <;> split <;> omega
      · exact app _ H4 B4 kk4 hf4 (by omega) (by omega)
    · exact app _ _ B3z ((k2.trans k3).trans (Kp.ex e3)) (e3 _ _ hf3) (by omega) (by omega)
  · rintro σ H2 ⟨ns, x, y, rfl, k2, B2, hf2, hlen, hP⟩
    exact ⟨_, rfl, q f H2 ns nf k2 B2 hf2 (by omega) hP⟩
theorem len__law_some_stands {K : PySem.W.Frag} {vs : List V} {H : Hp} {Q : VK} {E : XK} (h : sp__law_some_stands K vs H Q E) : vs.length = 3 := by
  obtain ⟨bs, b, l, m, rfl, _⟩ := h
  rfl
def sp__law_word (K : PySem.W.Frag) : Sp := fun vs H Q _ => ∃ f n : Int, vs = [.int f, .int n] ∧ Q (vW (word f n)) H
abbrev N__law_word : List Str := ["far", "near"]
def t__law_word (K : PySem.W.Frag) : TS := (tSeq (tIfS (tTest (tOp (rI0 fun i j => .bl (decide (i < j))) (tVar 1) (tVar 0))) (tRet (tC (.str (Str.ofString "warm")))) tNext)
  (tRet (tIf (tTest (tOp (rI0 fun i j => .bl (decide (j < i))) (tVar 1) (tVar 0))) (tC (.str (Str.ofString "cold"))) (tC (.str (Str.ofString "same"))))))
theorem pure__law_word {K : PySem.W.Frag} {vs : List V} {H : Hp} {Q : VK} {E : XK} (h : sp__law_word K vs H Q E) : t__law_word K { nx := fun _ H' => Q .non H', rt := Q } (start N__law_word vs) H := by
  obtain ⟨f, n, rfl, q⟩ := h
  refine ⟨_, rfl, _, rfl, n, f, rfl, rfl, _, rfl, ite2 (fun h1 => ?_) (fun h1 => ?_)⟩
  · have e1 : word f n = .warm := if_pos (of_decide_eq_true h1)
    rw [e1] at q
    exact q
  · have n1 : ¬ n < f := fun z => h1 (decide_eq_true z)
    refine ⟨_, rfl, _, rfl, n, f, rfl, rfl, _, rfl, ite2 (fun h2 => ?_) (fun h2 => ?_)⟩
    · have e2 : word f n = .cold := (if_neg n1).trans (if_pos (of_decide_eq_true h2))
      rw [e2] at q
      exact q
    · have n2 : ¬ f < n := fun z => h2 (decide_eq_true z)
      have e3 : word f n = .same := (if_neg n1).trans (if_neg n2)
      rw [e3] at q
      exact q
theorem len__law_word {K : PySem.W.Frag} {vs : List V} {H : Hp} {Q : VK} {E : XK} (h : sp__law_word K vs H Q E) : vs.length = 2 := by
  obtain ⟨f, n, rfl, _⟩ := h
  rfl
def sp__law_words (K : PySem.W.Frag) : Sp := fun vs H Q _ => ∃ (t : Int) (a : Addr) (ns : List Int), vs = [.int t, .ref a] ∧ SqL K H a (ns.map V.int) ∧ ns.length ≤ 1000 ∧ ∀ p H', H p = none → Ex H H' → H' p = some (.lst ((wordsOf t ns).map vW)) → Q (.ref p) H'
abbrev N__law_words : List Str := ["thing", "stands", "found", "place"]
def t__law_words (K : PySem.W.Frag) : TS := (tSeq (tAsg (tLst tNil) (gName 2))
  (tSeq (tFor (iRng2 (tCons (tC (.int 1)) (tCons (tCB (rLenQ K) (tCons (tVar 1) tNil)) tNil))) (gName 3) (tDrop (tBM K "list" rAppend (tVar 2) (tCons (tCall (sp__law_word K) [] E0 (tCons (tCB rAbs (tCons (tOp (rI0 fun i j => .int (i - j)) (tVar 0) (tOp (rIxL K) (tVar 1) (tOp (rI0 fun i j => .int (i - j)) (tVar 3) (tC (.int 1))))) tNil)) (tCons (tCB rAbs (tCons (tOp (rI0 fun i j => .int (i - j)) (tVar 0) (tOp (rIxL K) (tVar 1) (tVar 3))) tNil)) tNil))) tNil))))
  (tRet (tVar 2))))
theorem pure__law_words {K : PySem.W.Frag} {vs : List V} {H : Hp} {Q : VK} {E : XK} (h : sp__law_words K vs H Q E) : t__law_words K { nx := fun _ H' => Q .non H', rt := Q } (start N__law_words vs) H := by
  obtain ⟨t, a, ns, rfl, hS, hlen, q⟩ := h
  refine ⟨Nat.zero_le _, fun f nf => ?_⟩
  have e0 : Ex H (upd H f (.lst [])) := Ex.new nf
  have el : ((ns.map V.int).length : Int) = (ns.length : Int) := by rw [List.length_map]
  refine ⟨_, rfl, a, _, rfl, .inl (ex_l e0 hS), 1, _, rfl, ⟨by decide, by decide, by omega, by omega⟩, ?_⟩
  refine for_range (lo := 1) (n := (((ns.map V.int).length : Int) - 1).toNat) (fun i σ H' => ∃ kv : Option V, σ = [some (.int t), some (.ref a), some (.ref f), kv] ∧ Ex H H' ∧ H' f = some (.lst (((wordsOf t ns).take i).map vW)))
    ⟨none, rfl, e0, upd_same⟩ ?_ ?_
  · rintro i σ H' hi ⟨kv, rfl, he, hf⟩
    have h2 : i + 1 < ns.length := by omega
    have h1 : i < ns.length := by omega
    have gd : (wordsOf t ns)[i]? = some (mv t ns[i] ns[i + 1]) := wordsOf_get t ns i _ _ (List.getElem?_eq_getElem h1) (List.getElem?_eq_getElem h2)
    have a1 : atI (ns.map V.int) (1 + (i : Int) - 1) = some (.int ns[i]) := at_of (j := i) (by omega) (by
      rw [List.getElem?_map, List.getElem?_eq_getElem h1]
      rfl)
    have a2 : atI (ns.map V.int) (1 + (i : Int)) = some (.int ns[i + 1]) := at_of (j := i + 1) (by omega) (by
      rw [List.getElem?_map, List.getElem?_eq_getElem h2]
      rfl)
    refine ⟨_, rfl, .inl ⟨rfl, _, SqL.of hf⟩, _, rfl, _, rfl, _, rfl, _, _, rfl, rfl, a, _, _, _, rfl, rfl, ex_l he hS, a1, _, _, rfl, rfl, _, rfl, _, rfl, _, rfl, _, rfl, a, _, _, _, rfl, rfl, ex_l he hS, a2, _, _, rfl, rfl, _, rfl, _, _, rfl, ?_⟩
    refine ⟨f, _, _, rfl, rfl, hf, ?_, _, rfl, he.mut nf, ?_⟩
    · rw [List.length_map, List.length_take]
      exact Nat.lt_of_le_of_lt (Nat.min_le_left _ _) (small1000 (by omega))
    · rw [upd_same, List.take_add_one, gd, List.map_append]
      rfl
  · rintro σ H' ⟨kv, rfl, he, hf⟩
    have ei : (wordsOf t ns).take (((ns.map V.int).length : Int) - 1).toNat = wordsOf t ns := List.take_of_length_le (by
      rw [wordsOf_len]
      omega)
    rw [ei] at hf
    exact ⟨_, rfl, q f H' nf he hf⟩
theorem len__law_words {K : PySem.W.Frag} {vs : List V} {H : Hp} {Q : VK} {E : XK} (h : sp__law_words K vs H Q E) : vs.length = 2 := by
  obtain ⟨t, a, ns, rfl, _⟩ := h
  rfl
def sp__law_bent_words (K : PySem.W.Frag) : Sp := fun vs H Q _ => ∃ (bs : List Addr) (b a : Addr) (ws : List Wo), vs = [.ref b, .ref a] ∧ b ∈ bs ∧ Bags bs H ∧ H a = some (.lst (ws.map vW)) ∧ a ∉ bs ∧ ws.length ≤ 100 ∧
  ∀ p H' (us : List Wo), H p = none → Kp bs H H' → Bags bs H' → H' p = some (.lst (us.map vW)) → us.length = ws.length → Q (.ref p) H'
abbrev N__law_bent_words : List Str := ["bag", "words", "found", "turn"]
def t__law_bent_words (K : PySem.W.Frag) : TS := (tSeq (tAsg (tCB (rListOf K) (tCons (tVar 1) tNil)) (gName 2))
  (tSeq (tFor (iRng1 (tCons (tOp (rI CMul fun i j => .int (i * j)) (tCall (sp__law_take K) [] E0 (tCons (tVar 0) (tCons (tC (.int 3)) tNil))) (tCB rInt1 (tCons (tOp (rNeD K) (tVar 1) (tLst tNil)) tNil))) tNil)) (gName 3) (tAsg (tOp (rIxL K) (tLst (tCons (tC (.str (Str.ofString "warm"))) (tCons (tC (.str (Str.ofString "cold"))) (tCons (tC (.str (Str.ofString "same"))) tNil)))) (tCall (sp__law_take K) [] E0 (tCons (tVar 0) (tCons (tC (.int 3)) tNil)))) (gSub (tVar 2) (tCall (sp__law_take K) [] E0 (tCons (tVar 0) (tCons (tCB (rLenQ K) (tCons (tVar 2) tNil)) tNil))) rSetL)))
  (tRet (tVar 2))))
theorem pure__law_bent_words {K : PySem.W.Frag} {vs : List V} {H : Hp} {Q : VK} {E : XK} (h : sp__law_bent_words K vs H Q E) : t__law_bent_words K { nx := fun _ H' => Q .non H', rt := Q } (start N__law_bent_words vs) H := by
  obtain ⟨bs, b, a, ws, rfl, hb, hB, ha, nab, hl, q⟩ := h
  refine ⟨_, rfl, a, _, rfl, .inl (SqL.of ha), fun f nf => ?_⟩
  have nfb : f ∉ bs := hB.fresh nf
  have e1 : Ex H (upd H f (.lst (ws.map vW))) := Ex.new nf
  refine ⟨_, rfl, bs, b, 3, rfl, hb, hB.ex e1, by decide, fun r H2 hr0 hr1 k2 B2 => ?_⟩
  have ha2 := k2 a _ nab (e1 _ _ ha)
  have hf2 : H2 f = some (.lst (ws.map vW)) := k2 f _ nfb upd_same
  refine ⟨_, rfl, Nat.zero_le _, fun z nz => ?_⟩
  have e3 : Ex H2 (upd H2 z (.lst [])) := Ex.new nz
  refine neWW (ns := ws) (ms := []) (SqL.of (e3 _ _ ha2)) (SqL.of upd_same) (.inr ⟨_, rfl, ?_⟩)
  have B3 := B2.ex e3
  have hf3 := e3 _ _ hf2
  have k3 : Kp bs H (upd H2 z (.lst [])) := ((Kp.ex e1).trans k2).trans (Kp.ex e3)
  generalize upd H2 z (.lst []) = H3 at B3 hf3 k3 ⊢
  have hbnd : 0 ≤ r * (if (!decide (ws = [])) = true then 1 else 0) ∧ r * (if (!decide (ws = [])) = true then 1 else 0) ≤ 2 ∧ (ws = [] → r * (if (!decide (ws = [])) = true then 1 else 0) = 0) := by
    by_cases hw : ws = []
    · subst hw
      simp
    · simp [hw]
      omega
  obtain ⟨b0, b1, b2⟩ := hbnd
  refine ⟨r, _, rfl, rfl, .inl ⟨by omega, by omega⟩, _, rfl, by omega, by omega, ?_⟩
  refine for_range (lo := 0) (n := (r * (if (!decide (ws = [])) = true then 1 else 0)).toNat) (fun i σ H' => ∃ (us : List Wo) (x : Option V), σ = [some (.ref b), some (.ref a), some (.ref f), x] ∧ Kp bs H H' ∧ Bags bs H' ∧ H' f = some (.lst (us.map vW)) ∧ us.length = ws.length)
    ⟨ws, none, rfl, k3, B3, hf3, rfl⟩ ?_ ?_
  · rintro i σ H4 hi ⟨us, x, rfl, k4, B4, hf4, hul⟩
    have hne : ws ≠ [] := fun e => by
      have := b2 e
      omega
    have hpos : 0 < ws.length := List.length_pos_iff.mpr hne
    refine ⟨by show 3 ≤ sizeLine; decide, fun y ny => ?_⟩
    have e5 : Ex H4 (upd H4 y (.lst ([Wo.warm, .cold, .same].map vW))) := Ex.new ny
    have nyb : y ∉ bs := B4.fresh ny
    refine ⟨_, rfl, bs, b, 3, rfl, hb, B4.ex e5, by decide, fun c H6 hc0 hc1 k6 B6 => ?_⟩
    have hy6 : H6 y = some (.lst ([Wo.warm, .cold, .same].map vW)) := k6 y _ nyb upd_same
    have hf6 := k6 f _ nfb (e5 _ _ hf4)
    obtain ⟨u, hu⟩ : ∃ u : Wo, atI ([Wo.warm, .cold, .same].map vW) c = some (vW u) := by
      have hc : c = 0 ∨ c = 1 ∨ c = 2 := by omega
      rcases hc with rfl | rfl | rfl
      · exact ⟨.warm, rfl⟩
      · exact ⟨.cold, rfl⟩
      · exact ⟨.same, rfl⟩
    refine ⟨y, _, c, vW u, rfl, rfl, SqL.of hy6, hu, ?_⟩
    refine ⟨_, rfl, _, rfl, _, rfl, f, _, rfl, .inl (SqL.of hf6), bs, b, _, rfl, hb, B6, ?_, fun j H7 hj0 hj1 k7 B7 => ?_⟩
    · rw [List.length_map]
      omega
    have hf7 := k7 f _ nfb hf6
    obtain ⟨jn, rfl⟩ := Int.eq_ofNat_of_zero_le hj0
    have hjl : jn < us.length := by
      rw [List.length_map] at hj1
      omega
    refine ⟨f, us.map vW, _, jn, rfl, rfl, hf7, Evl.ixN_nat (by rw [List.length_map]; exact hjl), us.set jn u, _, rfl, (((k4.trans (Kp.ex e5)).trans k6).trans k7).mut nf, ?_, ?_, ?_⟩
    · refine B7.mut nfb fun d ds hd hdl e => ?_
      subst e
      rw [hf7] at hd
      have e2 := congrArg List.length (HO.lst.inj (Option.some.inj hd))
      rw [List.length_map, List.length_map, hdl] at e2
      omega
    · rw [upd_same, List.map_set]
    · rw [List.length_set]
      exact hul
  · rintro σ H4 ⟨us, x, rfl, k4, B4, hf4, hul⟩
    exact ⟨_, rfl, q f H4 us nf k4 B4 hf4 hul⟩
theorem len__law_bent_words {K : PySem.W.Frag} {vs : List V} {H : Hp} {Q : VK} {E : XK} (h : sp__law_bent_words K vs H Q E) : vs.length = 2 := by
  obtain ⟨bs, b, a, ws, rfl, _⟩ := h
  rfl
def sp_law (K : PySem.W.Frag) : Sp := fun vs H Q _ => ∃ (a : Addr) (ns : List Int), vs = [.ref a] ∧ SqL K H a (ns.map V.int) ∧ ns.length ≤ 63 ∧ ∀ H', Q (.bl true) H'
abbrev N_law : List Str := ["script", "bag", "length", "stands", "true", "words", "due", "thing"]
def t_law (K : PySem.W.Frag) : TS := (tSeq (tFor (iList K (tCall (sp__law_bags K) [] E0 (tCons (tVar 0) (tCons (tC (.int 10)) tNil)))) (gName 1) (tSeq (tAsg (tOp (rI0 fun i j => .int (i + j)) (tC (.int 1)) (tCall (sp__law_take K) [] E0 (tCons (tVar 1) (tCons (tOp (rIxL K) (tLst (tCons (tC (.int 8)) (tCons (tC (.int 60)) tNil))) (tCall (sp__law_take K) [] E0 (tCons (tVar 1) (tCons (tC (.int 2)) tNil)))) tNil)))) (gName 2))
  (tSeq (tAsg (tCall (sp__law_some_stands K) [] E0 (tCons (tVar 1) (tCons (tVar 2) (tCons (tC (.int 12)) tNil)))) (gName 3))
  (tSeq (tAsg (tCall (sp__law_words K) [] E0 (tCons (tOp (rI0 fun i j => .int (i + j)) (tC (.int 1)) (tCall (sp__law_take K) [] E0 (tCons (tVar 1) (tCons (tVar 2) tNil)))) (tCons (tVar 3) tNil))) (gName 4))
  (tFor (iTup K (tTup (tCons (tVar 4) (tCons (tCall (sp__law_bent_words K) [] E0 (tCons (tVar 1) (tCons (tVar 4) tNil))) (tCons (tCall (sp__law_bent_words K) [] E0 (tCons (tVar 1) (tCons (tVar 4) tNil))) tNil))))) (gName 5) (tSeq (tAsg (tCB (rTupleOf K) (tCons (tLc (iRng2 (tCons (tC (.int 1)) (tCons (tOp (rI0 fun i j => .int (i + j)) (tVar 2) (tC (.int 1))) tNil))) (gName 7) (tTest (tOp (rEqD K) (tCall (sp__law_words K) [] E0 (tCons (tVar 7) (tCons (tVar 3) tNil))) (tVar 5))) (tVar 7) [7]) tNil)) (gName 6))
  (tIfS (tTest (tOp (rNeD K) (tCall (sp_can_lie K) [] E0 (tCons (tVar 2) (tCons (tVar 3) (tCons (tVar 5) tNil)))) (tVar 6))) (tRet (tC (.bl false))) tNext)))))))
  (tRet (tAndV (tOp (rEqD K) (tCall (sp_can_lie K) [] E0 (tCons (tC (.int 9)) (tCons (tLst (tCons (tC (.int 1)) (tCons (tC (.int 5)) (tCons (tC (.int 3)) tNil)))) (tCons (tLst (tCons (tC (.str (Str.ofString "warm"))) (tCons (tC (.str (Str.ofString "same"))) tNil))) tNil)))) (tTup (tCons (tC (.int 4)) tNil))) (tOp (rEqD K) (tCall (sp_can_lie K) [] E0 (tCons (tC (.int 3)) (tCons (tLst (tCons (tC (.int 1)) (tCons (tC (.int 3)) (tCons (tC (.int 1)) tNil)))) (tCons (tLst (tCons (tC (.str (Str.ofString "warm"))) (tCons (tC (.str (Str.ofString "warm"))) tNil))) tNil)))) (tTup tNil)))))
theorem pure_law {K : PySem.W.Frag} {vs : List V} {H : Hp} {Q : VK} {E : XK} (h : sp_law K vs H Q E) : t_law K { nx := fun _ H' => Q .non H', rt := Q } (start N_law vs) H := by
  obtain ⟨a, ns, rfl, hS, hlen, q⟩ := h
  refine ⟨_, rfl, a, ns, 10, rfl, hS, by decide, by decide, fun L H1 bs nL e1 hL hB nb => ?_⟩
  refine ⟨L, rfl, ⟨_, SqL.of hL⟩, ?_⟩
  have nLb : L ∉ bs := bags_list hB hL
  refine for_list (K := K) (a := L) (xs := bs.map V.ref) (fun i σ H' => ∃ x1 x2 x3 x4 x5 x6 x7 : Option V, σ = [some (.ref a), x1, x2, x3, x4, x5, x6, x7] ∧ Kp bs H1 H' ∧ Bags bs H')
    ⟨none, none, none, none, none, none, none, rfl, Kp.refl bs H1, hB⟩ (fun i σ H' _ ⟨_, _, _, _, _, _, _, _, k, _⟩ => SqL.of (k L _ nLb hL)) ?_ ?_
  · rintro i x σ H2 hx ⟨x1, x2, x3, x4, x5, x6, x7, rfl, k2, B2⟩
    obtain ⟨b, hb, rfl⟩ := ref_at hx
    refine ⟨_, rfl, by show 2 ≤ sizeLine; decide, fun z nz => ?_⟩
    have e2 : Ex H2 (upd H2 z (.lst [.int 8, .int 60])) := Ex.new nz
    have B2z := B2.ex e2
    have nzb : z ∉ bs := B2.fresh nz
    refine ⟨_, rfl, bs, b, 2, rfl, hb, B2z, by decide, fun r H3 hr0 hr1 k3 B3 => ?_⟩
    have hz3 : H3 z = some (.lst [.int 8, .int 60]) := k3 z _ nzb upd_same
    obtain ⟨m, hm, hm0, hm1⟩ : ∃ m : Int, atI [V.int 8, V.int 60] r = some (.int m) ∧ 0 < m ∧ m ≤ 60 := by
      have hr : r = 0 ∨ r = 1 := by omega
      rcases hr with rfl | rfl
      · exact ⟨8, rfl, by decide, by decide⟩
      · exact ⟨60, rfl, by decide, by decide⟩
    refine ⟨z, _, r, .int m, rfl, rfl, SqL.of hz3, hm, bs, b, m, rfl, hb, B3, hm0, fun l0 H4 hl0 hl1 k4 B4 => ?_⟩
    have k24 : Kp bs H1 H4 := ((k2.trans (Kp.ex e2)).trans k3).trans k4
    refine ⟨1, l0, rfl, rfl, ?_⟩
    have hl1 : 1 ≤ 1 + l0 := by omega
    have hl60 : 1 + l0 ≤ 60 := by omega
    dsimp only
    generalize 1 + l0 = l at hl1 hl60 ⊢
    refine ⟨_, rfl, _, rfl, bs, b, l, 12, rfl, hb, B4, hl1, by decide, by decide, fun s H5 st ns5 k5 B5 hs5 hst hP => ?_⟩
    have hst40 : st.length ≤ 40 := by omega
    have nsb : s ∉ bs := B4.fresh ns5
    refine ⟨_, rfl, _, rfl, bs, b, l, rfl, hb, B5, by omega, fun t0 H6 ht0 ht1 k6 B6 => ?_⟩
    have hs6 := k6 s _ nsb hs5
    refine ⟨1, t0, rfl, rfl, _, rfl, 1 + t0, s, st, rfl, SqL.of hs6, by omega, fun w0 H7 nw0 e7 hw0 => ?_⟩
    have B7 := B6.ex e7
    have hs7 := e7 _ _ hs6
    have nw0b : w0 ∉ bs := B6.fresh nw0
    have hwl : (wordsOf (1 + t0) st).length = st.length - 1 := wordsOf_len _ _
    generalize wordsOf (1 + t0) st = ws at hw0 hwl
    refine ⟨_, rfl, _, rfl, _, rfl, bs, b, w0, ws, rfl, hb, B7, hw0, nw0b, by omega, fun w1 H8 ws1 nw1 k8 B8 hw1 hl8 => ?_⟩
    have nw1b : w1 ∉ bs := B7.fresh nw1
    refine ⟨_, rfl, _, rfl, bs, b, w0, ws, rfl, hb, B8, k8 _ _ nw0b hw0, nw0b, by omega, fun w2 H9 ws2 nw2 k9 B9 hw2 hl9 => ?_⟩
    have nw2b : w2 ∉ bs := B8.fresh nw2
    refine ⟨by show 3 ≤ sizeLine; decide, fun T nT => ?_⟩
    have e10 : Ex H9 (upd H9 T (.tup [.ref w0, .ref w1, .ref w2])) := Ex.new nT
    have hT10 : (upd H9 T (.tup [.ref w0, .ref w1, .ref w2])) T = some (.tup [.ref w0, .ref w1, .ref w2]) := upd_same
    have B10 := B9.ex e10
    have hs10 := e10 _ _ (k9 _ _ nsb (k8 _ _ nsb hs7))
    have hw0' := e10 _ _ (k9 _ _ nw0b (k8 _ _ nw0b hw0))
    have hw1' := e10 _ _ (k9 _ _ nw1b hw1)
    have hw2' := e10 _ _ hw2
    have k10 : Kp bs H1 (upd H9 T (.tup [.ref w0, .ref w1, .ref w2])) := (((((k24.trans k5).trans k6).trans (Kp.ex e7)).trans k8).trans k9).trans (Kp.ex e10)
    generalize upd H9 T (.tup [.ref w0, .ref w1, .ref w2]) = H10 at B10 hs10 hw0' hw1' hw2' k10 hT10 ⊢
    refine ⟨T, rfl, ⟨_, SqT.of hT10⟩, ?_⟩
    refine for_tup (K := K) (a := T) (xs := [.ref w0, .ref w1, .ref w2]) (fun i σ H' => ∃ x5 x6 x7 : Option V, σ = [some (.ref a), some (.ref b), some (.int l), some (.ref s), some (.ref w0), x5, x6, x7] ∧ Ex H10 H')
      ⟨x5, x6, x7, rfl, Ex.refl H10⟩ (fun i σ H' _ ⟨_, _, _, _, k⟩ => SqT.of (k T _ hT10)) ?_ ?_
    · rintro j y σ H11 hy ⟨y5, y6, y7, rfl, e11⟩
      obtain ⟨w, us, rfl, hw, hul⟩ : ∃ (w : Addr) (us : List Wo), y = .ref w ∧ H10 w = some (.lst (us.map vW)) ∧ us.length = st.length - 1 := by
        match j, hy with
        | 0, hy => exact ⟨w0, ws, (Option.some.inj hy).symm, hw0', hwl⟩
        | 1, hy => exact ⟨w1, ws1, (Option.some.inj hy).symm, hw1', by omega⟩
        | 2, hy => exact ⟨w2, ws2, (Option.some.inj hy).symm, hw2', by omega⟩
        | j + 3, hy => simp at hy
      have hs11 := e11 _ _ hs10
      have hw11 := e11 _ _ hw
      have hc : Evl.EvL (tLc (iRng2 (tCons (tC (.int 1)) (tCons (tOp (rI0 fun i j => .int (i + j)) (tVar 2) (tC (.int 1))) tNil))) (gName 7) (tTest (tOp (rEqD K) (tCall (sp__law_words K) [] E0 (tCons (tVar 7) (tCons (tVar 3) tNil))) (tVar 5))) (tVar 7) [7])
          [some (.ref a), some (.ref b), some (.int l), some (.ref s), some (.ref w0), some (.ref w), y6, y7] H11 (((rng 1 (l + 1)).filter fun t => decide (wordsOf t st = us)).map V.int) := by
        refine el_rng (fun t => decide (wordsOf t st = us)) V.int (Evl.ea_cons Evl.ev_c (Evl.ea_cons (Evl.ev_op (Evl.ev_var rfl) Evl.ev_c Evl.rv_I0) Evl.ea_nil)) (by omega) (fun _ => rfl) (fun n H3 e3 _ _ => ?_) (fun n H3 e3 _ _ _ => Evl.ev_var rfl)
        intro H4 e4 Q4 q4
        refine ⟨_, rfl, _, rfl, n, s, st, rfl, SqL.of ((e3.trans e4) _ _ hs11), by omega, fun p H5 np e5 hp5 => ?_⟩
        refine ⟨_, rfl, ?_⟩
        exact eqWW (SqL.of hp5) (SqL.of (((e3.trans e4).trans e5) _ _ hw11)) ⟨_, rfl, q4 H5 e5⟩
      dsimp only [gName, tSeq, tAsg, tCB, tCons]
      refine hc H11 (Ex.refl H11) _ fun p H12 np e12 h12 => ?_
      refine ⟨p, _, rfl, .inl ⟨SqL.of h12, fun u nu => ?_⟩⟩
      have e13 : Ex H12 (upd H12 u (.tup ((lies l st us).map V.int))) := Ex.new nu
      have hu13 : (upd H12 u (.tup ((lies l st us).map V.int))) u = some (.tup ((lies l st us).map V.int)) := upd_same
      refine ⟨_, rfl, _, rfl, _, rfl, l, s, w, st, us, rfl, hl1, hl60, e13 _ _ (e12 _ _ hs11), hst40, hP, e13 _ _ (e12 _ _ hw11), hul, fun v H14 nv e14 hv => ?_⟩
      refine ⟨_, rfl, neTT (SqT.of hv) (SqT.of (e14 _ _ hu13)) ⟨_, rfl, ?_⟩⟩
      rw [decide_eq_true rfl]
      exact iteF ⟨_, _, _, rfl, ((e11.trans e12).trans e13).trans e14⟩
    · rintro σ H11 ⟨y5, y6, y7, rfl, e11⟩
      exact ⟨_, _, _, _, _, _, _, rfl, k10.trans (Kp.ex e11), B10.ex e11⟩
  · rintro σ H2 ⟨x1, x2, x3, x4, x5, x6, x7, rfl, k2, B2⟩
    refine ⟨by show 3 ≤ sizeLine; decide, fun z nz => ⟨by show 2 ≤ sizeLine; decide, fun y ny => ?_⟩⟩
    have hz : (upd (upd H2 z (.lst ([1, 5, 3].map V.int))) y (.lst ([Wo.warm, .same].map vW))) z = some (.lst ([1, 5, 3].map V.int)) := (Ex.new (o := .lst ([Wo.warm, .same].map vW)) ny) _ _ upd_same
    have w1 : lies 9 [1, 5, 3] [.warm, .same] = [4] := by decide +kernel
    refine ⟨9, z, y, [1, 5, 3], [.warm, .same], rfl, by decide, by decide, hz, by decide, by unfold Places; decide, upd_same, rfl, fun u H3 nu e3 hu => ?_⟩
    refine ⟨by show 1 ≤ sizeLine; decide, fun v nv => ?_⟩
    have e4 : Ex H3 (upd H3 v (.tup ([(4 : Int)].map V.int))) := Ex.new nv
    refine eqTT (ns := lies 9 [1, 5, 3] [.warm, .same]) (ms := [4]) (SqT.of (e4 _ _ hu)) (SqT.of upd_same) ⟨_, rfl, ?_⟩
    rw [decide_eq_true w1]
    refine iteT ?_
    refine ⟨by show 3 ≤ sizeLine; decide, fun z2 nz2 => ⟨by show 2 ≤ sizeLine; decide, fun y2 ny2 => ?_⟩⟩
    have hz2 : (upd (upd (upd H3 v (.tup ([(4 : Int)].map V.int))) z2 (.lst ([1, 3, 1].map V.int))) y2 (.lst ([Wo.warm, .warm].map vW))) z2 = some (.lst ([1, 3, 1].map V.int)) := (Ex.new (o := .lst ([Wo.warm, .warm].map vW)) ny2) _ _ upd_same
    have w2 : lies 3 [1, 3, 1] [.warm, .warm] = [] := by decide +kernel
    refine ⟨3, z2, y2, [1, 3, 1], [.warm, .warm], rfl, by decide, by decide, hz2, by decide, by unfold Places; decide, upd_same, rfl, fun u2 H5 nu2 e5 hu2 => ?_⟩
    refine ⟨Nat.zero_le _, fun v2 nv2 => ?_⟩
    have e6 : Ex H5 (upd H5 v2 (.tup [])) := Ex.new nv2
    refine eqTT (ns := lies 3 [1, 3, 1] [.warm, .warm]) (ms := []) (SqT.of (e6 _ _ hu2)) (SqT.of upd_same) ?_
    rw [decide_eq_true w2]
    exact q _
theorem len_law {K : PySem.W.Frag} {vs : List V} {H : Hp} {Q : VK} {E : XK} (h : sp_law K vs H Q E) : vs.length = 1 := by
  obtain ⟨a, ns, rfl, _⟩ := h
  rfl
def topS (i : Nat) : Stmt := PySem.Challenge.pw_warmcold_k02_where_the_thing_can_lie.main.body.getD i (.Pass ⟨0, 0, 0, 0⟩)
abbrev s_is_whole : Stmt := topS 9
theorem sc_is_whole : FnScope N_is_whole ["value"] (defScope s_is_whole) := ⟨rfl, rfl, rfl, by decide +kernel, rfl, by decide +kernel, by decide +kernel⟩
abbrev s_is_place : Stmt := topS 10
theorem sc_is_place : FnScope N_is_place ["value", "length"] (defScope s_is_place) := ⟨rfl, rfl, rfl, by decide +kernel, rfl, by decide +kernel, by decide +kernel⟩
abbrev s_is_word : Stmt := topS 11
theorem sc_is_word : FnScope N_is_word ["value"] (defScope s_is_word) := ⟨rfl, rfl, rfl, by decide +kernel, rfl, by decide +kernel, by decide +kernel⟩
abbrev s_check_length : Stmt := topS 12
theorem sc_check_length : FnScope N_check_length ["length"] (defScope s_check_length) := ⟨rfl, rfl, rfl, by decide +kernel, rfl, by decide +kernel, by decide +kernel⟩
abbrev s_check_stands : Stmt := topS 13
theorem sc_check_stands : FnScope N_check_stands ["stands", "length"] (defScope s_check_stands) := ⟨rfl, rfl, rfl, by decide +kernel, rfl, by decide +kernel, by decide +kernel⟩
abbrev s_check_answers : Stmt := topS 14
theorem sc_check_answers : FnScope N_check_answers ["answers", "stands"] (defScope s_check_answers) := ⟨rfl, rfl, rfl, by decide +kernel, rfl, by decide +kernel, by decide +kernel⟩
abbrev s_word_for : Stmt := topS 16
theorem sc_word_for : FnScope N_word_for ["before", "after"] (defScope s_word_for) := ⟨rfl, rfl, rfl, by decide +kernel, rfl, by decide +kernel, by decide +kernel⟩
abbrev s_answer_to_move : Stmt := topS 17
theorem sc_answer_to_move : FnScope N_answer_to_move ["thing", "earlier", "later"] (defScope s_answer_to_move) := ⟨rfl, rfl, rfl, by decide +kernel, rfl, by decide +kernel, by decide +kernel⟩
abbrev s_row_of_answers : Stmt := topS 18
theorem sc_row_of_answers : FnScope N_row_of_answers ["thing", "stands"] (defScope s_row_of_answers) := ⟨rfl, rfl, rfl, by decide +kernel, rfl, by decide +kernel, by decide +kernel⟩
abbrev s_can_lie : Stmt := topS 19
theorem sc_can_lie : FnScope N_can_lie ["length", "stands", "answers"] (defScope s_can_lie) := ⟨rfl, rfl, rfl, by decide +kernel, rfl, by decide +kernel, by decide +kernel⟩
abbrev s__law_cell_at : Stmt := topS 21
theorem sc__law_cell_at : FnScope N__law_cell_at ["script", "k"] (defScope s__law_cell_at) := ⟨rfl, rfl, rfl, by decide +kernel, rfl, by decide +kernel, by decide +kernel⟩
abbrev s__law_draws : Stmt := topS 22
theorem sc__law_draws : FnScope N__law_draws ["cell", "many", "size"] (defScope s__law_draws) := ⟨rfl, rfl, rfl, by decide +kernel, rfl, by decide +kernel, by decide +kernel⟩
abbrev s__law_bag : Stmt := topS 23
theorem sc__law_bag : FnScope N__law_bag ["script", "k"] (defScope s__law_bag) := ⟨rfl, rfl, rfl, by decide +kernel, rfl, by decide +kernel, by decide +kernel⟩
abbrev s__law_bags : Stmt := topS 24
theorem sc__law_bags : FnScope N__law_bags ["script", "limit"] (defScope s__law_bags) := ⟨rfl, rfl, rfl, by decide +kernel, rfl, by decide +kernel, by decide +kernel⟩
abbrev s__law_take : Stmt := topS 25
theorem sc__law_take : FnScope N__law_take ["bag", "many"] (defScope s__law_take) := ⟨rfl, rfl, rfl, by decide +kernel, rfl, by decide +kernel, by decide +kernel⟩
abbrev s__law_some_stands : Stmt := topS 26
theorem sc__law_some_stands : FnScope N__law_some_stands ["bag", "length", "most"] (defScope s__law_some_stands) := ⟨rfl, rfl, rfl, by decide +kernel, rfl, by decide +kernel, by decide +kernel⟩
abbrev s__law_word : Stmt := topS 27
theorem sc__law_word : FnScope N__law_word ["far", "near"] (defScope s__law_word) := ⟨rfl, rfl, rfl, by decide +kernel, rfl, by decide +kernel, by decide +kernel⟩
abbrev s__law_words : Stmt := topS 28
theorem sc__law_words : FnScope N__law_words ["thing", "stands"] (defScope s__law_words) := ⟨rfl, rfl, rfl, by decide +kernel, rfl, by decide +kernel, by decide +kernel⟩
abbrev s__law_bent_words : Stmt := topS 29
theorem sc__law_bent_words : FnScope N__law_bent_words ["bag", "words"] (defScope s__law_bent_words) := ⟨rfl, rfl, rfl, by decide +kernel, rfl, by decide +kernel, by decide +kernel⟩
abbrev s_law : Stmt := topS 30
theorem sc_law : FnScope N_law ["script"] (defScope s_law) := ⟨rfl, rfl, rfl, by decide +kernel, rfl, by decide +kernel, by decide +kernel⟩
structure Wd (K : PySem.W.Frag) (mg : Str → Option Value) : Prop where
  z_abs : mg "abs" = none
  z_all : mg "all" = none
  z_bool : mg "bool" = none
  z_int : mg "int" = none
  z_isinstance : mg "isinstance" = none
  z_len : mg "len" = none
  z_list : mg "list" = none
  z_max : mg "max" = none
  z_min : mg "min" = none
  z_range : mg "range" = none
  z_str : mg "str" = none
  z_tuple : mg "tuple" = none
  z_zip : mg "zip" = none
  c_LONGEST_PATH : ∃ t, mg "LONGEST_PATH" = some (.int 60 t)
  c_MOST_STANDS : ∃ t, mg "MOST_STANDS" = some (.int 40 t)
  c_WORDS : mg "WORDS" = some (.ref (He.ga K "WORDS"))
  q_WORDS : ∀ H, SqT K H (He.ga K "WORDS") [.str "warm", .str "cold", .str "same"]
section
variable {P : Program} {w : World} {K : PySem.W.Frag} {mg : Str → Option Value} {base : Heap}
theorem ok_is_whole {f : Addr} {fd : FuncData} (F : FnP K "is_whole" s_is_whole f fd) (W : Wd K mg)  : FnOk P w K mg base CX0 1 f fd ["value"] (sp_is_whole K) := by
  refine F.ok sc_is_whole (fun vs H Q E h => len_is_whole h) (fun cdv A outer s H vs Q E hr h => ⟨t_is_whole K, PSs.nox ?_, pure_is_whole h⟩)
  exact (pss_one (ps_ret (pe_and (pe_callB call_isi (by rfl) W.z_isinstance bb_isinstance (pa_cons (pv 0) (pa_cons (pe_bltn (v := .ty "int") (by rfl) W.z_int bt_int rfl) pa_nil))) (pe_one (pe_not (pe_callB call_isi (by rfl) W.z_isinstance bb_isinstance (pa_cons (pv 0) (pa_cons (pe_bltn (v := .ty "bool") (by rfl) W.z_bool bt_bool rfl) pa_nil))))))))
theorem ok_is_place {f : Addr} {fd : FuncData} (F : FnP K "is_place" s_is_place f fd) (W : Wd K mg) (O_is_whole : Own P w K mg base 1 "is_whole" ["value"] (sp_is_whole K)) : FnOk P w K mg base CX0 2 f fd ["value", "length"] (sp_is_place K) := by
  refine F.ok sc_is_place (fun vs H Q E h => len_is_place h) (fun cdv A outer s H vs Q E hr h => ⟨t_is_place K, PSs.nox ?_, pure_is_place h⟩)
  exact (pss_one (ps_ret (pe_and (pe_callO O_is_whole hr (by first | decide | omega) (by rfl) (pa_cons (pv 0) pa_nil)) (pe_one (pe_chain op_le op_le pe_int (pv 0) (pv 1))))))
theorem ok_is_word {f : Addr} {fd : FuncData} (F : FnP K "is_word" s_is_word f fd) (W : Wd K mg)  : FnOk P w K mg base CX0 1 f fd ["value"] (sp_is_word K) := by
  refine F.ok sc_is_word (fun vs H Q E h => len_is_word h) (fun cdv A outer s H vs Q E hr h => ⟨t_is_word K, PSs.nox ?_, pure_is_word W.q_WORDS h⟩)
  exact (pss_one (ps_ret (pe_and (pe_callB call_isi (by rfl) W.z_isinstance bb_isinstance (pa_cons (pv 0) (pa_cons (pe_bltn (v := .ty "str") (by rfl) W.z_str bt_str rfl) pa_nil))) (pe_one (pe_cmpR op_in_seq (pv 0) (pe_glob (by rfl) W.c_WORDS rfl) rfl)))))
theorem ok_check_length {f : Addr} {fd : FuncData} (F : FnP K "check_length" s_check_length f fd) (W : Wd K mg) (O_is_place : Own P w K mg base 2 "is_place" ["value", "length"] (sp_is_place K)) : FnOk P w K mg base CX0 3 f fd ["length"] (sp_check_length K) := by
  refine F.ok sc_check_length (fun vs H Q E h => len_check_length h) (fun cdv A outer s H vs Q E hr h => ⟨t_check_length K, PSs.nox ?_, pure_check_length h⟩)
  exact (pss_one (ps_if (pt_not (pt_val (pe_callO O_is_place hr (by first | decide | omega) (by rfl) (pa_cons (pv 0) (pa_cons (pe_glob (by rfl) W.c_LONGEST_PATH.choose_spec ⟨_, rfl⟩) pa_nil))))) (pss_one ps_never) pss_nil))
theorem ok_check_stands {f : Addr} {fd : FuncData} (F : FnP K "check_stands" s_check_stands f fd) (W : Wd K mg) (O_is_place : Own P w K mg base 2 "is_place" ["value", "length"] (sp_is_place K)) : FnOk P w K mg base CX0 3 f fd ["stands", "length"] (sp_check_stands K) := by
  refine F.ok sc_check_stands (fun vs H Q E h => len_check_stands h) (fun cdv A outer s H vs Q E hr h => ⟨t_check_stands K, PSs.nox ?_, pure_check_stands h⟩)
  exact (pss_cons (ps_if (PW.pt (pw_or (pt_not (pt_val (pe_callB call_isi (by rfl) W.z_isinstance bb_isinstance (pa_cons (pv 0) (pa_cons (pe_bltn (v := .ty "list") (by rfl) W.z_list bt_list rfl) pa_nil))))) (pw_or1 (pt_cmpR op_gt (pe_callB call_len_seq (by rfl) W.z_len PySem.boot_len (pa_cons (pv 0) pa_nil)) (pe_glob (by rfl) W.c_MOST_STANDS.choose_spec ⟨_, rfl⟩) (nomark _))))) (pss_one ps_never) pss_nil)   (pss_one (ps_if (pt_not (pt_val (pe_callB (cr_all rfl) (by rfl) W.z_all bb_all (pa_cons (pe_lc (own := [("stand", 2)]) (g := (gName 2)) (tt := tYes) (by rfl) sc_check_stands.nd (pi_list (pv 0)) (blkOk_by (own := [("stand", 2)]) (N := N_check_stands) (sc := defScope s_check_stands) (by decide +kernel)) (fun _ _ _ _ _ => (pg_name (i := 2) sc_check_stands.nd rfl (Or.inl rfl))) (fun _ _ _ _ _ => pts_nil) (fun _ _ _ _ _ => (pe_callO O_is_place hr (by first | decide | omega) (by rfl) (pa_cons (pv 2) (pa_cons (pv 1) pa_nil))))) pa_nil)))) (pss_one ps_never) pss_nil)))
theorem ok_check_answers {f : Addr} {fd : FuncData} (F : FnP K "check_answers" s_check_answers f fd) (W : Wd K mg) (O_is_word : Own P w K mg base 1 "is_word" ["value"] (sp_is_word K)) : FnOk P w K mg base CX0 2 f fd ["answers", "stands"] (sp_check_answers K) := by
  refine F.ok sc_check_answers (fun vs H Q E h => len_check_answers h) (fun cdv A outer s H vs Q E hr h => ⟨t_check_answers K, PSs.nox ?_, pure_check_answers h⟩)
  exact (pss_cons (ps_set (i := 2) sc_check_answers.nd rfl (Or.inl rfl) (pe_callB (call_max2 rfl) (by rfl) W.z_max bb_max (pa_cons pe_int (pa_cons (pe_op op_sub (pe_callB call_len_seq (by rfl) W.z_len PySem.boot_len (pa_cons (pv 1) pa_nil)) pe_int) pa_nil))))   (pss_cons (ps_if (PW.pt (pw_or (pt_not (pt_val (pe_callB call_isi (by rfl) W.z_isinstance bb_isinstance (pa_cons (pv 0) (pa_cons (pe_bltn (v := .ty "list") (by rfl) W.z_list bt_list rfl) pa_nil))))) (pw_or1 (pt_cmpR op_ne (pe_callB call_len_seq (by rfl) W.z_len PySem.boot_len (pa_cons (pv 0) pa_nil)) (pv 2) (nomark _))))) (pss_one ps_never) pss_nil)   (pss_one (ps_if (pt_not (pt_val (pe_callB (cr_all rfl) (by rfl) W.z_all bb_all (pa_cons (pe_lc (own := [("answer", 3)]) (g := (gName 3)) (tt := tYes) (by rfl) sc_check_answers.nd (pi_list (pv 0)) (blkOk_by (own := [("answer", 3)]) (N := N_check_answers) (sc := defScope s_check_answers) (by decide +kernel)) (fun _ _ _ _ _ => (pg_name (i := 3) sc_check_answers.nd rfl (Or.inl rfl))) (fun _ _ _ _ _ => pts_nil) (fun _ _ _ _ _ => (pe_callO O_is_word hr (by first | decide | omega) (by rfl) (pa_cons (pv 3) pa_nil)))) pa_nil)))) (pss_one ps_never) pss_nil))))
theorem ok_word_for {f : Addr} {fd : FuncData} (F : FnP K "word_for" s_word_for f fd) (W : Wd K mg)  : FnOk P w K mg base CX0 1 f fd ["before", "after"] (sp_word_for K) := by
  refine F.ok sc_word_for (fun vs H Q E h => len_word_for h) (fun cdv A outer s H vs Q E hr h => ⟨t_word_for K, PSs.nox ?_, pure_word_for h⟩)
  exact (pss_cons (ps_if (pt_cmpR op_lt (pv 1) (pv 0) (nomark _)) (pss_one (ps_ret pe_str)) pss_nil)   (pss_cons (ps_if (pt_cmpR op_gt (pv 1) (pv 0) (nomark _)) (pss_one (ps_ret pe_str)) pss_nil)   (pss_one (ps_ret pe_str))))
theorem ok_answer_to_move {f : Addr} {fd : FuncData} (F : FnP K "answer_to_move" s_answer_to_move f fd) (W : Wd K mg) (O_word_for : Own P w K mg base 1 "word_for" ["before", "after"] (sp_word_for K)) : FnOk P w K mg base CX0 2 f fd ["thing", "earlier", "later"] (sp_answer_to_move K) := by
  refine F.ok sc_answer_to_move (fun vs H Q E h => len_answer_to_move h) (fun cdv A outer s H vs Q E hr h => ⟨t_answer_to_move K, PSs.nox ?_, pure_answer_to_move h⟩)
  exact (pss_one (ps_ret (pe_callO O_word_for hr (by first | decide | omega) (by rfl) (pa_cons (pe_callB call_abs (by rfl) W.z_abs bb_abs (pa_cons (pe_op op_sub (pv 0) (pv 1)) pa_nil)) (pa_cons (pe_callB call_abs (by rfl) W.z_abs bb_abs (pa_cons (pe_op op_sub (pv 0) (pv 2)) pa_nil)) pa_nil)))))
theorem ok_row_of_answers {f : Addr} {fd : FuncData} (F : FnP K "row_of_answers" s_row_of_answers f fd) (W : Wd K mg) (O_answer_to_move : Own P w K mg base 2 "answer_to_move" ["thing", "earlier", "later"] (sp_answer_to_move K)) : FnOk P w K mg base CX0 3 f fd ["thing", "stands"] (sp_row_of_answers K) := by
  refine F.ok sc_row_of_answers (fun vs H Q E h => len_row_of_answers h) (fun cdv A outer s H vs Q E hr h => ⟨t_row_of_answers K, PSs.nox ?_, pure_row_of_answers h⟩)
  exact (pss_one (ps_ret (pe_lc (own := [("earlier", 2), ("later", 3)]) (g := (gTup K 2 (gCons (gName 2) (gCons (gName 3) gNil)))) (tt := tYes) (by rfl) sc_row_of_answers.nd (pi_zip (by rfl) W.z_zip (pa_cons (pv 1) (pa_cons (pe_slice sl_list (pv 1) (po_some pe_int) po_none) pa_nil))) (blkOk_by (own := [("earlier", 2), ("later", 3)]) (N := N_row_of_answers) (sc := defScope s_row_of_answers) (by decide +kernel)) (fun _ _ _ _ _ => (pg_tup rfl (pgs_cons (pg_name (i := 2) sc_row_of_answers.nd rfl (Or.inl rfl)) (pgs_cons (pg_name (i := 3) sc_row_of_answers.nd rfl (Or.inl rfl)) pgs_nil)))) (fun _ _ _ _ _ => pts_nil) (fun _ _ _ _ _ => (pe_callO O_answer_to_move hr (by first | decide | omega) (by rfl) (pa_cons (pv 0) (pa_cons (pv 2) (pa_cons (pv 3) pa_nil))))))))
theorem ok_can_lie {f : Addr} {fd : FuncData} (F : FnP K "can_lie" s_can_lie f fd) (W : Wd K mg) (O_check_length : Own P w K mg base 3 "check_length" ["length"] (sp_check_length K)) (O_check_stands : Own P w K mg base 3 "check_stands" ["stands", "length"] (sp_check_stands K)) (O_check_answers : Own P w K mg base 2 "check_answers" ["answers", "stands"] (sp_check_answers K)) (O_row_of_answers : Own P w K mg base 3 "row_of_answers" ["thing", "stands"] (sp_row_of_answers K)) : FnOk P w K mg base CX0 4 f fd ["length", "stands", "answers"] (sp_can_lie K) := by
  refine F.ok sc_can_lie (fun vs H Q E h => len_can_lie h) (fun cdv A outer s H vs Q E hr h => ⟨t_can_lie K, PSs.nox ?_, pure_can_lie h⟩)
  exact (pss_cons (ps_expr (pe_callO O_check_length hr (by first | decide | omega) (by rfl) (pa_cons (pv 0) pa_nil)))   (pss_cons (ps_expr (pe_callO O_check_stands hr (by first | decide | omega) (by rfl) (pa_cons (pv 1) (pa_cons (pv 0) pa_nil))))   (pss_cons (ps_expr (pe_callO O_check_answers hr (by first | decide | omega) (by rfl) (pa_cons (pv 2) (pa_cons (pv 1) pa_nil))))   (pss_one (ps_ret (pe_callTy call_tuple_of (by rfl) W.z_tuple bt_tuple (pa_cons (pe_lc (own := [("place", 3)]) (g := (gName 3)) (tt := (tTest (tOp (rEqD K) (tCall (sp_row_of_answers K) [] E0 (tCons (tVar 3) (tCons (tVar 1) tNil))) (tVar 2)))) (by rfl) sc_can_lie.nd (pi_range2 (by rfl) W.z_range (pa_cons pe_int (pa_cons (pe_op op_add (pv 0) pe_int) pa_nil))) (blkOk_by (own := [("place", 3)]) (N := N_can_lie) (sc := defScope s_can_lie) (by decide +kernel)) (fun _ _ _ _ _ => (pg_name (i := 3) sc_can_lie.nd rfl (Or.inl rfl))) (fun _ _ _ _ _ => (pts_one (pt_cmpR (op_eqD hr.units) (pe_callO O_row_of_answers hr (by first | decide | omega) (by rfl) (pa_cons (pv 3) (pa_cons (pv 1) pa_nil))) (pv 2) (nomark _)))) (fun _ _ _ _ _ => (pv 3))) pa_nil)))))))
theorem ok__law_cell_at {f : Addr} {fd : FuncData} (F : FnP K "_law_cell_at" s__law_cell_at f fd) (W : Wd K mg)  : FnOk P w K mg base CX0 1 f fd ["script", "k"] (sp__law_cell_at K) := by
  refine F.ok sc__law_cell_at (fun vs H Q E h => len__law_cell_at h) (fun cdv A outer s H vs Q E hr h => ⟨t__law_cell_at K, PSs.nox ?_, pure__law_cell_at h⟩)
  exact (pss_cons (ps_if (pt_cmpR op_lt (pv 1) (pe_callB call_len_seq (by rfl) W.z_len PySem.boot_len (pa_cons (pv 0) pa_nil)) (nomark _)) (pss_one (ps_ret (pe_ix ix_list (pv 0) (pv 1) (fun _ _ => rfl)))) pss_nil)   (pss_one (ps_ret pe_int)))
theorem ok__law_draws {f : Addr} {fd : FuncData} (F : FnP K "_law_draws" s__law_draws f fd) (W : Wd K mg)  : FnOk P w K mg base CX0 1 f fd ["cell", "many", "size"] (sp__law_draws K) := by
  refine F.ok sc__law_draws (fun vs H Q E h => len__law_draws h) (fun cdv A outer s H vs Q E hr h => ⟨t__law_draws K, PSs.nox ?_, pure__law_draws h⟩)
  exact (pss_cons (ps_set (i := 3) sc__law_draws.nd rfl (Or.inl rfl) (pe_lst pa_nil))   (pss_cons (ps_set (i := 4) sc__law_draws.nd rfl (Or.inl rfl) (pe_op op_mul (pv 0) (pe_callTy call_int1 (by rfl) W.z_int bt_int (pa_cons (pe_cmpR op_ge (pv 0) (pe_op op_pow pe_int pe_int) (nomark _)) pa_nil))))   (pss_cons (ps_set (i := 5) sc__law_draws.nd rfl (Or.inl rfl) (pe_op op_mod (pv 0) pe_int))   (pss_cons (ps_for PassesOwn.never rfl (pi_range1 (by rfl) W.z_range (pa_cons (pe_op op_add (pv 1) pe_int) pa_nil)) (pg_name (i := 6) sc__law_draws.nd rfl (Or.inl rfl)) (pss_cons (ps_set (i := 5) sc__law_draws.nd rfl (Or.inl rfl) (pe_op op_mod (pe_op op_add (pe_op op_add (pe_op op_add (pe_op op_mul (pv 5) (pv 5)) (pe_op op_mul pe_int (pv 5))) (pv 6)) pe_int) pe_int))   (pss_one (ps_if (PW.pt (pw_and (pt_cmpR op_gt (pv 6) pe_int (nomark _)) (pw_and1 (pt_cmpR op_gt (pv 4) pe_int (nomark _))))) (pss_cons (ps_expr (pe_bm PySem.F.plainAttrs_list PySem.F.slot_list_append PySem.F.type_list_append mt_append (pv 3) (pa_cons (pe_op op_mod (pv 4) (pv 2)) pa_nil)))   (pss_one (ps_set (i := 4) sc__law_draws.nd rfl (Or.inl rfl) (pe_op op_fdiv (pv 4) (pv 2))))) (pss_one (ps_if (pt_cmpR op_gt (pv 6) pe_int (nomark _)) (pss_one (ps_expr (pe_bm PySem.F.plainAttrs_list PySem.F.slot_list_append PySem.F.type_list_append mt_append (pv 3) (pa_cons (pe_op op_mod (pe_op op_fdiv (pv 5) pe_int) (pv 2)) pa_nil)))) pss_nil))))))   (pss_one (ps_ret (pv 3)))))))
theorem ok__law_bag {f : Addr} {fd : FuncData} (F : FnP K "_law_bag" s__law_bag f fd) (W : Wd K mg) (O__law_draws : Own P w K mg base 1 "_law_draws" ["cell", "many", "size"] (sp__law_draws K)) (O__law_cell_at : Own P w K mg base 1 "_law_cell_at" ["script", "k"] (sp__law_cell_at K)) : FnOk P w K mg base CX0 2 f fd ["script", "k"] (sp__law_bag K) := by
  refine F.ok sc__law_bag (fun vs H Q E h => len__law_bag h) (fun cdv A outer s H vs Q E hr h => ⟨t__law_bag K, PSs.nox ?_, pure__law_bag h⟩)
  exact (pss_one (ps_ret (pe_lst (pa_cons (pe_callO O__law_draws hr (by first | decide | omega) (by rfl) (pa_cons (pe_callO O__law_cell_at hr (by first | decide | omega) (by rfl) (pa_cons (pv 0) (pa_cons (pv 1) pa_nil))) (pa_cons pe_int (pa_cons pe_int pa_nil)))) (pa_cons pe_int pa_nil)))))
theorem ok__law_bags {f : Addr} {fd : FuncData} (F : FnP K "_law_bags" s__law_bags f fd) (W : Wd K mg) (O__law_bag : Own P w K mg base 2 "_law_bag" ["script", "k"] (sp__law_bag K)) : FnOk P w K mg base CX0 3 f fd ["script", "limit"] (sp__law_bags K) := by
  refine F.ok sc__law_bags (fun vs H Q E h => len__law_bags h) (fun cdv A outer s H vs Q E hr h => ⟨t__law_bags K, PSs.nox ?_, pure__law_bags h⟩)
  exact (pss_one (ps_ret (pe_lc (own := [("k", 2)]) (g := (gName 2)) (tt := tYes) (by rfl) sc__law_bags.nd (pi_range1 (by rfl) W.z_range (pa_cons (pe_callB (call_max2 rfl) (by rfl) W.z_max bb_max (pa_cons pe_int (pa_cons (pe_callB (call_min2 rfl) (by rfl) W.z_min bb_min (pa_cons (pv 1) (pa_cons (pe_callB call_len_seq (by rfl) W.z_len PySem.boot_len (pa_cons (pv 0) pa_nil)) pa_nil))) pa_nil))) pa_nil)) (blkOk_by (own := [("k", 2)]) (N := N__law_bags) (sc := defScope s__law_bags) (by decide +kernel)) (fun _ _ _ _ _ => (pg_name (i := 2) sc__law_bags.nd rfl (Or.inl rfl))) (fun _ _ _ _ _ => pts_nil) (fun _ _ _ _ _ => (pe_callO O__law_bag hr (by first | decide | omega) (by rfl) (pa_cons (pv 0) (pa_cons (pv 2) pa_nil)))))))
theorem ok__law_take {f : Addr} {fd : FuncData} (F : FnP K "_law_take" s__law_take f fd) (W : Wd K mg)  : FnOk P w K mg base CX0 1 f fd ["bag", "many"] (sp__law_take K) := by
  refine F.ok sc__law_take (fun vs H Q E h => len__law_take h) (fun cdv A outer s H vs Q E hr h => ⟨t__law_take K, PSs.nox ?_, pure__law_take h⟩)
  exact (pss_cons (ps_asg (pe_op op_add (pe_ix ix_list (pv 0) pe_int (fun _ _ => rfl)) pe_int) (pg_sub (pv 0) pe_int set_list))   (pss_one (ps_ret (pe_op op_mod (pe_ix ix_list (pe_ix ix_list (pv 0) pe_int (fun _ _ => rfl)) (pe_op op_mod (pe_ix ix_list (pv 0) pe_int (fun _ _ => rfl)) (pe_callB call_len_seq (by rfl) W.z_len PySem.boot_len (pa_cons (pe_ix ix_list (pv 0) pe_int (fun _ _ => rfl)) pa_nil))) (fun _ _ => rfl)) (pv 1)))))
theorem ok__law_some_stands {f : Addr} {fd : FuncData} (F : FnP K "_law_some_stands" s__law_some_stands f fd) (W : Wd K mg) (O__law_take : Own P w K mg base 1 "_law_take" ["bag", "many"] (sp__law_take K)) : FnOk P w K mg base CX0 2 f fd ["bag", "length", "most"] (sp__law_some_stands K) := by
  refine F.ok sc__law_some_stands (fun vs H Q E h => len__law_some_stands h) (fun cdv A outer s H vs Q E hr h => ⟨t__law_some_stands K, PSs.nox ?_, pure__law_some_stands h⟩)
  exact (pss_cons (ps_set (i := 3) sc__law_some_stands.nd rfl (Or.inl rfl) (pe_lst pa_nil))   (pss_cons (ps_for PassesOwn.never rfl (pi_range1 (by rfl) W.z_range (pa_cons (pe_callO O__law_take hr (by first | decide | omega) (by rfl) (pa_cons (pv 0) (pa_cons (pe_op op_add (pv 2) pe_int) pa_nil))) pa_nil)) (pg_name (i := 4) sc__law_some_stands.nd rfl (Or.inl rfl)) (pss_cons (ps_set (i := 5) sc__law_some_stands.nd rfl (Or.inl rfl) (pe_op op_add pe_int (pe_callO O__law_take hr (by first | decide | omega) (by rfl) (pa_cons (pv 0) (pa_cons (pv 1) pa_nil)))))   (pss_cons (ps_if (PW.pt (pw_and (pt_cmpR (op_neD hr.units) (pv 3) (pe_lst pa_nil) (nomark _)) (pw_and1 (pt_cmpR op_eq (pe_callO O__law_take hr (by first | decide | omega) (by rfl) (pa_cons (pv 0) (pa_cons pe_int pa_nil))) pe_int (nomark _))))) (pss_one (ps_set (i := 5) sc__law_some_stands.nd rfl (Or.inl rfl) (pe_callB (call_max2 rfl) (by rfl) W.z_max bb_max (pa_cons pe_int (pa_cons (pe_callB (call_min2 rfl) (by rfl) W.z_min bb_min (pa_cons (pv 1) (pa_cons (pe_op op_sub (pe_op op_add (pe_ix ix_list (pv 3) (pe_un un_neg pe_int) (fun _ _ => rfl)) (pe_callO O__law_take hr (by first | decide | omega) (by rfl) (pa_cons (pv 0) (pa_cons pe_int pa_nil)))) pe_int) pa_nil))) pa_nil))))) pss_nil)   (pss_one (ps_expr (pe_bm PySem.F.plainAttrs_list PySem.F.slot_list_append PySem.F.type_list_append mt_append (pv 3) (pa_cons (pv 5) pa_nil)))))))   (pss_one (ps_ret (pv 3)))))
theorem ok__law_word {f : Addr} {fd : FuncData} (F : FnP K "_law_word" s__law_word f fd) (W : Wd K mg)  : FnOk P w K mg base CX0 1 f fd ["far", "near"] (sp__law_word K) := by
  refine F.ok sc__law_word (fun vs H Q E h => len__law_word h) (fun cdv A outer s H vs Q E hr h => ⟨t__law_word K, PSs.nox ?_, pure__law_word h⟩)
  exact (pss_cons (ps_if (pt_cmpR op_lt (pv 1) (pv 0) (nomark _)) (pss_one (ps_ret pe_str)) pss_nil)   (pss_one (ps_ret (pe_ifExp (pt_cmpR op_gt (pv 1) (pv 0) (nomark _)) pe_str pe_str))))
theorem ok__law_words {f : Addr} {fd : FuncData} (F : FnP K "_law_words" s__law_words f fd) (W : Wd K mg) (O__law_word : Own P w K mg base 1 "_law_word" ["far", "near"] (sp__law_word K)) : FnOk P w K mg base CX0 2 f fd ["thing", "stands"] (sp__law_words K) := by
  refine F.ok sc__law_words (fun vs H Q E h => len__law_words h) (fun cdv A outer s H vs Q E hr h => ⟨t__law_words K, PSs.nox ?_, pure__law_words h⟩)
  exact (pss_cons (ps_set (i := 2) sc__law_words.nd rfl (Or.inl rfl) (pe_lst pa_nil))   (pss_cons (ps_for PassesOwn.never rfl (pi_range2 (by rfl) W.z_range (pa_cons pe_int (pa_cons (pe_callB call_len_seq (by rfl) W.z_len PySem.boot_len (pa_cons (pv 1) pa_nil)) pa_nil))) (pg_name (i := 3) sc__law_words.nd rfl (Or.inl rfl)) (pss_one (ps_expr (pe_bm PySem.F.plainAttrs_list PySem.F.slot_list_append PySem.F.type_list_append mt_append (pv 2) (pa_cons (pe_callO O__law_word hr (by first | decide | omega) (by rfl) (pa_cons (pe_callB call_abs (by rfl) W.z_abs bb_abs (pa_cons (pe_op op_sub (pv 0) (pe_ix ix_list (pv 1) (pe_op op_sub (pv 3) pe_int) (fun _ _ => rfl))) pa_nil)) (pa_cons (pe_callB call_abs (by rfl) W.z_abs bb_abs (pa_cons (pe_op op_sub (pv 0) (pe_ix ix_list (pv 1) (pv 3) (fun _ _ => rfl))) pa_nil)) pa_nil))) pa_nil)))))   (pss_one (ps_ret (pv 2)))))
theorem ok__law_bent_words {f : Addr} {fd : FuncData} (F : FnP K "_law_bent_words" s__law_bent_words f fd) (W : Wd K mg) (O__law_take : Own P w K mg base 1 "_law_take" ["bag", "many"] (sp__law_take K)) : FnOk P w K mg base CX0 2 f fd ["bag", "words"] (sp__law_bent_words K) := by
  refine F.ok sc__law_bent_words (fun vs H Q E h => len__law_bent_words h) (fun cdv A outer s H vs Q E hr h => ⟨t__law_bent_words K, PSs.nox ?_, pure__law_bent_words h⟩)
  exact (pss_cons (ps_set (i := 2) sc__law_bent_words.nd rfl (Or.inl rfl) (pe_callTy call_list_of (by rfl) W.z_list bt_list (pa_cons (pv 1) pa_nil)))   (pss_cons (ps_for PassesOwn.never rfl (pi_range1 (by rfl) W.z_range (pa_cons (pe_op op_mul (pe_callO O__law_take hr (by first | decide | omega) (by rfl) (pa_cons (pv 0) (pa_cons pe_int pa_nil))) (pe_callTy call_int1 (by rfl) W.z_int bt_int (pa_cons (pe_cmpR (op_neD hr.units) (pv 1) (pe_lst pa_nil) (nomark _)) pa_nil))) pa_nil)) (pg_name (i := 3) sc__law_bent_words.nd rfl (Or.inl rfl)) (pss_one (ps_asg (pe_ix ix_list (pe_lst (pa_cons pe_str (pa_cons pe_str (pa_cons pe_str pa_nil)))) (pe_callO O__law_take hr (by first | decide | omega) (by rfl) (pa_cons (pv 0) (pa_cons pe_int pa_nil))) (fun _ _ => rfl)) (pg_sub (pv 2) (pe_callO O__law_take hr (by first | decide | omega) (by rfl) (pa_cons (pv 0) (pa_cons (pe_callB call_len_seq (by rfl) W.z_len PySem.boot_len (pa_cons (pv 2) pa_nil)) pa_nil))) set_list))))   (pss_one (ps_ret (pv 2)))))
theorem ok_law {f : Addr} {fd : FuncData} (F : FnP K "law" s_law f fd) (W : Wd K mg) (O__law_bags : Own P w K mg base 3 "_law_bags" ["script", "limit"] (sp__law_bags K)) (O__law_take : Own P w K mg base 1 "_law_take" ["bag", "many"] (sp__law_take K)) (O__law_some_stands : Own P w K mg base 2 "_law_some_stands" ["bag", "length", "most"] (sp__law_some_stands K)) (O__law_words : Own P w K mg base 2 "_law_words" ["thing", "stands"] (sp__law_words K)) (O__law_bent_words : Own P w K mg base 2 "_law_bent_words" ["bag", "words"] (sp__law_bent_words K)) (O_can_lie : Own P w K mg base 4 "can_lie" ["length", "stands", "answers"] (sp_can_lie K)) : FnOk P w K mg base CX0 5 f fd ["script"] (sp_law K) := by
  refine F.ok sc_law (fun vs H Q E h => len_law h) (fun cdv A outer s H vs Q E hr h => ⟨t_law K, PSs.nox ?_, pure_law h⟩)
  exact (pss_cons (ps_for PassesOwn.never rfl (pi_list (pe_callO O__law_bags hr (by first | decide | omega) (by rfl) (pa_cons (pv 0) (pa_cons pe_int pa_nil)))) (pg_name (i := 1) sc_law.nd rfl (Or.inl rfl)) (pss_cons (ps_set (i := 2) sc_law.nd rfl (Or.inl rfl) (pe_op op_add pe_int (pe_callO O__law_take hr (by first | decide | omega) (by rfl) (pa_cons (pv 1) (pa_cons (pe_ix ix_list (pe_lst (pa_cons pe_int (pa_cons pe_int pa_nil))) (pe_callO O__law_take hr (by first | decide | omega) (by rfl) (pa_cons (pv 1) (pa_cons pe_int pa_nil))) (fun _ _ => rfl)) pa_nil)))))   (pss_cons (ps_set (i := 3) sc_law.nd rfl (Or.inr rfl) (pe_callO O__law_some_stands hr (by first | decide | omega) (by rfl) (pa_cons (pv 1) (pa_cons (pv 2) (pa_cons pe_int pa_nil)))))   (pss_cons (ps_set (i := 4) sc_law.nd rfl (Or.inl rfl) (pe_callO O__law_words hr (by first | decide | omega) (by rfl) (pa_cons (pe_op op_add pe_int (pe_callO O__law_take hr (by first | decide | omega) (by rfl) (pa_cons (pv 1) (pa_cons (pv 2) pa_nil)))) (pa_cons (pv 3) pa_nil))))   (pss_one (ps_for PassesOwn.never rfl (pi_tup (pe_tup (pa_cons (pv 4) (pa_cons (pe_callO O__law_bent_words hr (by first | decide | omega) (by rfl) (pa_cons (pv 1) (pa_cons (pv 4) pa_nil))) (pa_cons (pe_callO O__law_bent_words hr (by first | decide | omega) (by rfl) (pa_cons (pv 1) (pa_cons (pv 4) pa_nil))) pa_nil))))) (pg_name (i := 5) sc_law.nd rfl (Or.inr rfl)) (pss_cons (ps_set (i := 6) sc_law.nd rfl (Or.inl rfl) (pe_callTy call_tuple_of (by rfl) W.z_tuple bt_tuple (pa_cons (pe_lc (own := [("thing", 7)]) (g := (gName 7)) (tt := (tTest (tOp (rEqD K) (tCall (sp__law_words K) [] E0 (tCons (tVar 7) (tCons (tVar 3) tNil))) (tVar 5)))) (by rfl) sc_law.nd (pi_range2 (by rfl) W.z_range (pa_cons pe_int (pa_cons (pe_op op_add (pv 2) pe_int) pa_nil))) (blkOk_by (own := [("thing", 7)]) (N := N_law) (sc := defScope s_law) (by decide +kernel)) (fun _ _ _ _ _ => (pg_name (i := 7) sc_law.nd rfl (Or.inl rfl))) (fun _ _ _ _ _ => (pts_one (pt_cmpR (op_eqD hr.units) (pe_callO O__law_words hr (by first | decide | omega) (by rfl) (pa_cons (pv 7) (pa_cons (pv 3) pa_nil))) (pv 5) (nomark _)))) (fun _ _ _ _ _ => (pv 7))) pa_nil)))   (pss_one (ps_if (pt_cmpR (op_neD hr.units) (pe_callO O_can_lie hr (by first | decide | omega) (by rfl) (pa_cons (pv 2) (pa_cons (pv 3) (pa_cons (pv 5) pa_nil)))) (pv 6) (nomark _)) (pss_one (ps_ret pe_bl)) pss_nil)))))))))   (pss_one (ps_ret (pe_and (pe_cmpR (op_eqD hr.units) (pe_callO O_can_lie hr (by first | decide | omega) (by rfl) (pa_cons pe_int (pa_cons (pe_lst (pa_cons pe_int (pa_cons pe_int (pa_cons pe_int pa_nil)))) (pa_cons (pe_lst (pa_cons pe_str (pa_cons pe_str pa_nil))) pa_nil)))) (pe_tup (pa_cons pe_int pa_nil)) (nomark _)) (pe_one (pe_cmpR (op_eqD hr.units) (pe_callO O_can_lie hr (by first | decide | omega) (by rfl) (pa_cons pe_int (pa_cons (pe_lst (pa_cons pe_int (pa_cons pe_int (pa_cons pe_int pa_nil)))) (pa_cons (pe_lst (pa_cons pe_str (pa_cons pe_str pa_nil))) pa_nil)))) (pe_tup pa_nil) (nomark _)))))))
end
def d_is_whole : He.DefD := ⟨("is_whole", none), "is_whole", "is_whole", defArgs s_is_whole, defBody s_is_whole, defScope s_is_whole, [], []⟩
def d_is_place : He.DefD := ⟨("is_place", none), "is_place", "is_place", defArgs s_is_place, defBody s_is_place, defScope s_is_place, [], []⟩
def d_is_word : He.DefD := ⟨("is_word", none), "is_word", "is_word", defArgs s_is_word, defBody s_is_word, defScope s_is_word, [], []⟩
def d_check_length : He.DefD := ⟨("check_length", none), "check_length", "check_length", defArgs s_check_length, defBody s_check_length, defScope s_check_length, [], []⟩
def d_check_stands : He.DefD := ⟨("check_stands", none), "check_stands", "check_stands", defArgs s_check_stands, defBody s_check_stands, defScope s_check_stands, [], []⟩
def d_check_answers : He.DefD := ⟨("check_answers", none), "check_answers", "check_answers", defArgs s_check_answers, defBody s_check_answers, defScope s_check_answers, [], []⟩
def d_word_for : He.DefD := ⟨("word_for", none), "word_for", "word_for", defArgs s_word_for, defBody s_word_for, defScope s_word_for, [], []⟩
def d_answer_to_move : He.DefD := ⟨("answer_to_move", none), "answer_to_move", "answer_to_move", defArgs s_answer_to_move, defBody s_answer_to_move, defScope s_answer_to_move, [], []⟩
def d_row_of_answers : He.DefD := ⟨("row_of_answers", none), "row_of_answers", "row_of_answers", defArgs s_row_of_answers, defBody s_row_of_answers, defScope s_row_of_answers, [], []⟩
def d_can_lie : He.DefD := ⟨("can_lie", none), "can_lie", "can_lie", defArgs s_can_lie, defBody s_can_lie, defScope s_can_lie, [], []⟩
def d__law_cell_at : He.DefD := ⟨("_law_cell_at", none), "_law_cell_at", "_law_cell_at", defArgs s__law_cell_at, defBody s__law_cell_at, defScope s__law_cell_at, [], []⟩
def d__law_draws : He.DefD := ⟨("_law_draws", none), "_law_draws", "_law_draws", defArgs s__law_draws, defBody s__law_draws, defScope s__law_draws, [], []⟩
def d__law_bag : He.DefD := ⟨("_law_bag", none), "_law_bag", "_law_bag", defArgs s__law_bag, defBody s__law_bag, defScope s__law_bag, [], []⟩
def d__law_bags : He.DefD := ⟨("_law_bags", none), "_law_bags", "_law_bags", defArgs s__law_bags, defBody s__law_bags, defScope s__law_bags, [], []⟩
def d__law_take : He.DefD := ⟨("_law_take", none), "_law_take", "_law_take", defArgs s__law_take, defBody s__law_take, defScope s__law_take, [], []⟩
def d__law_some_stands : He.DefD := ⟨("_law_some_stands", none), "_law_some_stands", "_law_some_stands", defArgs s__law_some_stands, defBody s__law_some_stands, defScope s__law_some_stands, [], []⟩
def d__law_word : He.DefD := ⟨("_law_word", none), "_law_word", "_law_word", defArgs s__law_word, defBody s__law_word, defScope s__law_word, [], []⟩
def d__law_words : He.DefD := ⟨("_law_words", none), "_law_words", "_law_words", defArgs s__law_words, defBody s__law_words, defScope s__law_words, [], []⟩
def d__law_bent_words : He.DefD := ⟨("_law_bent_words", none), "_law_bent_words", "_law_bent_words", defArgs s__law_bent_words, defBody s__law_bent_words, defScope s__law_bent_words, [], []⟩
def d_law : He.DefD := ⟨("law", none), "law", "law", defArgs s_law, defBody s_law, defScope s_law, [], []⟩
def fn : List He.DefD := [d_is_whole, d_is_place, d_is_word, d_check_length, d_check_stands, d_check_answers, d_word_for, d_answer_to_move, d_row_of_answers, d_can_lie, d__law_cell_at, d__law_draws, d__law_bag, d__law_bags, d__law_take, d__law_some_stands, d__law_word, d__law_words, d__law_bent_words, d_law]
def fa : List He.Fa := [.glo "is_whole", .glo "is_place", .glo "is_word", .glo "check_length", .glo "check_stands", .glo "check_answers", .glo "word_for", .glo "answer_to_move", .glo "row_of_answers", .glo "can_lie", .glo "_law_cell_at", .glo "_law_draws", .glo "_law_bag", .glo "_law_bags", .glo "_law_take", .glo "_law_some_stands", .glo "_law_word", .glo "_law_words", .glo "_law_bent_words", .glo "law", .free "abs", .free "all", .free "bool", .free "int", .free "isinstance", .free "len", .free "list", .free "max", .free "min", .free "range", .free "str", .free "tuple", .free "zip", .int "LONGEST_PATH" 60, .int "MOST_STANDS" 40, .glo "WORDS"]
def loose : List PySem.Str := ["SeekError", "NoLength", "NoStands", "NoAnswers", "LONGEST_PATH", "MOST_STANDS", "WORDS", "is_whole", "is_place", "is_word", "check_length", "check_stands", "check_answers", "word_for", "answer_to_move", "row_of_answers", "can_lie", "_law_cell_at", "_law_draws", "_law_bag", "_law_bags", "_law_take", "_law_some_stands", "_law_word", "_law_words", "_law_bent_words"]
abbrev R : PySem.W.OpenRow := PySem.W.OpenLaw.row PySem.Challenge.rw_warmcold_k02_where_the_thing_can_lie
def exB (K : PySem.W.Frag) : Bool := He.tupB K "WORDS" [.str "warm", .str "cold", .str "same"]
abbrev hk : PySem.W.Hook := hookY 4 fa fn exB
def ob (s : PySem.W.SharedT) : He.AlD × Bool := obsYG 4 fa fn exB (HandSHeadRun.getT s)
theorem ob_eq (s : PySem.W.SharedT) : ob s = hk.obs s.abs := obsYG_eq (HandSHeadRun.getT_eq s)
theorem run (w : World) : HandSHeadRun.RunEq R (PySem.W.view R.prog [30]) hk ob 4000 loose w := by
  intro os
  kernel_rfl
theorem facts {P : Program} {w : World} {K : PySem.W.Frag} {h : Heap} {mg : Str → Option Value} {f : Addr} (X : K.In h) (G : h.Ns mainGlobals mg) (hfa : mg ("law" : Str) = some (.ref f)) (c2 : SaysY fa fn exB K) :
    ∃ fd : FuncData, (∀ (s : Shared) (v : Value), BindsTo s fd ⟨[v], []⟩ [("script", v)]) ∧ ∀ base : Heap, K.In base → base.Ns mainGlobals mg → FnOk P w K mg base CX0 5 f fd ["script"] (sp_law K) := by
  have c := c2.1
  obtain ⟨fd_is_whole, F_is_whole⟩ := c.def_ 0 (d := d_is_whole) rfl
  obtain ⟨fd_is_place, F_is_place⟩ := c.def_ 1 (d := d_is_place) rfl
  obtain ⟨fd_is_word, F_is_word⟩ := c.def_ 2 (d := d_is_word) rfl
  obtain ⟨fd_check_length, F_check_length⟩ := c.def_ 3 (d := d_check_length) rfl
  obtain ⟨fd_check_stands, F_check_stands⟩ := c.def_ 4 (d := d_check_stands) rfl
  obtain ⟨fd_check_answers, F_check_answers⟩ := c.def_ 5 (d := d_check_answers) rfl
  obtain ⟨fd_word_for, F_word_for⟩ := c.def_ 6 (d := d_word_for) rfl
  obtain ⟨fd_answer_to_move, F_answer_to_move⟩ := c.def_ 7 (d := d_answer_to_move) rfl
  obtain ⟨fd_row_of_answers, F_row_of_answers⟩ := c.def_ 8 (d := d_row_of_answers) rfl
  obtain ⟨fd_can_lie, F_can_lie⟩ := c.def_ 9 (d := d_can_lie) rfl
  obtain ⟨fd__law_cell_at, F__law_cell_at⟩ := c.def_ 10 (d := d__law_cell_at) rfl
  obtain ⟨fd__law_draws, F__law_draws⟩ := c.def_ 11 (d := d__law_draws) rfl
  obtain ⟨fd__law_bag, F__law_bag⟩ := c.def_ 12 (d := d__law_bag) rfl
  obtain ⟨fd__law_bags, F__law_bags⟩ := c.def_ 13 (d := d__law_bags) rfl
  obtain ⟨fd__law_take, F__law_take⟩ := c.def_ 14 (d := d__law_take) rfl
  obtain ⟨fd__law_some_stands, F__law_some_stands⟩ := c.def_ 15 (d := d__law_some_stands) rfl
  obtain ⟨fd__law_word, F__law_word⟩ := c.def_ 16 (d := d__law_word) rfl
  obtain ⟨fd__law_words, F__law_words⟩ := c.def_ 17 (d := d__law_words) rfl
  obtain ⟨fd__law_bent_words, F__law_bent_words⟩ := c.def_ 18 (d := d__law_bent_words) rfl
  obtain ⟨fd_law, F_law⟩ := c.def_ 19 (d := d_law) rfl
  have W : Wd K mg := {
    z_abs := He.free_ok X G (c.fact 20 (f := .free "abs") rfl)
    z_all := He.free_ok X G (c.fact 21 (f := .free "all") rfl)
    z_bool := He.free_ok X G (c.fact 22 (f := .free "bool") rfl)
    z_int := He.free_ok X G (c.fact 23 (f := .free "int") rfl)
    z_isinstance := He.free_ok X G (c.fact 24 (f := .free "isinstance") rfl)
    z_len := He.free_ok X G (c.fact 25 (f := .free "len") rfl)
    z_list := He.free_ok X G (c.fact 26 (f := .free "list") rfl)
    z_max := He.free_ok X G (c.fact 27 (f := .free "max") rfl)
    z_min := He.free_ok X G (c.fact 28 (f := .free "min") rfl)
    z_range := He.free_ok X G (c.fact 29 (f := .free "range") rfl)
    z_str := He.free_ok X G (c.fact 30 (f := .free "str") rfl)
    z_tuple := He.free_ok X G (c.fact 31 (f := .free "tuple") rfl)
    z_zip := He.free_ok X G (c.fact 32 (f := .free "zip") rfl)
    c_LONGEST_PATH := He.int_ok X G (c.fact 33 (f := .int "LONGEST_PATH" 60) rfl)
    c_MOST_STANDS := He.int_ok X G (c.fact 34 (f := .int "MOST_STANDS" 40) rfl)
    c_WORDS := He.glo_ok X G (c.fact 35 (f := .glo "WORDS") rfl)
    q_WORDS := fun H => He.tupB_ok (show He.tupB K "WORDS" _ = true from c2.2) H
  }
  have e := hfa.symm.trans (He.glo_ok X G (c.fact 19 (f := .glo "law") rfl))
  cases e
  have bL := FunD.bindsA (ps := ["script"]) F_law fun _ _ _ _ _ _ us hl => match us, hl with | [_], _ => rfl
  refine ⟨fd_law, fun s v => bL s [v] rfl, fun base _ _ => ?_⟩
  have O_is_whole : Own P w K mg base 1 "is_whole" ["value"] (sp_is_whole K) := ⟨_, fd_is_whole, ok_is_whole F_is_whole W , He.glo_ok X G (c.fact 0 (f := .glo "is_whole") rfl), F_is_whole.kp, FunD.bindsN F_is_whole fun _ _ _ _ _ _ us hl => match us, hl with | [_], _ => rfl⟩
  have O_is_place : Own P w K mg base 2 "is_place" ["value", "length"] (sp_is_place K) := ⟨_, fd_is_place, ok_is_place F_is_place W O_is_whole, He.glo_ok X G (c.fact 1 (f := .glo "is_place") rfl), F_is_place.kp, FunD.bindsN F_is_place fun _ _ _ _ _ _ us hl => match us, hl with | [_, _], _ => rfl⟩
  have O_is_word : Own P w K mg base 1 "is_word" ["value"] (sp_is_word K) := ⟨_, fd_is_word, ok_is_word F_is_word W , He.glo_ok X G (c.fact 2 (f := .glo "is_word") rfl), F_is_word.kp, FunD.bindsN F_is_word fun _ _ _ _ _ _ us hl => match us, hl with | [_], _ => rfl⟩
  have O_check_length : Own P w K mg base 3 "check_length" ["length"] (sp_check_length K) := ⟨_, fd_check_length, ok_check_length F_check_length W O_is_place, He.glo_ok X G (c.fact 3 (f := .glo "check_length") rfl), F_check_length.kp, FunD.bindsN F_check_length fun _ _ _ _ _ _ us hl => match us, hl with | [_], _ => rfl⟩
  have O_check_stands : Own P w K mg base 3 "check_stands" ["stands", "length"] (sp_check_stands K) := ⟨_, fd_check_stands, ok_check_stands F_check_stands W O_is_place, He.glo_ok X G (c.fact 4 (f := .glo "check_stands") rfl), F_check_stands.kp, FunD.bindsN F_check_stands fun _ _ _ _ _ _ us hl => match us, hl with | [_, _], _ => rfl⟩
  have O_check_answers : Own P w K mg base 2 "check_answers" ["answers", "stands"] (sp_check_answers K) := ⟨_, fd_check_answers, ok_check_answers F_check_answers W O_is_word, He.glo_ok X G (c.fact 5 (f := .glo "check_answers") rfl), F_check_answers.kp, FunD.bindsN F_check_answers fun _ _ _ _ _ _ us hl => match us, hl with | [_, _], _ => rfl⟩
  have O_word_for : Own P w K mg base 1 "word_for" ["before", "after"] (sp_word_for K) := ⟨_, fd_word_for, ok_word_for F_word_for W , He.glo_ok X G (c.fact 6 (f := .glo "word_for") rfl), F_word_for.kp, FunD.bindsN F_word_for fun _ _ _ _ _ _ us hl => match us, hl with | [_, _], _ => rfl⟩
  have O_answer_to_move : Own P w K mg base 2 "answer_to_move" ["thing", "earlier", "later"] (sp_answer_to_move K) := ⟨_, fd_answer_to_move, ok_answer_to_move F_answer_to_move W O_word_for, He.glo_ok X G (c.fact 7 (f := .glo "answer_to_move") rfl), F_answer_to_move.kp, FunD.bindsN F_answer_to_move fun _ _ _ _ _ _ us hl => match us, hl with | [_, _, _], _ => rfl⟩
  have O_row_of_answers : Own P w K mg base 3 "row_of_answers" ["thing", "stands"] (sp_row_of_answers K) := ⟨_, fd_row_of_answers, ok_row_of_answers F_row_of_answers W O_answer_to_move, He.glo_ok X G (c.fact 8 (f := .glo "row_of_answers") rfl), F_row_of_answers.kp, FunD.bindsN F_row_of_answers fun _ _ _ _ _ _ us hl => match us, hl with | [_, _], _ => rfl⟩
  have O_can_lie : Own P w K mg base 4 "can_lie" ["length", "stands", "answers"] (sp_can_lie K) := ⟨_, fd_can_lie, ok_can_lie F_can_lie W O_check_length O_check_stands O_check_answers O_row_of_answers, He.glo_ok X G (c.fact 9 (f := .glo "can_lie") rfl), F_can_lie.kp, FunD.bindsN F_can_lie fun _ _ _ _ _ _ us hl => match us, hl with | [_, _, _], _ => rfl⟩
  have O__law_cell_at : Own P w K mg base 1 "_law_cell_at" ["script", "k"] (sp__law_cell_at K) := ⟨_, fd__law_cell_at, ok__law_cell_at F__law_cell_at W , He.glo_ok X G (c.fact 10 (f := .glo "_law_cell_at") rfl), F__law_cell_at.kp, FunD.bindsN F__law_cell_at fun _ _ _ _ _ _ us hl => match us, hl with | [_, _], _ => rfl⟩
  have O__law_draws : Own P w K mg base 1 "_law_draws" ["cell", "many", "size"] (sp__law_draws K) := ⟨_, fd__law_draws, ok__law_draws F__law_draws W , He.glo_ok X G (c.fact 11 (f := .glo "_law_draws") rfl), F__law_draws.kp, FunD.bindsN F__law_draws fun _ _ _ _ _ _ us hl => match us, hl with | [_, _, _], _ => rfl⟩
  have O__law_bag : Own P w K mg base 2 "_law_bag" ["script", "k"] (sp__law_bag K) := ⟨_, fd__law_bag, ok__law_bag F__law_bag W O__law_draws O__law_cell_at, He.glo_ok X G (c.fact 12 (f := .glo "_law_bag") rfl), F__law_bag.kp, FunD.bindsN F__law_bag fun _ _ _ _ _ _ us hl => match us, hl with | [_, _], _ => rfl⟩
  have O__law_bags : Own P w K mg base 3 "_law_bags" ["script", "limit"] (sp__law_bags K) := ⟨_, fd__law_bags, ok__law_bags F__law_bags W O__law_bag, He.glo_ok X G (c.fact 13 (f := .glo "_law_bags") rfl), F__law_bags.kp, FunD.bindsN F__law_bags fun _ _ _ _ _ _ us hl => match us, hl with | [_, _], _ => rfl⟩
  have O__law_take : Own P w K mg base 1 "_law_take" ["bag", "many"] (sp__law_take K) := ⟨_, fd__law_take, ok__law_take F__law_take W , He.glo_ok X G (c.fact 14 (f := .glo "_law_take") rfl), F__law_take.kp, FunD.bindsN F__law_take fun _ _ _ _ _ _ us hl => match us, hl with | [_, _], _ => rfl⟩
  have O__law_some_stands : Own P w K mg base 2 "_law_some_stands" ["bag", "length", "most"] (sp__law_some_stands K) := ⟨_, fd__law_some_stands, ok__law_some_stands F__law_some_stands W O__law_take, He.glo_ok X G (c.fact 15 (f := .glo "_law_some_stands") rfl), F__law_some_stands.kp, FunD.bindsN F__law_some_stands fun _ _ _ _ _ _ us hl => match us, hl with | [_, _, _], _ => rfl⟩
  have O__law_word : Own P w K mg base 1 "_law_word" ["far", "near"] (sp__law_word K) := ⟨_, fd__law_word, ok__law_word F__law_word W , He.glo_ok X G (c.fact 16 (f := .glo "_law_word") rfl), F__law_word.kp, FunD.bindsN F__law_word fun _ _ _ _ _ _ us hl => match us, hl with | [_, _], _ => rfl⟩
  have O__law_words : Own P w K mg base 2 "_law_words" ["thing", "stands"] (sp__law_words K) := ⟨_, fd__law_words, ok__law_words F__law_words W O__law_word, He.glo_ok X G (c.fact 17 (f := .glo "_law_words") rfl), F__law_words.kp, FunD.bindsN F__law_words fun _ _ _ _ _ _ us hl => match us, hl with | [_, _], _ => rfl⟩
  have O__law_bent_words : Own P w K mg base 2 "_law_bent_words" ["bag", "words"] (sp__law_bent_words K) := ⟨_, fd__law_bent_words, ok__law_bent_words F__law_bent_words W O__law_take, He.glo_ok X G (c.fact 18 (f := .glo "_law_bent_words") rfl), F__law_bent_words.kp, FunD.bindsN F__law_bent_words fun _ _ _ _ _ _ us hl => match us, hl with | [_, _], _ => rfl⟩
  exact ok_law F_law W O__law_bags O__law_take O__law_some_stands O__law_words O__law_bent_words O_can_lie
end Wc
open PySem PySem.W PySem.Calls PyProof.Rows
set_option maxRecDepth 100000 in
set_option maxHeartbeats 0 in
theorem PySem.Challenge.cw_warmcold_k02_where_the_thing_can_lie_holds : PySem.Challenge.rw_warmcold_k02_where_the_thing_can_lie.Holds := by
  w_on; o_law
  refine HandSHeadRun.head_any (r := OpenLaw.row PySem.Challenge.rw_warmcold_k02_where_the_thing_can_lie) (q := view (OpenLaw.row PySem.Challenge.rw_warmcold_k02_where_the_thing_can_lie).prog [30]) (H := Wc.hk) (ob := Wc.ob) (M := 4000) (loose := Wc.loose) (d := HandSHeadRun.topDef (OpenLaw.row PySem.Challenge.rw_warmcold_k02_where_the_thing_can_lie).prog 30) (kwd := []) Wc.ob_eq (by kernel_rfl) (fun s => by kernel_rfl) Wc.run (by kernel_rfl) (by kernel_rfl) (by kernel_rfl) (by rfl) (by first | assumption | decide +kernel) (by decide +kernel) ⟨rfl, rfl, rfl, rfl, rfl, by decide +kernel⟩ ?hw ?hc
  case hw => w_witness2
  case hc =>
    refine L2.walk_ofE (l := PySem.Challenge.rw_warmcold_k02_where_the_thing_can_lie) (n := 63) (k := 5) (x := "script") (CX := L2.CX0) rfl (by decide) (by kernel_rfl) ⟨rfl, by decide, by decide⟩ ?F (fun _ _ _ _ z => z)
    intro w mg fa h Y G hmg0
    obtain ⟨K, KX, c⟩ := Y
    have hmg : mg ("law" : PySem.Str) = some (.ref fa) := by
      have e : (HandSHeadRun.topDef (OpenLaw.row PySem.Challenge.rw_warmcold_k02_where_the_thing_can_lie).prog 30).name = ("law" : PySem.Str) := by kernel_rfl
      rw [← e]
      exact hmg0
    obtain ⟨fd, hb, hF⟩ := Wc.facts (P := (PySem.Challenge.rw_warmcold_k02_where_the_thing_can_lie).prog) (w := w) KX G hmg c
    exact ⟨K, fd, Wc.sp_law K, KX, hb, fun H a ns hl _ hS => ⟨a, ns, rfl, hS, hl, fun _ => rfl⟩, hF⟩
