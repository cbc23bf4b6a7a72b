import PyProof.Rows.All
import Wide.All
import OpenK.AllK
import Wide.FinOn
import KE.KStateDown
import HandS.ForMost
import HandS.Defaults
import HandS.IsInst
import HandS.Conv
import HandS.Style
import HandS.Evl
import HandS.Head0
import HandS.Head1
import HandS.Head2
import HandS.HeadEnd
import HandS.HeadHook1
import HandS.HeadHook2
import KE.KRevSl
import HandS.TupSets
import HandS.Deep
import HandS.TupAny
import KE.DatumOrd
import PyProof.Rows.RowBridgeK
import HandS.Walk
import KE.KeyNested
import PySem.Challenge.RW_warmcold_k10_whole_wrong_answers_and_pla
set_option Elab.async false
set_option linter.all false
set_option maxRecDepth 100000
set_option maxHeartbeats 2000000
namespace Wc
open PySem PySem.Spec PyProof.Rows L2
open Evl (Ex ex_l ex_t fresh_back)
/-! ### own defs by their promises -/
structure Own (P : Program) (w : World) (K : PySem.W.Frag) (mg : Str → Option Value) (base : Heap) (k : Nat) (x : Str) (ps : List Str) (sp : Sp) : Prop where
  ex : ∃ (f : Addr) (fd : FuncData), FnOk P w K mg base CX0 k f fd ps sp ∧ mg x = some (.ref f) ∧ PySem.W.keepIn K (.ref f) = true ∧ Binds K fd ps []
theorem pe_callO {X : Cx} {k k' : Nat} {x : Str} {ps : List Str} {sp : Sp} {p pos : Pos} {e : Expr} {es : List Expr} {t : TA}
    (O : Own X.prog X.w X.K X.mg X.base k x ps sp) (hr : Room k' X.A) (hk : k ≤ k') (hg : Gl X x) (ha : PA X (e :: es) t)
    (hdb : (x == ("__debug__" : Str)) = false := by decide) (he : starEach (e :: es) X.env = (false, eval e X.env) :: starEach es X.env := by rfl) (hpl : (backTo pos (starEach es X.env)).any (·.1) = false := by rfl) :
    PE X (.Call (.Name x p) (e :: es) [] pos) (tCall sp [] E0 t) := by
  obtain ⟨f, fd, F, hm, hkp, hb⟩ := O.ex
  exact pe_call F (hr.mono hk) hg hm hkp hb .nil pass0 ha hdb he hpl
theorem units65 {k : Nat} {A : Around} (hr : Room k A) : A.units + 65 < cLine := by
  have := hr.un
  omega
abbrev FnP (K : PySem.W.Frag) (x : Str) (st : Stmt) (f : Addr) (fd : FuncData) : Prop := FunD K x x (defArgs st) (defBody st) (defScope st) [] [] f fd
/-! ### the head's facts, with one Bool more -/
def obsY (fa : List He.Fa) (fn : List He.DefD) (ex : PySem.W.Frag → Bool) (K : PySem.W.Frag) : He.AlD × Bool := (He.obsD fa fn K, ex K)
def obsYG (n : Nat) (fa : List He.Fa) (fn : List He.DefD) (ex : PySem.W.Frag → Bool) (g : Addr → Option Obj) : He.AlD × Bool := obsY fa fn ex (He.frG g (He.asD g n))
def SaysY (fa : List He.Fa) (fn : List He.DefD) (ex : PySem.W.Frag → Bool) (K : PySem.W.Frag) : Prop := He.SaysD fa fn K ∧ ex K = true
def hookY (n : Nat) (fa : List He.Fa) (fn : List He.DefD) (ex : PySem.W.Frag → Bool) : PySem.W.Hook where
  α := He.AlD × Bool
  obs := fun s => obsYG n fa fn ex s.heap.get?
  val := fun _ => (He.valD fn, true)
  says := fun _ h => ∃ K : PySem.W.Frag, K.In h ∧ SaysY fa fn ex K
  of := fun _ _ e => ⟨_, He.frG_in, congrArg Prod.fst e, congrArg Prod.snd e⟩
  keeps := fun _ _ _ ⟨K, hK, c⟩ k => ⟨K, PySem.W.Frag.In.keeps hK k, c⟩
theorem obsYG_eq {n : Nat} {fa : List He.Fa} {fn : List He.DefD} {ex : PySem.W.Frag → Bool} {g : Addr → Option Obj} {s : Shared} (h : ∀ a, g a = s.heap.get? a) : obsYG n fa fn ex g = (hookY n fa fn ex).obs s := by
  have e : g = s.heap.get? := funext h
  rw [e]
  rfl
/-! ### built-ins -/
theorem bb_abs : bootBuiltins "abs" = some (.builtin "abs") := by decide +kernel
theorem bb_max : bootBuiltins "max" = some (.builtin "max") := by decide +kernel
theorem bb_min : bootBuiltins "min" = some (.builtin "min") := by decide +kernel
theorem bb_all : bootBuiltins "all" = some (.builtin "all") := by decide +kernel
theorem bb_sum : bootBuiltins "sum" = some (.builtin "sum") := by decide +kernel
theorem bb_sorted : bootBuiltins "sorted" = some (.builtin "sorted") := by decide +kernel
theorem bb_isinstance : bootBuiltins "isinstance" = some (.builtin "isinstance") := by decide +kernel
theorem bt_int : bootBuiltins "int" = some (.type "int") := by decide +kernel
theorem bt_bool : bootBuiltins "bool" = some (.type "bool") := by decide +kernel
theorem bt_str : bootBuiltins "str" = some (.type "str") := by decide +kernel
theorem bt_list : bootBuiltins "list" = some (.type "list") := by decide +kernel
theorem bt_tuple : bootBuiltins "tuple" = some (.type "tuple") := by decide +kernel
abbrev rAbs : List V → Hp → VK → Prop := fun xs H Q => ∃ i, xs = [.int i] ∧ Q (.int (if i < 0 then -i else i)) H
abbrev rMax2 : List V → Hp → VK → Prop := fun xs H Q => ∃ i j, xs = [.int i, .int j] ∧ Q (.int (if j > i then j else i)) H
abbrev rMin2 : List V → Hp → VK → Prop := fun xs H Q => ∃ i j, xs = [.int i, .int j] ∧ Q (.int (if j < i then j else i)) H
abbrev rInt1 : List V → Hp → VK → Prop := fun xs H Q => (∃ i, xs = [.int i] ∧ Q (.int i) H) ∨ ∃ k, xs = [.bl k] ∧ Q (.int (if k then 1 else 0)) H
abbrev rLenQ (K : PySem.W.Frag) : List V → Hp → VK → Prop := fun xs H Q => ∃ p ys, xs = [.ref p] ∧ (SqL K H p ys ∨ SqT K H p ys) ∧ Q (.int ys.length) H
abbrev rListOf (K : PySem.W.Frag) : List V → Hp → VK → Prop := fun xs H Q => ∃ p ys, xs = [.ref p] ∧ (SqL K H p ys ∨ SqT K H p ys) ∧ ∀ l, H l = none → Q (.ref l) (upd H l (.lst ys))
abbrev rTupleOf (K : PySem.W.Frag) : List V → Hp → VK → Prop := fun xs H Q => ∃ p ys, xs = [.ref p] ∧ ((SqL K H p ys ∧ ∀ l, H l = none → Q (.ref l) (upd H l (.tup ys))) ∨ (SqT K H p ys ∧ Q (.ref p) H))
/-! ### words -/
inductive Wo where
  | warm | cold | same
  deriving DecidableEq
def Wo.str : Wo → Str
  | .warm => "warm"
  | .cold => "cold"
  | .same => "same"
def vW (x : Wo) : V := .str x.str
theorem Wo.str_inj {x y : Wo} (h : x.str = y.str) : x = y := by
  revert h
  cases x <;> cases y <;> first | (intro _; rfl) | (intro h; exact absurd h (by decide +kernel))
theorem vW_inj {x y : Wo} (h : vW x = vW y) : x = y := Wo.str_inj (V.str.inj h)
def ab (i : Int) : Int := if i < 0 then -i else i
def word (far near : Int) : Wo := if near < far then .warm else if far < near then .cold else .same
def mv (t e l : Int) : Wo := word (ab (t - e)) (ab (t - l))
def wordsOf (t : Int) : List Int → List Wo
  | e :: l :: r => mv t e l :: wordsOf t (l :: r)
  | _ => []
theorem wordsOf_len (t : Int) : ∀ ns : List Int, (wordsOf t ns).length = ns.length - 1
  | [] => rfl
  | [_] => rfl
  | x :: y :: r => by
    show (wordsOf t (y :: r)).length + 1 = (y :: r).length + 1 - 1
    rw [wordsOf_len t (y :: r)]
    simp
theorem wordsOf_get (t : Int) : ∀ (ns : List Int) (i : Nat) (x y : Int), ns[i]? = some x → ns[i + 1]? = some y → (wordsOf t ns)[i]? = some (mv t x y)
  | [], _, _, _, h, _ => by simp at h
  | [_], 0, _, _, _, h => by simp at h
  | [_], i + 1, _, _, h, _ => by simp at h
  | a :: b :: r, 0, x, y, h, h2 => by
    have e1 : a = x := Option.some.inj h
    have e2 : b = y := Option.some.inj h2
    rw [← e1, ← e2]
    rfl
  | a :: b :: r, i + 1, x, y, h, h2 => wordsOf_get t (b :: r) i x y h h2
/-! ### data -/
theorem dpI {K : PySem.W.Frag} {H : Hp} : ∀ ns : List Int, DpAll K H (ns.map V.int) (ns.map PyData.int)
  | [] => .nil
  | n :: r => .cons (.int n) (dpI r)
theorem dpW {K : PySem.W.Frag} {H : Hp} : ∀ ws : List Wo, DpAll K H (ws.map vW) (ws.map fun x => PyData.str x.str)
  | [] => .nil
  | x :: r => .cons (.str x.str) (dpW r)
theorem shI : ∀ ns : List Int, PyData.canLayAll0 (ns.map PyData.int) = true ∧ PyData.depthAll (ns.map PyData.int) = 0
  | [] => ⟨rfl, rfl⟩
  | n :: r => by
    obtain ⟨h1, h2⟩ := shI r
    constructor
    · show (PyData.canLay0 (PyData.int n) && PyData.canLayAll0 (r.map PyData.int)) = true
      rw [h1] <;> rfl
    · show max (PyData.depth (PyData.int n)) (PyData.depthAll (r.map PyData.int)) = 0
      rw [h2] <;> rfl
theorem strOk_w (x : Wo) : PyData.canLay0 (PyData.str x.str) = true := by
  cases x <;> decide +kernel
theorem shW : ∀ ws : List Wo, PyData.canLayAll0 (ws.map fun x => PyData.str x.str) = true ∧ PyData.depthAll (ws.map fun x => PyData.str x.str) = 0
  | [] => ⟨rfl, rfl⟩
  | x :: r => by
    obtain ⟨h1, h2⟩ := shW r
    constructor
    · show (PyData.canLay0 (PyData.str x.str) && PyData.canLayAll0 (r.map fun x => PyData.str x.str)) = true
      rw [h1, strOk_w] <;> rfl
    · show max (PyData.depth (PyData.str x.str)) (PyData.depthAll (r.map fun x => PyData.str x.str)) = 0
      rw [h2] <;> rfl
theorem shaped_l {ds : List PyData} (h : PyData.canLayAll0 ds = true ∧ PyData.depthAll ds = 0) : SeqAt.shaped (.list ds) = true := by
  unfold SeqAt.shaped
  have e1 : PyData.canLay0 (.list ds) = true := h.1
  have e2 : PyData.depth (.list ds) = 1 := by
    show PyData.depthAll ds + 1 = 1
    rw [h.2]
  rw [e1, e2] <;> rfl
theorem shaped_t {ds : List PyData} (h : PyData.canLayAll0 ds = true ∧ PyData.depthAll ds = 0) : SeqAt.shaped (.tuple ds) = true := by
  unfold SeqAt.shaped
  have e1 : PyData.canLay0 (.tuple ds) = true := h.1
  have e2 : PyData.depth (.tuple ds) = 1 := by
    show PyData.depthAll ds + 1 = 1
    rw [h.2]
  rw [e1, e2] <;> rfl
theorem eqvI : ∀ ns ms : List Int, PyData.eqvAll (ns.map PyData.int) (ms.map PyData.int) = decide (ns = ms)
  | [], [] => rfl
  | [], _ :: _ => rfl
  | _ :: _, [] => rfl
  | n :: r, m :: q => by
    show (PyData.eqv (PyData.int n) (PyData.int m) && PyData.eqvAll (r.map PyData.int) (q.map PyData.int)) = _
    rw [eqvI r q]
    show ((n == m) && decide (r = q)) = _
    by_cases h1 : n = m <;> by_cases h2 : r = q <;> simp [h1, h2]
theorem eqvW : ∀ ns ms : List Wo, PyData.eqvAll (ns.map fun x => PyData.str x.str) (ms.map fun x => PyData.str x.str) = decide (ns = ms)
  | [], [] => rfl
  | [], _ :: _ => rfl
  | _ :: _, [] => rfl
  | n :: r, m :: q => by
    show (PyData.eqv (PyData.str n.str) (PyData.str m.str) && PyData.eqvAll (r.map fun x => PyData.str x.str) (q.map fun x => PyData.str x.str)) = _
    rw [eqvW r q]
    show ((n.str == m.str) && decide (r = q)) = _
    have e : (n.str == m.str) = decide (n = m) := by
      cases n <;> cases m <;> decide +kernel
    rw [e]
    by_cases h1 : n = m <;> by_cases h2 : r = q <;> simp [h1, h2]
/-- two lists of ints, of words, compared -/
theorem eqII {K : PySem.W.Frag} {H : Hp} {a b : Addr} {ns ms : List Int} {Q : VK} (h1 : SqL K H a (ns.map V.int)) (h2 : SqL K H b (ms.map V.int)) (q : Q (.bl (decide (ns = ms))) H) : rEqD K (.ref a) (.ref b) H Q := by
  refine ⟨_, _, .lst h1 (dpI ns), .lst h2 (dpI ms), shaped_l (shI ns), shaped_l (shI ms), ?_⟩
  show Q (.bl (PyData.eqvAll (ns.map PyData.int) (ms.map PyData.int))) H
  rw [eqvI]
  exact q
theorem neII {K : PySem.W.Frag} {H : Hp} {a b : Addr} {ns ms : List Int} {Q : VK} (h1 : SqL K H a (ns.map V.int)) (h2 : SqL K H b (ms.map V.int)) (q : Q (.bl (!decide (ns = ms))) H) : rNeD K (.ref a) (.ref b) H Q := by
  refine ⟨_, _, .lst h1 (dpI ns), .lst h2 (dpI ms), shaped_l (shI ns), shaped_l (shI ms), ?_⟩
  show Q (.bl (!PyData.eqvAll (ns.map PyData.int) (ms.map PyData.int))) H
  rw [eqvI]
  exact q
theorem eqWW {K : PySem.W.Frag} {H : Hp} {a b : Addr} {ns ms : List Wo} {Q : VK} (h1 : SqL K H a (ns.map vW)) (h2 : SqL K H b (ms.map vW)) (q : Q (.bl (decide (ns = ms))) H) : rEqD K (.ref a) (.ref b) H Q := by
  refine ⟨_, _, .lst h1 (dpW ns), .lst h2 (dpW ms), shaped_l (shW ns), shaped_l (shW ms), ?_⟩
  show Q (.bl (PyData.eqvAll (ns.map fun x => PyData.str x.str) (ms.map fun x => PyData.str x.str))) H
  rw [eqvW]
  exact q
theorem neWW {K : PySem.W.Frag} {H : Hp} {a b : Addr} {ns ms : List Wo} {Q : VK} (h1 : SqL K H a (ns.map vW)) (h2 : SqL K H b (ms.map vW)) (q : Q (.bl (!decide (ns = ms))) H) : rNeD K (.ref a) (.ref b) H Q := by
  refine ⟨_, _, .lst h1 (dpW ns), .lst h2 (dpW ms), shaped_l (shW ns), shaped_l (shW ms), ?_⟩
  show Q (.bl (!PyData.eqvAll (ns.map fun x => PyData.str x.str) (ms.map fun x => PyData.str x.str))) H
  rw [eqvW]
  exact q
theorem eqTT {K : PySem.W.Frag} {H : Hp} {a b : Addr} {ns ms : List Int} {Q : VK} (h1 : SqT K H a (ns.map V.int)) (h2 : SqT K H b (ms.map V.int)) (q : Q (.bl (decide (ns = ms))) H) : rEqD K (.ref a) (.ref b) H Q := by
  refine ⟨_, _, .tup h1 (dpI ns), .tup h2 (dpI ms), shaped_t (shI ns), shaped_t (shI ms), ?_⟩
  show Q (.bl (PyData.eqvAll (ns.map PyData.int) (ms.map PyData.int))) H
  rw [eqvI]
  exact q
theorem neTT {K : PySem.W.Frag} {H : Hp} {a b : Addr} {ns ms : List Int} {Q : VK} (h1 : SqT K H a (ns.map V.int)) (h2 : SqT K H b (ms.map V.int)) (q : Q (.bl (!decide (ns = ms))) H) : rNeD K (.ref a) (.ref b) H Q := by
  refine ⟨_, _, .tup h1 (dpI ns), .tup h2 (dpI ms), shaped_t (shI ns), shaped_t (shI ms), ?_⟩
  show Q (.bl (!PyData.eqvAll (ns.map PyData.int) (ms.map PyData.int))) H
  rw [eqvI]
  exact q
/-! ### comprehensions, slices -/
theorem given_all (n : Nat) (v : Nat → V) : Evl.given n (fun _ => true) v = (List.range n).map v := by
  unfold Evl.given
  rw [List.filter_eq_self.mpr (fun _ _ => rfl)]
theorem range_map (ns : List Int) (F : Int → V) : (List.range ns.length).map (fun i => F (ns.getD i 0)) = ns.map F := by
  apply List.ext_getElem?
  intro i
  rw [List.getElem?_map, List.getElem?_map]
  by_cases h : i < ns.length
  · rw [List.getElem?_range h, List.getElem?_eq_getElem h]
    show some (F (ns.getD i 0)) = some (F ns[i])
    rw [List.getD_eq_getElem?_getD, List.getElem?_eq_getElem h]
    rfl
  · rw [List.getElem?_eq_none (by rw [List.length_range]; omega), List.getElem?_eq_none (by omega)]
    rfl
/-- a list of ints, each sent on -/
theorem el_map {K : PySem.W.Frag} {σ : L2.St} {H : Hp} {a : Addr} {ns : List Int} {tl te : TE} {j : Nat} {vs : List Nat} (F : Int → V) (h : Evl.Ev tl σ H (.ref a)) (hx : SqL K H a (ns.map V.int)) (hz : ns.length ≤ 40000)
    (hw : ∀ x, wipe ((wipe σ vs).set j (some x)) vs = wipe σ vs) (he : ∀ n H1, Ex H H1 → n ∈ ns → Evl.Ev te ((wipe σ vs).set j (some (.int n))) H1 (F n)) : Evl.EvL (tLc (iList K tl) (gName j) tYes te vs) σ H (ns.map F) := by
  have r := Evl.el_lcL (K := K) (xs := ns.map V.int) (te := te) (t := tYes) (vs := vs) (j := j) (fun _ => true) (fun i => F (ns.getD i 0)) h hx (by rw [List.length_map]; exact hz) hw (fun i x H1 _ _ => fun H2 _ Q q => q H2 (Ex.refl H2)) (fun i x H1 e hi _ => by
    rw [List.getElem?_map] at hi
    by_cases hl : i < ns.length
    · rw [List.getElem?_eq_getElem hl] at hi
      have ex : x = .int ns[i] := (Option.some.inj hi).symm
      have eg : ns.getD i 0 = ns[i] := by
        rw [List.getD_eq_getElem?_getD, List.getElem?_eq_getElem hl]
        rfl
      rw [ex]
      show Evl.Ev te ((wipe σ vs).set j (some (.int ns[i]))) H1 (F (ns.getD i 0))
      rw [eg]
      exact he ns[i] H1 e (List.getElem_mem hl)
    · rw [List.getElem?_eq_none (by omega)] at hi
      cases hi)
  rw [given_all, List.length_map, range_map] at r
  exact r
/-- the same of any list -/
theorem range_mapG {α : Type} (d : α) (ns : List α) (F : α → V) : (List.range ns.length).map (fun i => F (ns.getD i d)) = ns.map F := by
  apply List.ext_getElem?
  intro i
  rw [List.getElem?_map, List.getElem?_map]
  by_cases h : i < ns.length
  · rw [List.getElem?_range h, List.getElem?_eq_getElem h]
    show some (F (ns.getD i d)) = some (F ns[i])
    rw [List.getD_eq_getElem?_getD, List.getElem?_eq_getElem h]
    rfl
  · rw [List.getElem?_eq_none (by rw [List.length_range]; omega), List.getElem?_eq_none (by omega)]
    rfl
theorem el_mapG {α : Type} (d : α) (em : α → V) {K : PySem.W.Frag} {σ : L2.St} {H : Hp} {a : Addr} {ns : List α} {tl te : TE} {j : Nat} {vs : List Nat} (F : α → V) (h : Evl.Ev tl σ H (.ref a)) (hx : SqL K H a (ns.map em)) (hz : ns.length ≤ 40000)
    (hw : ∀ x, wipe ((wipe σ vs).set j (some x)) vs = wipe σ vs) (he : ∀ n H1, Ex H H1 → n ∈ ns → Evl.Ev te ((wipe σ vs).set j (some (em n))) H1 (F n)) : Evl.EvL (tLc (iList K tl) (gName j) tYes te vs) σ H (ns.map F) := by
  have r := Evl.el_lcL (K := K) (xs := ns.map em) (te := te) (t := tYes) (vs := vs) (j := j) (fun _ => true) (fun i => F (ns.getD i d)) h hx (by rw [List.length_map]; exact hz) hw (fun i x H1 _ _ => fun H2 _ Q q => q H2 (Ex.refl H2)) (fun i x H1 e hi _ => by
    rw [List.getElem?_map] at hi
    by_cases hl : i < ns.length
    · rw [List.getElem?_eq_getElem hl] at hi
      have ex : x = em ns[i] := (Option.some.inj hi).symm
      have eg : ns.getD i d = ns[i] := by
        rw [List.getD_eq_getElem?_getD, List.getElem?_eq_getElem hl]
        rfl
      rw [ex]
      show Evl.Ev te ((wipe σ vs).set j (some (em ns[i]))) H1 (F (ns.getD i d))
      rw [eg]
      exact he ns[i] H1 e (List.getElem_mem hl)
    · rw [List.getElem?_eq_none (by omega)] at hi
      cases hi)
  rw [given_all, List.length_map, range_mapG] at r
  exact r
/-- the whole numbers from lo up to below hi -/
def rng (lo hi : Int) : List Int := (List.range (hi - lo).toNat).map fun i : Nat => lo + (i : Int)
theorem mem_rng {lo hi n : Int} : n ∈ rng lo hi ↔ lo ≤ n ∧ n < hi := by
  unfold rng
  rw [List.mem_map]
  constructor
  · rintro ⟨k, hk, rfl⟩
    have := List.mem_range.mp hk
    omega
  · intro h
    exact ⟨(n - lo).toNat, List.mem_range.mpr (by omega), by omega⟩
theorem rng_len (lo hi : Int) : (rng lo hi).length = (hi - lo).toNat := by
  unfold rng
  rw [List.length_map, List.length_range]
theorem given_rng (lo hi : Int) (f : Int → Bool) (F : Int → V) : Evl.given (hi - lo).toNat (fun i => f (lo + (i : Int))) (fun i => F (lo + (i : Int))) = ((rng lo hi).filter f).map F := by
  unfold Evl.given rng
  rw [List.filter_map, List.map_map]
  rfl
/-- a comprehension over range(lo, hi) that keeps some -/
theorem el_rng {σ : L2.St} {H : Hp} {ta : TA} {t : TT} {te : TE} {j : Nat} {vs : List Nat} {lo hi : Int} (f : Int → Bool) (F : Int → V) (h : Evl.EvA ta σ H [.int lo, .int hi]) (hb : -30000 ≤ lo ∧ lo ≤ 30000 ∧ -30000 ≤ hi ∧ hi ≤ 10000)
    (hw : ∀ x, wipe ((wipe σ vs).set j (some x)) vs = wipe σ vs) (ht : ∀ n H1, Ex H H1 → lo ≤ n → n < hi → Evl.EvT t ((wipe σ vs).set j (some (.int n))) H1 (f n))
    (he : ∀ n H1, Ex H H1 → lo ≤ n → n < hi → f n = true → Evl.Ev te ((wipe σ vs).set j (some (.int n))) H1 (F n)) : Evl.EvL (tLc (iRng2 ta) (gName j) t te vs) σ H (((rng lo hi).filter f).map F) := fun H0 e Q q => h H0 e _ fun H1 e1 =>
  ⟨lo, hi, rfl, ⟨by omega, by omega, by omega, by omega⟩, fun Dl hD =>
    lc_range (lo := lo) (n := (hi - lo).toNat) (Evl.Cw H1 (fun i => f (lo + (i : Int))) (fun i => F (lo + (i : Int))) Dl) ⟨hD, Ex.new hD, upd_same⟩ (fun i H' hi' p =>
      ⟨hw _, Evl.cw_turn p (by omega) (ht (lo + (i : Int)) H1 (e.trans e1) (by omega) (by omega)) (fun hf => he (lo + (i : Int)) H1 (e.trans e1) (by omega) (by omega) hf)⟩)
      (fun H' p => by
        have p3 := p.2.2
        rw [given_rng] at p3
        exact q Dl H' (fresh_back e1 p.1) (e1.trans p.2.1) p3)⟩
theorem given_list (ns : List Int) (f : Int → Bool) (F : Int → V) : Evl.given ns.length (fun i => f (ns.getD i 0)) (fun i => F (ns.getD i 0)) = (ns.filter f).map F := by
  have e : (List.range ns.length).map (fun i => ns.getD i 0) = ns := by
    apply List.ext_getElem?
    intro i
    rw [List.getElem?_map]
    by_cases h : i < ns.length
    · rw [List.getElem?_range h, List.getElem?_eq_getElem h]
      show some (ns.getD i 0) = some ns[i]
      rw [List.getD_eq_getElem?_getD, List.getElem?_eq_getElem h]
      rfl
    · rw [List.getElem?_eq_none (by rw [List.length_range]; omega), List.getElem?_eq_none (by omega)]
      rfl
  unfold Evl.given
  conv => rhs; rw [← e]
  rw [List.filter_map, List.map_map]
  rfl
theorem getD_at {ns : List Int} {i : Nat} {x : V} (hi : (ns.map V.int)[i]? = some x) : ns.getD i 0 ∈ ns ∧ x = .int (ns.getD i 0) := by
  rw [List.getElem?_map] at hi
  by_cases hl : i < ns.length
  · rw [List.getElem?_eq_getElem hl] at hi
    rw [List.getD_eq_getElem?_getD, List.getElem?_eq_getElem hl]
    exact ⟨List.getElem_mem hl, (Option.some.inj hi).symm⟩
  · rw [List.getElem?_eq_none (by omega)] at hi
    cases hi
/-- a comprehension over a list, a tuple, a new tuple of ints that keeps some -/
theorem el_lst {K : PySem.W.Frag} {σ : L2.St} {H : Hp} {a : Addr} {ns : List Int} {tl te : TE} {t : TT} {j : Nat} {vs : List Nat} (f : Int → Bool) (F : Int → V) (h : Evl.Ev tl σ H (.ref a)) (hx : SqL K H a (ns.map V.int)) (hz : ns.length ≤ 40000)
    (hw : ∀ x, wipe ((wipe σ vs).set j (some x)) vs = wipe σ vs) (ht : ∀ n H1, Ex H H1 → n ∈ ns → Evl.EvT t ((wipe σ vs).set j (some (.int n))) H1 (f n))
    (he : ∀ n H1, Ex H H1 → n ∈ ns → f n = true → Evl.Ev te ((wipe σ vs).set j (some (.int n))) H1 (F n)) : Evl.EvL (tLc (iList K tl) (gName j) t te vs) σ H ((ns.filter f).map F) := by
  have r := Evl.el_lcL (K := K) (xs := ns.map V.int) (te := te) (t := t) (vs := vs) (j := j) (fun i => f (ns.getD i 0)) (fun i => F (ns.getD i 0)) h hx (by rw [List.length_map]; exact hz) hw
    (fun i x H1 e hi => by rw [(getD_at hi).2]; exact ht _ H1 e (getD_at hi).1) (fun i x H1 e hi hf => by rw [(getD_at hi).2]; exact he _ H1 e (getD_at hi).1 hf)
  rw [List.length_map, given_list] at r
  exact r
theorem el_tup {K : PySem.W.Frag} {σ : L2.St} {H : Hp} {a : Addr} {ns : List Int} {tl te : TE} {t : TT} {j : Nat} {vs : List Nat} (f : Int → Bool) (F : Int → V) (h : Evl.Ev tl σ H (.ref a)) (hx : SqT K H a (ns.map V.int)) (hz : ns.length ≤ 40000)
    (hw : ∀ x, wipe ((wipe σ vs).set j (some x)) vs = wipe σ vs) (ht : ∀ n H1, Ex H H1 → n ∈ ns → Evl.EvT t ((wipe σ vs).set j (some (.int n))) H1 (f n))
    (he : ∀ n H1, Ex H H1 → n ∈ ns → f n = true → Evl.Ev te ((wipe σ vs).set j (some (.int n))) H1 (F n)) : Evl.EvL (tLc (iTup K tl) (gName j) t te vs) σ H ((ns.filter f).map F) := fun H0 e Q q => h H0 e _ fun H1 e1 =>
  ⟨a, rfl, ⟨_, ex_t (e.trans e1) hx⟩, fun Dl hD =>
    lc_tup (xs := ns.map V.int) (Evl.Cw H1 (fun i => f (ns.getD i 0)) (fun i => F (ns.getD i 0)) Dl) ⟨hD, Ex.new hD, upd_same⟩ (fun i H' _ p => ex_t ((e.trans e1).trans p.2.1) hx) (fun i x H' hi p => by
      have hl : i < ns.length := by
        have := (List.getElem?_eq_some_iff.mp hi).1
        rw [List.length_map] at this
        exact this
      rw [(getD_at hi).2]
      exact ⟨hw _, Evl.cw_turn p (by omega) (ht _ H1 (e.trans e1) (getD_at hi).1) (fun hf => he _ H1 (e.trans e1) (getD_at hi).1 hf)⟩)
      (fun H' p => by
        have p3 := p.2.2
        rw [List.length_map, given_list] at p3
        exact q Dl H' (fresh_back e1 p.1) (e1.trans p.2.1) p3)⟩
theorem el_tupU {K : PySem.W.Frag} {σ : L2.St} {H : Hp} {ns : List Int} {tl te : TE} {t : TT} {j : Nat} {vs : List Nat} (f : Int → Bool) (F : Int → V) (h : Evl.EvU tl σ H (ns.map V.int)) (hz : ns.length ≤ 40000)
    (hw : ∀ x, wipe ((wipe σ vs).set j (some x)) vs = wipe σ vs) (ht : ∀ n H1, Ex H H1 → n ∈ ns → Evl.EvT t ((wipe σ vs).set j (some (.int n))) H1 (f n))
    (he : ∀ n H1, Ex H H1 → n ∈ ns → f n = true → Evl.Ev te ((wipe σ vs).set j (some (.int n))) H1 (F n)) : Evl.EvL (tLc (iTup K tl) (gName j) t te vs) σ H ((ns.filter f).map F) := fun H0 e Q q => h H0 e _ fun a H1 _ e1 hx =>
  ⟨a, rfl, ⟨_, SqT.of hx⟩, fun Dl hD =>
    lc_tup (xs := ns.map V.int) (Evl.Cw H1 (fun i => f (ns.getD i 0)) (fun i => F (ns.getD i 0)) Dl) ⟨hD, Ex.new hD, upd_same⟩ (fun i H' _ p => SqT.of (p.2.1 _ _ hx)) (fun i x H' hi p => by
      have hl : i < ns.length := by
        have := (List.getElem?_eq_some_iff.mp hi).1
        rw [List.length_map] at this
        exact this
      rw [(getD_at hi).2]
      exact ⟨hw _, Evl.cw_turn p (by omega) (ht _ H1 (e.trans e1) (getD_at hi).1) (fun hf => he _ H1 (e.trans e1) (getD_at hi).1 hf)⟩)
      (fun H' p => by
        have p3 := p.2.2
        rw [List.length_map, given_list] at p3
        exact q Dl H' (fresh_back e1 p.1) (e1.trans p.2.1) p3)⟩
theorem yes_ev {σ : L2.St} {H : Hp} : Evl.EvT tYes σ H true := fun H1 _ _ q => q H1 (Ex.refl H1)
theorem filter_yes (ns : List Int) : ns.filter (fun _ => true) = ns := List.filter_eq_self.mpr fun _ _ => rfl
/-- a loop over enumerate of a list that stays -/
theorem for_enum {K : PySem.W.Frag} {a : Addr} {xs : List V} {g : TG} {tb : TS} {D : Ends} {σ : L2.St} {H : Hp} (Pv : Nat → L2.St → Hp → Prop) (h0 : Pv 0 σ H) (hl : ∀ i σ H, i ≤ xs.length → Pv i σ H → SqL K H a xs)
    (hs : ∀ (i : Nat) (x : V) (T : Addr) (σ : L2.St) (H : Hp), xs[i]? = some x → Pv i σ H → H T = none → g (.ref T) σ (upd H T (.tup [.int (i : Nat), x])) fun σ2 H2 => tb { D with nx := Pv (i + 1), ct := Pv (i + 1), bk := D.nx } σ2 H2) (hd : ∀ σ H, Pv xs.length σ H → D.nx σ H) :
    ∃ W : Nat → Nat → L2.St → Hp → Prop, (∃ m, W 0 m σ H) ∧ ∀ i m σ H, W i m σ H →
      ((Ite K a).stop i H ∧ D.nx σ H) ∨ ((Ite K a).go i H ∧ ∃ N : L2.St → Hp → Prop, (∀ σ' H', N σ' H' → ∃ m', m' < m ∧ W (i + 1) m' σ' H') ∧ ∀ v H', (Ite K a).yld i H v H' → g v σ H' fun σ2 H2 => tb { D with nx := N, ct := N, bk := D.nx } σ2 H2) := by
  refine ⟨fun i m σ H => i + m = xs.length ∧ Pv i σ H, ⟨xs.length, Nat.zero_add _, h0⟩, ?_⟩
  rintro i m σ H ⟨hm, p⟩
  have hq := hl i σ H (by omega) p
  by_cases hi : i < xs.length
  · refine .inr ⟨⟨xs, xs[i], hq, List.getElem?_eq_getElem hi⟩, Pv (i + 1), fun σ' H' p' => ⟨m - 1, by omega, by omega, p'⟩, ?_⟩
    rintro v H' ⟨T, x, rfl, nT, rfl, hx⟩
    exact hs i x T σ H (hx xs hq) p nT
  · have e : i = xs.length := by omega
    rw [e] at p
    exact .inl ⟨⟨xs, hq, by omega⟩, hd σ H p⟩
theorem cut1 (xs : List V) : cutV xs (some 1) none = xs.drop 1 := by
  unfold cutV
  have e1 : HT.sIx xs.length 0 (some 1) = min 1 xs.length := HT.sIx_nat xs.length 0 1
  rw [e1, HT.sIx_none]
  match xs with
  | [] => rfl
  | x :: r =>
    have e2 : min 1 (x :: r).length = 1 := Nat.min_eq_left (by simp)
    rw [e2]
    show List.take (r.length + 1 - 1) r = r
    rw [Nat.add_sub_cancel, List.take_length]
/-- a list of places of a path of length l -/
def Places (l : Int) (ns : List Int) : Prop := ∀ n ∈ ns, 1 ≤ n ∧ n ≤ l
/-- the places at which just these words are answered -/
def lies (l : Int) (st : List Int) (ws : List Wo) : List Int := (rng 1 (l + 1)).filter fun t => decide (wordsOf t st = ws)
/-! ### bags -/
def Bag1 (H : Hp) (b : Addr) : Prop := ∃ (d : Addr) (c : Int) (ds : List Int), H b = some (.lst [.ref d, .int c]) ∧ H d = some (.lst (ds.map V.int)) ∧ ds.length = 400
def Bags (bs : List Addr) (H : Hp) : Prop := ∀ b ∈ bs, Bag1 H b
/-- all that is no bag stays -/
def Kp (bs : List Addr) (H H' : Hp) : Prop := ∀ a o, a ∉ bs → H a = some o → H' a = some o
theorem Kp.refl (bs : List Addr) (H : Hp) : Kp bs H H := fun _ _ _ h => h
theorem Kp.trans {bs : List Addr} {H H1 H2 : Hp} (a : Kp bs H H1) (b : Kp bs H1 H2) : Kp bs H H2 := fun c o n h => b c o n (a c o n h)
theorem Kp.ex {bs : List Addr} {H H' : Hp} (e : Ex H H') : Kp bs H H' := fun a o _ h => e a o h
theorem Bag1.ex {H H' : Hp} {b : Addr} (e : Ex H H') (h : Bag1 H b) : Bag1 H' b := by
  obtain ⟨d, c, ds, h1, h2, h3⟩ := h
  exact ⟨d, c, ds, e _ _ h1, e _ _ h2, h3⟩
theorem Bags.ex {bs : List Addr} {H H' : Hp} (e : Ex H H') (h : Bags bs H) : Bags bs H' := fun b hb => (h b hb).ex e
theorem Bags.fresh {bs : List Addr} {H : Hp} (h : Bags bs H) {p : Addr} (n : H p = none) : p ∉ bs := fun hp => by
  obtain ⟨d, c, ds, h1, _⟩ := h p hp
  rw [n] at h1
  cases h1
/-- an object that is no bag, and no bag's draws, may change -/
theorem Bags.mut {bs : List Addr} {H : Hp} {p : Addr} {o : HO} (h : Bags bs H) (n1 : p ∉ bs) (n2 : ∀ d ds, H d = some (.lst (List.map V.int ds)) → ds.length = 400 → d ≠ p) : Bags bs (upd H p o) := fun b hb => by
  obtain ⟨d, c, ds, h1, h2, h3⟩ := h b hb
  have e1 : b ≠ p := fun e => n1 (e ▸ hb)
  exact ⟨d, c, ds, by rw [upd_ne e1]; exact h1, by rw [upd_ne (n2 d ds h2 h3)]; exact h2, h3⟩
/-- the list of the bags is none of them -/
theorem bags_list {bs : List Addr} {H : Hp} {L : Addr} (hB : Bags bs H) (hL : H L = some (.lst (bs.map V.ref))) : L ∉ bs := fun z => by
  obtain ⟨d, c, ds, h1, _⟩ := hB L z
  rw [hL] at h1
  have e2 := HO.lst.inj (Option.some.inj h1)
  match bs, e2 with
  | [_, _], e2 => simp at e2
theorem ref_at {bs : List Addr} {i : Nat} {x : V} (hx : (bs.map V.ref)[i]? = some x) : ∃ b, b ∈ bs ∧ x = V.ref b := by
  rw [List.getElem?_map] at hx
  cases hg : bs[i]? with
  | none =>
    rw [hg] at hx
    cases hx
  | some b =>
    rw [hg] at hx
    exact ⟨b, List.mem_of_getElem? hg, (Option.some.inj hx).symm⟩
theorem int_at {ns : List Int} {i : Nat} {x : V} (hx : (ns.map V.int)[i]? = some x) : ∃ n, ns[i]? = some n ∧ x = V.int n := by
  rw [List.getElem?_map] at hx
  cases hg : ns[i]? with
  | none =>
    rw [hg] at hx
    cases hx
  | some b =>
    rw [hg] at hx
    exact ⟨b, rfl, (Option.some.inj hx).symm⟩
theorem Kp.mut {bs : List Addr} {H0 H : Hp} {p : Addr} {o : HO} (k : Kp bs H0 H) (n : H0 p = none) : Kp bs H0 (upd H p o) := fun a u na h => by
  rw [upd_ne (ne_of_none h n)]
  exact k a u na h
theorem Kp.new {bs : List Addr} {H0 H : Hp} {p : Addr} {o : HO} (k : Kp bs H0 H) (n : H p = none) : Kp bs H0 (upd H p o) := fun a u na h => by
  rw [upd_ne (ne_of_none (k a u na h) n)]
  exact k a u na h
end Wc
namespace Wc
open PySem PySem.Spec PyProof.Rows L2
open Evl (Ex ex_l ex_t fresh_back)
def sp_is_whole (K : PySem.W.Frag) : Sp := fun vs H Q _ => ∃ i : Int, vs = [.int i] ∧ Q (.bl true) H
abbrev N_is_whole : List Str := ["value"]
def t_is_whole (K : PySem.W.Frag) : TS := (tRet (tAndV (tCB (rIsi K) (tCons (tVar 0) (tCons (tC (.ty "int")) tNil))) (tNotV (tCB (rIsi K) (tCons (tVar 0) (tCons (tC (.ty "bool")) tNil))))))
theorem pure_is_whole {K : PySem.W.Frag} {vs : List V} {H : Hp} {Q : VK} {E : XK} (h : sp_is_whole K vs H Q E) : t_is_whole K { nx := fun _ H' => Q .non H', rt := Q } (start N_is_whole vs) H := by
  obtain ⟨i, rfl, q⟩ := h
  refine ⟨_, rfl, .int i, .ty "int", _, _, true, rfl, .ty "int", .base (.int i), kit_ty (by decide +kernel), true, rfl, iteT ?_⟩
  exact ⟨_, rfl, .int i, .ty "bool", _, _, false, rfl, .ty "bool", .base (.int i), kit_ty (by decide +kernel), false, rfl, q⟩
theorem len_is_whole {K : PySem.W.Frag} {vs : List V} {H : Hp} {Q : VK} {E : XK} (h : sp_is_whole K vs H Q E) : vs.length = 1 := by
  obtain ⟨i, rfl, _⟩ := h
  rfl
def sp_is_place (K : PySem.W.Frag) : Sp := fun vs H Q _ => ∃ v l : Int, vs = [.int v, .int l] ∧ Q (.bl (decide (1 ≤ v ∧ v ≤ l))) H
abbrev N_is_place : List Str := ["value", "length"]
def t_is_place (K : PySem.W.Frag) : TS := (tRet (tAndV (tCall (sp_is_whole K) [] E0 (tCons (tVar 0) tNil)) (tChain (rI0 fun i j => .bl (decide (i ≤ j))) (rI0 fun i j => .bl (decide (i ≤ j))) (tC (.int 1)) (tVar 0) (tVar 1))))
theorem pure_is_place {K : PySem.W.Frag} {vs : List V} {H : Hp} {Q : VK} {E : XK} (h : sp_is_place K vs H Q E) : t_is_place K { nx := fun _ H' => Q .non H', rt := Q } (start N_is_place vs) H := by
  obtain ⟨v, l, rfl, q⟩ := h
  refine ⟨_, rfl, v, rfl, true, rfl, iteT ⟨_, rfl, 1, v, rfl, rfl, decide ((1 : Int) ≤ v), rfl, ?_⟩⟩
  by_cases h1 : (1 : Int) ≤ v
  · rw [decide_eq_true h1]
    refine iteT ⟨_, rfl, v, l, rfl, rfl, ?_⟩
    have e : decide (v ≤ l) = decide (1 ≤ v ∧ v ≤ l) := by simp [h1]
    show Q (.bl (decide (v ≤ l))) H
    rw [e]
    exact q
  · rw [decide_eq_false h1]
    refine iteF ?_
    have e : false = decide (1 ≤ v ∧ v ≤ l) := by simp [h1]
    show Q (.bl false) H
    rw [e]
    exact q
theorem len_is_place {K : PySem.W.Frag} {vs : List V} {H : Hp} {Q : VK} {E : XK} (h : sp_is_place K vs H Q E) : vs.length = 2 := by
  obtain ⟨v, l, rfl, _⟩ := h
  rfl
def sp_is_word (K : PySem.W.Frag) : Sp := fun vs H Q _ => ∃ x : Wo, vs = [vW x] ∧ Q (.bl true) H
abbrev N_is_word : List Str := ["value"]
def t_is_word (K : PySem.W.Frag) : TS := (tRet (tAndV (tCB (rIsi K) (tCons (tVar 0) (tCons (tC (.ty "str")) tNil))) (tOp (rIn K false) (tVar 0) (tC (.ref (He.ga K "WORDS"))))))
theorem pure_is_word {K : PySem.W.Frag} (hW : ∀ H, SqT K H (He.ga K "WORDS") [.str "warm", .str "cold", .str "same"]) {vs : List V} {H : Hp} {Q : VK} {E : XK} (h : sp_is_word K vs H Q E) : t_is_word K { nx := fun _ H' => Q .non H', rt := Q } (start N_is_word vs) H := by
  obtain ⟨x, rfl, q⟩ := h
  refine ⟨_, rfl, vW x, .ty "str", _, _, true, rfl, .ty "str", .base (.str x.str), kit_ty (by decide +kernel), true, rfl, iteT ?_⟩
  refine ⟨_, rfl, _, _, rfl, .inr (hW H), rfl, rfl, ?_⟩
  have e : (if false = true then !inV (vW x) [V.str "warm", V.str "cold", V.str "same"] else inV (vW x) [V.str "warm", V.str "cold", V.str "same"]) = true := by
    cases x <;> decide +kernel
  rw [e]
  exact q
theorem len_is_word {K : PySem.W.Frag} {vs : List V} {H : Hp} {Q : VK} {E : XK} (h : sp_is_word K vs H Q E) : vs.length = 1 := by
  obtain ⟨x, rfl, _⟩ := h
  rfl
def sp_check_length (K : PySem.W.Frag) : Sp := fun vs H Q _ => ∃ l : Int, vs = [.int l] ∧ 1 ≤ l ∧ l ≤ 60 ∧ Q .non H
abbrev N_check_length : List Str := ["length"]
def t_check_length (K : PySem.W.Frag) : TS := (tIfS (tNot (tB (tCall (sp_is_place K) [] E0 (tCons (tVar 0) (tCons (tC (.int 60)) tNil))))) tNever tNext)
theorem pure_check_length {K : PySem.W.Frag} {vs : List V} {H : Hp} {Q : VK} {E : XK} (h : sp_check_length K vs H Q E) : t_check_length K { nx := fun _ H' => Q .non H', rt := Q } (start N_check_length vs) H := by
  obtain ⟨l, rfl, h1, h2, q⟩ := h
  exact ⟨_, rfl, l, 60, rfl, _, rfl, iteNS ⟨h1, h2⟩ q⟩
theorem len_check_length {K : PySem.W.Frag} {vs : List V} {H : Hp} {Q : VK} {E : XK} (h : sp_check_length K vs H Q E) : vs.length = 1 := by
  obtain ⟨l, rfl, _⟩ := h
  rfl
def sp_check_place (K : PySem.W.Frag) : Sp := fun vs H Q _ => ∃ p l : Int, vs = [.int p, .int l] ∧ 1 ≤ p ∧ p ≤ l ∧ Q .non H
abbrev N_check_place : List Str := ["place", "length"]
def t_check_place (K : PySem.W.Frag) : TS := (tIfS (tNot (tB (tCall (sp_is_place K) [] E0 (tCons (tVar 0) (tCons (tVar 1) tNil))))) tNever tNext)
theorem pure_check_place {K : PySem.W.Frag} {vs : List V} {H : Hp} {Q : VK} {E : XK} (h : sp_check_place K vs H Q E) : t_check_place K { nx := fun _ H' => Q .non H', rt := Q } (start N_check_place vs) H := by
  obtain ⟨p, l, rfl, h1, h2, q⟩ := h
  exact ⟨_, rfl, _, rfl, p, l, rfl, _, rfl, iteNS ⟨h1, h2⟩ q⟩
theorem len_check_place {K : PySem.W.Frag} {vs : List V} {H : Hp} {Q : VK} {E : XK} (h : sp_check_place K vs H Q E) : vs.length = 2 := by
  obtain ⟨p, l, rfl, _⟩ := h
  rfl
def sp_check_stands (K : PySem.W.Frag) : Sp := fun vs H Q _ => ∃ (a : Addr) (ns : List Int) (l : Int), vs = [.ref a, .int l] ∧ H a = some (.lst (ns.map V.int)) ∧ ns.length ≤ 40 ∧ Places l ns ∧ ∀ H', Ex H H' → Q .non H'
abbrev N_check_stands : List Str := ["stands", "length", "stand"]
def t_check_stands (K : PySem.W.Frag) : TS := (tSeq (tIfS (tOr (tNot (tB (tCB (rIsi K) (tCons (tVar 0) (tCons (tC (.ty "list")) tNil))))) (tTest (tOp (rI0 fun i j => .bl (decide (j < i))) (tCB (rLenQ K) (tCons (tVar 0) tNil)) (tC (.int 40))))) tNever tNext)
  (tIfS (tNot (tB (tCB (rAll K) (tCons (tLc (iList K (tVar 0)) (gName 2) tYes (tCall (sp_is_place K) [] E0 (tCons (tVar 2) (tCons (tVar 1) tNil))) [2]) tNil)))) tNever tNext))
theorem pure_check_stands {K : PySem.W.Frag} {vs : List V} {H : Hp} {Q : VK} {E : XK} (h : sp_check_stands K vs H Q E) : t_check_stands K { nx := fun _ H' => Q .non H', rt := Q } (start N_check_stands vs) H := by
  obtain ⟨a, ns, l, rfl, ha, hl, hp, q⟩ := h
  refine ⟨_, rfl, .ref a, .ty "list", _, _, true, rfl, .ty "list", .base (.lst ha), kit_ty (by decide +kernel), true, rfl, iteF ?_⟩
  refine ⟨_, rfl, a, _, rfl, .inl (SqL.of ha), _, _, rfl, rfl, _, rfl, ite2 (fun e => ?_) (fun _ => ?_)⟩
  · have e2 := of_decide_eq_true e
    rw [List.length_map] at e2
    omega
  · have hc : Evl.EvL (tLc (iList K (tVar 0)) (gName 2) tYes (tCall (sp_is_place K) [] E0 (tCons (tVar 2) (tCons (tVar 1) tNil))) [2]) (start N_check_stands [.ref a, .int l]) H (ns.map fun n => V.bl (decide (1 ≤ n ∧ n ≤ l))) :=
      el_map (K := K) (a := a) (fun n => V.bl (decide (1 ≤ n ∧ n ≤ l))) (Evl.ev_var rfl) (SqL.of ha) (by omega) (fun _ => rfl) fun n H1 _ _ => fun H2 _ Q2 q2 => ⟨_, rfl, _, rfl, n, l, rfl, q2 H2 (Ex.refl H2)⟩
    dsimp only [tNext, tIfS, tNot, tB, tCB, tCons]
    refine hc H (Ex.refl H) _ fun p H2 _ e2 h2 => ?_
    refine ⟨p, ns.map fun n => decide (1 ≤ n ∧ n ≤ l), rfl, .inl (.inl ?_), _, rfl, ?_⟩
    · rw [h2, List.map_map]
      rfl
    · have ea : ((ns.map fun n => decide (1 ≤ n ∧ n ≤ l)).all id) = true := by
        rw [List.all_map, List.all_eq_true]
        intro n hn
        exact decide_eq_true (hp n hn)
      rw [ea]
      exact iteF (q H2 e2)
theorem len_check_stands {K : PySem.W.Frag} {vs : List V} {H : Hp} {Q : VK} {E : XK} (h : sp_check_stands K vs H Q E) : vs.length = 2 := by
  obtain ⟨a, ns, l, rfl, _⟩ := h
  rfl
def sp_check_answers (K : PySem.W.Frag) : Sp := fun vs H Q _ => ∃ (a s : Addr) (ws : List Wo) (st : List Int), vs = [.ref a, .ref s] ∧ H a = some (.lst (ws.map vW)) ∧ SqL K H s (st.map V.int) ∧ ws.length = st.length - 1 ∧ st.length ≤ 1000 ∧ ∀ H', Ex H H' → Q .non H'
abbrev N_check_answers : List Str := ["answers", "stands", "wanted", "answer"]
def t_check_answers (K : PySem.W.Frag) : TS := (tSeq (tAsg (tCB rMax2 (tCons (tC (.int 0)) (tCons (tOp (rI0 fun i j => .int (i - j)) (tCB (rLenQ K) (tCons (tVar 1) tNil)) (tC (.int 1))) tNil))) (gName 2))
  (tSeq (tIfS (tOr (tNot (tB (tCB (rIsi K) (tCons (tVar 0) (tCons (tC (.ty "list")) tNil))))) (tTest (tOp rNe (tCB (rLenQ K) (tCons (tVar 0) tNil)) (tVar 2)))) tNever tNext)
  (tIfS (tNot (tB (tCB (rAll K) (tCons (tLc (iList K (tVar 0)) (gName 3) tYes (tCall (sp_is_word K) [] E0 (tCons (tVar 3) tNil)) [3]) tNil)))) tNever tNext)))
theorem pure_check_answers {K : PySem.W.Frag} {vs : List V} {H : Hp} {Q : VK} {E : XK} (h : sp_check_answers K vs H Q E) : t_check_answers K { nx := fun _ H' => Q .non H', rt := Q } (start N_check_answers vs) H := by
  obtain ⟨a, s, ws, st, rfl, ha, hs, hl, hl2, q⟩ := h
  refine ⟨_, rfl, s, _, rfl, .inl hs, _, _, rfl, rfl, _, _, rfl, ?_⟩
  refine ⟨_, rfl, .ref a, .ty "list", _, _, true, rfl, .ty "list", .base (.lst ha), kit_ty (by decide +kernel), true, rfl, iteF ?_⟩
  refine ⟨_, rfl, a, _, rfl, .inl (SqL.of ha), _, rfl, rfl, _, rfl, ?_⟩
  have en : ((ws.map vW).length : Int) = (if ((st.map V.int).length : Int) - 1 > 0 then ((st.map V.int).length : Int) - 1 else 0) := by
    rw [List.length_map, List.length_map, hl]
    split <;> omega
  refine iteNS (congrArg V.int en) ?_
  have hc : Evl.EvL (tLc (iList K (tVar 0)) (gName 3) tYes (tCall (sp_is_word K) [] E0 (tCons (tVar 3) tNil)) [3]) [some (.ref a), some (.ref s), some (.int (if ((st.map V.int).length : Int) - 1 > 0 then ((st.map V.int).length : Int) - 1 else 0)), none] H (ws.map fun _ => V.bl true) :=
    el_mapG .warm vW (K := K) (a := a) (fun _ => V.bl true) (Evl.ev_var rfl) (SqL.of ha) (by omega) (fun _ => rfl) fun n H1 _ _ => fun H2 _ Q2 q2 => ⟨_, rfl, n, rfl, q2 H2 (Ex.refl H2)⟩
  dsimp only [tNext, tIfS, tNot, tB, tCB, tCons]
  refine hc H (Ex.refl H) _ fun p H2 _ e2 h2 => ?_
  refine ⟨p, ws.map fun _ => true, rfl, .inl (.inl ?_), _, rfl, ?_⟩
  · rw [h2, List.map_map]
    rfl
  · have ea : ((ws.map fun _ => true).all id) = true := by
      rw [List.all_map, List.all_eq_true]
      intro n hn
      rfl
    rw [ea]
    exact iteF (q H2 e2)
theorem len_check_answers {K : PySem.W.Frag} {vs : List V} {H : Hp} {Q : VK} {E : XK} (h : sp_check_answers K vs H Q E) : vs.length = 2 := by
  obtain ⟨a, s, ws, st, rfl, _⟩ := h
  rfl
def sp_word_for (K : PySem.W.Frag) : Sp := fun vs H Q _ => ∃ b a : Int, vs = [.int b, .int a] ∧ Q (vW (word b a)) H
abbrev N_word_for : List Str := ["before", "after"]
def t_word_for (K : PySem.W.Frag) : TS := (tSeq (tIfS (tTest (tOp (rI0 fun i j => .bl (decide (i < j))) (tVar 1) (tVar 0))) (tRet (tC (.str (Str.ofString "warm")))) tNext)
  (tSeq (tIfS (tTest (tOp (rI0 fun i j => .bl (decide (j < i))) (tVar 1) (tVar 0))) (tRet (tC (.str (Str.ofString "cold")))) tNext)
  (tRet (tC (.str (Str.ofString "same"))))))
theorem pure_word_for {K : PySem.W.Frag} {vs : List V} {H : Hp} {Q : VK} {E : XK} (h : sp_word_for K vs H Q E) : t_word_for K { nx := fun _ H' => Q .non H', rt := Q } (start N_word_for vs) H := by
  obtain ⟨b, a, rfl, q⟩ := h
  refine ⟨_, rfl, _, rfl, a, b, rfl, rfl, _, rfl, ite2 (fun h1 => ?_) (fun h1 => ?_)⟩
  · have e1 : word b a = .warm := if_pos (of_decide_eq_true h1)
    rw [e1] at q
    exact q
  · have n1 : ¬ a < b := fun z => h1 (decide_eq_true z)
    refine ⟨_, rfl, _, rfl, a, b, rfl, rfl, _, rfl, ite2 (fun h2 => ?_) (fun h2 => ?_)⟩
    · have e2 : word b a = .cold := (if_neg n1).trans (if_pos (of_decide_eq_true h2))
      rw [e2] at q
      exact q
    · have n2 : ¬ b < a := fun z => h2 (decide_eq_true z)
      have e3 : word b a = .same := (if_neg n1).trans (if_neg n2)
      rw [e3] at q
      exact q
theorem len_word_for {K : PySem.W.Frag} {vs : List V} {H : Hp} {Q : VK} {E : XK} (h : sp_word_for K vs H Q E) : vs.length = 2 := by
  obtain ⟨b, a, rfl, _⟩ := h
  rfl
def sp_answer_to_move (K : PySem.W.Frag) : Sp := fun vs H Q _ => ∃ t e l : Int, vs = [.int t, .int e, .int l] ∧ Q (vW (mv t e l)) H
abbrev N_answer_to_move : List Str := ["thing", "earlier", "later"]
def t_answer_to_move (K : PySem.W.Frag) : TS := (tRet (tCall (sp_word_for K) [] E0 (tCons (tCB rAbs (tCons (tOp (rI0 fun i j => .int (i - j)) (tVar 0) (tVar 1)) tNil)) (tCons (tCB rAbs (tCons (tOp (rI0 fun i j => .int (i - j)) (tVar 0) (tVar 2)) tNil)) tNil))))
theorem pure_answer_to_move {K : PySem.W.Frag} {vs : List V} {H : Hp} {Q : VK} {E : XK} (h : sp_answer_to_move K vs H Q E) : t_answer_to_move K { nx := fun _ H' => Q .non H', rt := Q } (start N_answer_to_move vs) H := by
  obtain ⟨t, e, l, rfl, q⟩ := h
  exact ⟨_, rfl, _, rfl, t, e, rfl, rfl, _, rfl, _, rfl, _, rfl, t, l, rfl, rfl, _, rfl, ab (t - e), ab (t - l), rfl, q⟩
theorem len_answer_to_move {K : PySem.W.Frag} {vs : List V} {H : Hp} {Q : VK} {E : XK} (h : sp_answer_to_move K vs H Q E) : vs.length = 3 := by
  obtain ⟨t, e, l, rfl, _⟩ := h
  rfl
def sp_row_of_answers (K : PySem.W.Frag) : Sp := fun vs H Q _ => ∃ (t : Int) (a : Addr) (ns : List Int), vs = [.int t, .ref a] ∧ SqL K H a (ns.map V.int) ∧ ns.length ≤ 1000 ∧ ∀ p H', H p = none → Ex H H' → H' p = some (.lst ((wordsOf t ns).map vW)) → Q (.ref p) H'
abbrev N_row_of_answers : List Str := ["thing", "stands", "earlier", "later"]
def t_row_of_answers (K : PySem.W.Frag) : TS := (tRet (tLc (iZip K (tCons (tVar 1) (tCons (tSl (rSlL K) (tVar 1) (tPart (tC (.int 1))) tNoPart) tNil))) (gTup K 2 (gCons (gName 2) (gCons (gName 3) gNil))) tYes (tCall (sp_answer_to_move K) [] E0 (tCons (tVar 0) (tCons (tVar 2) (tCons (tVar 3) tNil)))) [2, 3]))
theorem pure_row_of_answers {K : PySem.W.Frag} {vs : List V} {H : Hp} {Q : VK} {E : XK} (h : sp_row_of_answers K vs H Q E) : t_row_of_answers K { nx := fun _ H' => Q .non H', rt := Q } (start N_row_of_answers vs) H := by
  obtain ⟨t, a, ns, rfl, hS, hlen, q⟩ := h
  refine ⟨.ref a, rfl, .ref a, rfl, 1, rfl, a, ns.map V.int, rfl, hS, fun c nc => ?_⟩
  have s1 : Ex H (upd H c (.lst (cutV (ns.map V.int) (some 1) none))) := Ex.new nc
  refine ⟨a, c, ns.map V.int, _, rfl, ex_l s1 hS, .inl (.inl upd_same), fun D hD => ?_⟩
  have hD0 : H D = none := fresh_back s1 hD
  have s2 : Ex (upd H c (.lst (cutV (ns.map V.int) (some 1) none))) (upd (upd H c (.lst (cutV (ns.map V.int) (some 1) none))) D (.lst [])) := Ex.new hD
  have ncD : c ≠ D := fun e => by
    rw [← e, upd_same] at hD
    cases hD
  refine ⟨fun i m H3 => i + m = ns.length - 1 ∧ Ex H H3 ∧ H3 c = some (.lst ((ns.drop 1).map V.int)) ∧ H3 D = some (.lst (((wordsOf t ns).take i).map vW)),
    ⟨ns.length - 1, by omega, s1.trans s2, ?_, ?_⟩, fun i m H3 hW => ?_⟩
  · rw [upd_ne ncD, upd_same, cut1, List.map_drop]
  · rw [upd_same]
    rfl
  · obtain ⟨em, sm, ec, eo⟩ := hW
    have hA : SqL K H3 a (ns.map V.int) := ex_l sm hS
    have hC : SqL K H3 c ((ns.drop 1).map V.int) := .inl (.inl ec)
    by_cases hi : i < ns.length - 1
    · have h1 : i < ns.length := by omega
      have h2 : i + 1 < ns.length := by omega
      have g1 : (ns.map V.int)[i]? = some (.int ns[i]) := by
        rw [List.getElem?_map, List.getElem?_eq_getElem h1]
        rfl
      have g2 : ((ns.drop 1).map V.int)[i]? = some (.int ns[i + 1]) := by
        rw [List.getElem?_map, List.getElem?_drop, Nat.add_comm 1 i, List.getElem?_eq_getElem h2]
        rfl
      have gd : (wordsOf t ns)[i]? = some (mv t ns[i] ns[i + 1]) := wordsOf_get t ns i _ _ (List.getElem?_eq_getElem h1) (List.getElem?_eq_getElem h2)
      refine .inr ⟨⟨_, _, _, _, hA, hC, g1, g2⟩, fun H' => Ex H H' ∧ H' c = some (.lst ((ns.drop 1).map V.int)) ∧ H' D = some (.lst (((wordsOf t ns).take (i + 1)).map vW)), fun H' hN => ?_, fun x H' hy => ?_⟩
      · obtain ⟨sm', ec', eo'⟩ := hN
        exact ⟨m - 1, by omega, by omega, sm', ec', eo'⟩
      · obtain ⟨T, x1, x2, rfl, nT, rfl, f1, f2⟩ := hy
        have ex1 : x1 = .int ns[i] := Option.some.inj ((f1 _ hA).symm.trans g1)
        have ex2 : x2 = .int ns[i + 1] := Option.some.inj ((f2 _ hC).symm.trans g2)
        subst ex1 ex2
        have nTo : D ≠ T := ne_of_none eo nT
        have nTc : c ≠ T := ne_of_none ec nT
        have smT : Ex H3 (upd H3 T (.tup [.int ns[i], .int ns[i + 1]])) := Ex.new nT
        refine ⟨T, [.int ns[i], .int ns[i + 1]], rfl, .inl (.inl upd_same), rfl, _, [.int ns[i + 1]], rfl, _, [], rfl, rfl, rfl, ?_⟩
        dsimp only [tYes]
        rw [if_pos rfl]
        refine ⟨_, rfl, _, rfl, _, rfl, t, ns[i], ns[i + 1], rfl, ?_⟩
        have eoT : (upd H3 T (.tup [.int ns[i], .int ns[i + 1]])) D = some (.lst (((wordsOf t ns).take i).map vW)) := smT _ _ eo
        refine ⟨_, eoT, ?_, (sm.trans smT).mut hD0, ?_, ?_⟩
        · rw [List.length_map, List.length_take]
          exact Nat.lt_of_le_of_lt (Nat.min_le_left _ _) (small1000 (by omega))
        · rw [upd_ne ncD]
          exact smT _ _ ec
        · rw [upd_same, List.take_add_one, gd, List.map_append]
          rfl
    · refine .inl ⟨⟨_, _, hA, hC, .inr ?_⟩, ?_⟩
      · rw [List.length_map, List.length_drop]
        omega
      · have ei : (wordsOf t ns).take i = wordsOf t ns := List.take_of_length_le (by
          rw [wordsOf_len]
          omega)
        rw [ei] at eo
        exact q D H3 hD0 sm eo
theorem len_row_of_answers {K : PySem.W.Frag} {vs : List V} {H : Hp} {Q : VK} {E : XK} (h : sp_row_of_answers K vs H Q E) : vs.length = 2 := by
  obtain ⟨t, a, ns, rfl, _⟩ := h
  rfl
def sp_answers_to (K : PySem.W.Frag) : Sp := fun vs H Q _ => ∃ (l t : Int) (a : Addr) (ns : List Int), vs = [.int l, .int t, .ref a] ∧ 1 ≤ t ∧ t ≤ l ∧ l ≤ 60 ∧ H a = some (.lst (ns.map V.int)) ∧ ns.length ≤ 40 ∧ Places l ns ∧ ∀ p H', H p = none → Ex H H' → H' p = some (.lst ((wordsOf t ns).map vW)) → Q (.ref p) H'
abbrev N_answers_to : List Str := ["length", "thing", "stands"]
def t_answers_to (K : PySem.W.Frag) : TS := (tSeq (tDrop (tCall (sp_check_length K) [] E0 (tCons (tVar 0) tNil)))
  (tSeq (tDrop (tCall (sp_check_place K) [] E0 (tCons (tVar 1) (tCons (tVar 0) tNil))))
  (tSeq (tDrop (tCall (sp_check_stands K) [] E0 (tCons (tVar 2) (tCons (tVar 0) tNil))))
  (tRet (tCall (sp_row_of_answers K) [] E0 (tCons (tVar 1) (tCons (tVar 2) tNil)))))))
theorem pure_answers_to {K : PySem.W.Frag} {vs : List V} {H : Hp} {Q : VK} {E : XK} (h : sp_answers_to K vs H Q E) : t_answers_to K { nx := fun _ H' => Q .non H', rt := Q } (start N_answers_to vs) H := by
  obtain ⟨l, t, a, ns, rfl, h1, h2, h3, ha, hl, hp, q⟩ := h
  refine ⟨_, rfl, l, rfl, by omega, h3, ?_⟩
  refine ⟨_, rfl, _, rfl, t, l, rfl, h1, h2, ?_⟩
  refine ⟨_, rfl, _, rfl, a, ns, l, rfl, ha, hl, hp, fun H1 e1 => ?_⟩
  exact ⟨_, rfl, _, rfl, t, a, ns, rfl, .inl (.inl (e1 _ _ ha)), by omega, fun p H2 hn e2 h2 => q p H2 (fresh_back e1 hn) (e1.trans e2) h2⟩
theorem len_answers_to {K : PySem.W.Frag} {vs : List V} {H : Hp} {Q : VK} {E : XK} (h : sp_answers_to K vs H Q E) : vs.length = 3 := by
  obtain ⟨l, t, a, ns, rfl, _⟩ := h
  rfl
def sp_can_lie (K : PySem.W.Frag) : Sp := fun vs H Q _ => ∃ (l : Int) (s a : Addr) (st : List Int) (ws : List Wo), vs = [.int l, .ref s, .ref a] ∧ 1 ≤ l ∧ l ≤ 60 ∧ H s = some (.lst (st.map V.int)) ∧ st.length ≤ 40 ∧ Places l st ∧ H a = some (.lst (ws.map vW)) ∧ ws.length = st.length - 1 ∧
  ∀ p H', H p = none → Ex H H' → H' p = some (.tup ((lies l st ws).map V.int)) → Q (.ref p) H'
abbrev N_can_lie : List Str := ["length", "stands", "answers", "place"]
def t_can_lie (K : PySem.W.Frag) : TS := (tSeq (tDrop (tCall (sp_check_length K) [] E0 (tCons (tVar 0) tNil)))
  (tSeq (tDrop (tCall (sp_check_stands K) [] E0 (tCons (tVar 1) (tCons (tVar 0) tNil))))
  (tSeq (tDrop (tCall (sp_check_answers K) [] E0 (tCons (tVar 2) (tCons (tVar 1) tNil))))
  (tRet (tCB (rTupleOf K) (tCons (tLc (iRng2 (tCons (tC (.int 1)) (tCons (tOp (rI0 fun i j => .int (i + j)) (tVar 0) (tC (.int 1))) tNil))) (gName 3) (tTest (tOp (rEqD K) (tCall (sp_row_of_answers K) [] E0 (tCons (tVar 3) (tCons (tVar 1) tNil))) (tVar 2))) (tVar 3) [3]) tNil))))))
theorem pure_can_lie {K : PySem.W.Frag} {vs : List V} {H : Hp} {Q : VK} {E : XK} (h : sp_can_lie K vs H Q E) : t_can_lie K { nx := fun _ H' => Q .non H', rt := Q } (start N_can_lie vs) H := by
  obtain ⟨l, s, a, st, ws, rfl, h1, h2, hs, hl, hp, ha, hw, q⟩ := h
  refine ⟨_, rfl, l, rfl, h1, h2, ?_⟩
  refine ⟨_, rfl, _, rfl, s, st, l, rfl, hs, hl, hp, fun H1 e1 => ?_⟩
  refine ⟨_, rfl, _, rfl, a, s, ws, st, rfl, e1 _ _ ha, SqL.of (e1 _ _ hs), hw, by omega, fun H2 e2 => ?_⟩
  have hs2 := e2 _ _ (e1 _ _ hs)
  have ha2 := e2 _ _ (e1 _ _ ha)
  have hc : Evl.EvL (tLc (iRng2 (tCons (tC (.int 1)) (tCons (tOp (rI0 fun i j => .int (i + j)) (tVar 0) (tC (.int 1))) tNil))) (gName 3) (tTest (tOp (rEqD K) (tCall (sp_row_of_answers K) [] E0 (tCons (tVar 3) (tCons (tVar 1) tNil))) (tVar 2))) (tVar 3) [3]) (start N_can_lie [.int l, .ref s, .ref a]) H2 (((rng 1 (l + 1)).filter fun t => decide (wordsOf t st = ws)).map V.int) := by
    refine el_rng (fun t => decide (wordsOf t st = ws)) V.int (Evl.ea_cons Evl.ev_c (Evl.ea_cons (Evl.ev_op (Evl.ev_var rfl) Evl.ev_c Evl.rv_I0) Evl.ea_nil)) (by omega) (fun _ => rfl) (fun n H3 e3 _ _ => ?_) (fun n H3 e3 _ _ _ => Evl.ev_var rfl)
    intro H4 e4 Q4 q4
    refine ⟨_, rfl, _, rfl, n, s, st, rfl, SqL.of ((e3.trans e4) _ _ hs2), by omega, fun p H5 np e5 hp5 => ?_⟩
    refine ⟨_, rfl, ?_⟩
    exact eqWW (SqL.of hp5) (SqL.of (((e3.trans e4).trans e5) _ _ ha2)) ⟨_, rfl, q4 H5 e5⟩
  dsimp only [tRet, tCB, tCons]
  refine hc H2 (Ex.refl H2) _ fun p H3 np e3 h3 => ?_
  refine ⟨p, _, rfl, .inl ⟨SqL.of h3, fun u nu => ?_⟩⟩
  exact q u _ (fresh_back ((e1.trans e2).trans e3) nu) (((e1.trans e2).trans e3).trans (Ex.new nu)) upd_same
theorem len_can_lie {K : PySem.W.Frag} {vs : List V} {H : Hp} {Q : VK} {E : XK} (h : sp_can_lie K vs H Q E) : vs.length = 3 := by
  obtain ⟨l, s, a, st, ws, rfl, _⟩ := h
  rfl
/-! ### comprehensions over zip and enumerate of lists that stay -/
theorem lc_zip {K : PySem.W.Frag} {a b : Addr} {xs ys : List V} {g : TG} {tt : TT} {te : TE} {vs : List Nat} {σ : L2.St} {H1 : Hp} {D : Addr} {Qd : Hp → Prop} (hl : xs.length = ys.length) (Pv : Nat → Hp → Prop) (h0 : Pv 0 (upd H1 D (.lst [])))
    (hq : ∀ i H, Pv i H → SqL K H a xs ∧ SqL K H b ys)
    (hs : ∀ (i : Nat) (x y : V) (T : Addr) (H : Hp), xs[i]? = some x → ys[i]? = some y → Pv i H → H T = none → g (.ref T) (wipe σ vs) (upd H T (.tup [x, y])) fun σ2 H2 => wipe σ2 vs = wipe σ vs ∧ tt σ2 H2 fun c H3 =>
      if c = true then te σ2 H3 fun v H4 => ∃ acc, H4 D = some (.lst acc) ∧ acc.length < sizeLine ∧ Pv (i + 1) (upd H4 D (.lst (acc ++ [v]))) else Pv (i + 1) H3) (hd : ∀ H, Pv xs.length H → Qd H) :
    ∃ W : Nat → Nat → Hp → Prop, (∃ m, W 0 m (upd H1 D (.lst []))) ∧ ∀ i m H, W i m H →
      ((Itz K a b).stop i H ∧ Qd H) ∨ ((Itz K a b).go i H ∧ ∃ Nx : Hp → Prop, (∀ H', Nx H' → ∃ m', m' < m ∧ W (i + 1) m' H') ∧ ∀ x H', (Itz K a b).yld i H x H' → g x (wipe σ vs) H' fun σ2 H2 => wipe σ2 vs = wipe σ vs ∧ tt σ2 H2 fun c H3 =>
        if c = true then te σ2 H3 fun v H4 => ∃ acc, H4 D = some (.lst acc) ∧ acc.length < sizeLine ∧ Nx (upd H4 D (.lst (acc ++ [v]))) else Nx H3) := by
  refine ⟨fun i m H => i + m = xs.length ∧ Pv i H, ⟨xs.length, Nat.zero_add _, h0⟩, ?_⟩
  rintro i m H ⟨hm, p⟩
  obtain ⟨qx, qy⟩ := hq i H p
  by_cases hi : i < xs.length
  · have hi2 : i < ys.length := by omega
    refine .inr ⟨⟨xs, ys, _, _, qx, qy, List.getElem?_eq_getElem hi, List.getElem?_eq_getElem hi2⟩, Pv (i + 1), fun H' p' => ⟨m - 1, by omega, by omega, p'⟩, ?_⟩
    rintro v H' ⟨T, x, y, rfl, nT, rfl, f1, f2⟩
    exact hs i x y T H (f1 xs qx) (f2 ys qy) p nT
  · have e : i = xs.length := by omega
    rw [e] at p
    exact .inl ⟨⟨xs, ys, qx, qy, .inl (by omega)⟩, hd H p⟩
theorem lc_enum {K : PySem.W.Frag} {a : Addr} {xs : List V} {g : TG} {tt : TT} {te : TE} {vs : List Nat} {σ : L2.St} {H1 : Hp} {D : Addr} {Qd : Hp → Prop} (Pv : Nat → Hp → Prop) (h0 : Pv 0 (upd H1 D (.lst []))) (hq : ∀ i H, Pv i H → SqL K H a xs)
    (hs : ∀ (i : Nat) (x : V) (T : Addr) (H : Hp), xs[i]? = some x → Pv i H → H T = none → g (.ref T) (wipe σ vs) (upd H T (.tup [.int (i : Nat), x])) fun σ2 H2 => wipe σ2 vs = wipe σ vs ∧ tt σ2 H2 fun c H3 =>
      if c = true then te σ2 H3 fun v H4 => ∃ acc, H4 D = some (.lst acc) ∧ acc.length < sizeLine ∧ Pv (i + 1) (upd H4 D (.lst (acc ++ [v]))) else Pv (i + 1) H3) (hd : ∀ H, Pv xs.length H → Qd H) :
    ∃ W : Nat → Nat → Hp → Prop, (∃ m, W 0 m (upd H1 D (.lst []))) ∧ ∀ i m H, W i m H →
      ((Ite K a).stop i H ∧ Qd H) ∨ ((Ite K a).go i H ∧ ∃ Nx : Hp → Prop, (∀ H', Nx H' → ∃ m', m' < m ∧ W (i + 1) m' H') ∧ ∀ x H', (Ite K a).yld i H x H' → g x (wipe σ vs) H' fun σ2 H2 => wipe σ2 vs = wipe σ vs ∧ tt σ2 H2 fun c H3 =>
        if c = true then te σ2 H3 fun v H4 => ∃ acc, H4 D = some (.lst acc) ∧ acc.length < sizeLine ∧ Nx (upd H4 D (.lst (acc ++ [v]))) else Nx H3) := by
  refine ⟨fun i m H => i + m = xs.length ∧ Pv i H, ⟨xs.length, Nat.zero_add _, h0⟩, ?_⟩
  rintro i m H ⟨hm, p⟩
  have qx := hq i H p
  by_cases hi : i < xs.length
  · refine .inr ⟨⟨xs, _, qx, List.getElem?_eq_getElem hi⟩, Pv (i + 1), fun H' p' => ⟨m - 1, by omega, by omega, p'⟩, ?_⟩
    rintro v H' ⟨T, x, rfl, nT, rfl, f1⟩
    exact hs i x T H (f1 xs qx) p nT
  · have e : i = xs.length := by omega
    rw [e] at p
    exact .inl ⟨⟨xs, qx, by omega⟩, hd H p⟩
/-! ### wrong answers -/
/-- how many of two rows of words are unlike -/
def diffs (xs ys : List Wo) : Nat := ((xs.zip ys).filter fun p => decide (p.1 ≠ p.2)).length
def wr (st : List Int) (ws : List Wo) (t : Int) : Int := (diffs (wordsOf t st) ws : Nat)
/-- m is the least number of wrong answers of all places -/
def Least (l : Int) (st : List Int) (ws : List Wo) (m : Int) : Prop := (∃ t, (1 ≤ t ∧ t ≤ l) ∧ wr st ws t = m) ∧ ∀ t, 1 ≤ t → t ≤ l → m ≤ wr st ws t
def wplaces (l : Int) (st : List Int) (ws : List Wo) (m : Int) : List Int := (rng 1 (l + 1)).filter fun t => decide (wr st ws t = m)
theorem Least.inj {l : Int} {st : List Int} {ws : List Wo} {m m' : Int} (h : Least l st ws m) (h' : Least l st ws m') : m = m' := by
  obtain ⟨⟨t, ⟨a1, a2⟩, a3⟩, a4⟩ := h
  obtain ⟨⟨u, ⟨b1, b2⟩, b3⟩, b4⟩ := h'
  have := a4 u b1 b2
  have := b4 t a1 a2
  omega
theorem diffs_take (xs ys : List Wo) (i : Nat) (x y : Wo) (hx : xs[i]? = some x) (hy : ys[i]? = some y) :
    ((xs.zip ys).take (i + 1)).filter (fun p => decide (p.1 ≠ p.2)) = ((xs.zip ys).take i).filter (fun p => decide (p.1 ≠ p.2)) ++ (if x = y then [] else [(x, y)]) := by
  have hz : (xs.zip ys)[i]? = some (x, y) := by
    rw [List.getElem?_zip_eq_some]
    exact ⟨hx, hy⟩
  rw [List.take_add_one, hz, List.filter_append]
  congr 1
  by_cases h : x = y
  · rw [if_pos h]
    simp [h]
  · rw [if_neg h]
    simp [h]
/-- [1 for one, other in zip(xs, ys) if one != other] -/
theorem lc_diffs {K : PySem.W.Frag} {σ : L2.St} {H1 : Hp} {i j : Nat} {a b D : Addr} {xs ys : List Wo} {Qd : Hp → Prop} (hlen : xs.length = ys.length) (hsz : xs.length ≤ 900) (hij : i ≠ j) (hi : i < σ.length) (hj : j < σ.length)
    (hw : ∀ x y, wipe (((wipe σ [i, j]).set i (some x)).set j (some y)) [i, j] = wipe σ [i, j]) (ha : SqL K H1 a (xs.map vW)) (hb : SqL K H1 b (ys.map vW)) (hD : H1 D = none)
    (hd : ∀ H2, Ex H1 H2 → H2 D = some (.lst (List.replicate (diffs xs ys) (V.int 1))) → Qd H2) :
    ∃ W : Nat → Nat → Hp → Prop, (∃ m, W 0 m (upd H1 D (.lst []))) ∧ ∀ k m H, W k m H →
      ((Itz K a b).stop k H ∧ Qd H) ∨ ((Itz K a b).go k H ∧ ∃ Nx : Hp → Prop, (∀ H', Nx H' → ∃ m', m' < m ∧ W (k + 1) m' H') ∧ ∀ x H', (Itz K a b).yld k H x H' → gTup K 2 (gCons (gName i) (gCons (gName j) gNil)) x (wipe σ [i, j]) H' fun σ2 H2 => wipe σ2 [i, j] = wipe σ [i, j] ∧ tTest (tOp rNe (tVar i) (tVar j)) σ2 H2 fun c H3 =>
        if c = true then tC (.int 1) σ2 H3 fun v H4 => ∃ acc, H4 D = some (.lst acc) ∧ acc.length < sizeLine ∧ Nx (upd H4 D (.lst (acc ++ [v]))) else Nx H3) := by
  refine lc_zip (K := K) (xs := xs.map vW) (ys := ys.map vW) (by rw [List.length_map, List.length_map, hlen]) (fun k H2 => Ex H1 H2 ∧ H2 D = some (.lst (List.replicate (((xs.zip ys).take k).filter fun p => decide (p.1 ≠ p.2)).length (V.int 1))))
    ⟨Ex.new hD, upd_same⟩ (fun k H2 p => ⟨ex_l p.1 ha, ex_l p.1 hb⟩) (fun k x y T H2 hx hy p nT => ?_) (fun H2 p => ?_)
  · obtain ⟨e2, hdd⟩ := p
    obtain ⟨x', hx', rfl⟩ : ∃ w, xs[k]? = some w ∧ x = vW w := by
      rw [List.getElem?_map] at hx
      cases hg : xs[k]? with
      | none => rw [hg] at hx; cases hx
      | some w =>
        rw [hg] at hx
        exact ⟨w, rfl, (Option.some.inj hx).symm⟩
    obtain ⟨y', hy', rfl⟩ : ∃ w, ys[k]? = some w ∧ y = vW w := by
      rw [List.getElem?_map] at hy
      cases hg : ys[k]? with
      | none => rw [hg] at hy; cases hy
      | some w =>
        rw [hg] at hy
        exact ⟨w, rfl, (Option.some.inj hy).symm⟩
    have e3 : Ex H2 (upd H2 T (.tup [vW x', vW y'])) := Ex.new nT
    have hd3 := e3 _ _ hdd
    have g1 : (((wipe σ [i, j]).set i (some (vW x'))).set j (some (vW y')))[i]? = some (some (vW x')) := by
      rw [List.getElem?_set_ne (Ne.symm hij), List.getElem?_set_self (by rw [wipe_length]; exact hi)]
    have g2 : (((wipe σ [i, j]).set i (some (vW x'))).set j (some (vW y')))[j]? = some (some (vW y')) := by
      rw [List.getElem?_set_self (by rw [List.length_set, wipe_length]; exact hj)]
    refine ⟨T, _, rfl, SqT.of upd_same, rfl, _, _, rfl, _, [], rfl, rfl, hw _ _, _, g1, _, g2, rfl, _, rfl, ?_⟩
    have dt := diffs_take xs ys k x' y' hx' hy'
    have hk : k < xs.length := (List.getElem?_eq_some_iff.mp hx').1
    by_cases hxy : x' = y'
    · rw [if_pos hxy, List.append_nil] at dt
      have e : vW x' = vW y' := by rw [hxy]
      rw [decide_eq_true e]
      refine iteF ⟨e2.trans e3, ?_⟩
      rw [hd3, dt]
    · rw [if_neg hxy] at dt
      have e : ¬ vW x' = vW y' := fun z => hxy (vW_inj z)
      rw [decide_eq_false e]
      refine iteT ⟨_, hd3, ?_, (e2.trans e3).mut hD, ?_⟩
      · rw [List.length_replicate]
        refine small1000 (Nat.le_trans (List.length_filter_le _ _) ?_)
        rw [List.length_take]
        omega
      · rw [upd_same, dt, List.length_append]
        show some (HO.lst (List.replicate _ (V.int 1) ++ [V.int 1])) = some (HO.lst (List.replicate (_ + 1) (V.int 1)))
        rw [List.replicate_succ']
  · obtain ⟨e2, hdd⟩ := p
    refine hd H2 e2 ?_
    rw [hdd, List.take_of_length_le (by rw [List.length_zip, List.length_map]; omega)]
    rfl
theorem shP (m : Int) (ps : List Int) : SeqAt.shaped (.tuple [.int m, .tuple (ps.map PyData.int)]) = true := by
  obtain ⟨h1, h2⟩ := shI ps
  unfold SeqAt.shaped
  have e1 : PyData.canLay0 (.tuple [.int m, .tuple (ps.map PyData.int)]) = true := by
    show (PyData.canLay0 (.int m) && (PyData.canLayAll0 (ps.map PyData.int) && true)) = true
    rw [h1]
    rfl
  have e2 : PyData.depth (.tuple [.int m, .tuple (ps.map PyData.int)]) = 2 := by
    show max (PyData.depth (.int m)) (max (PyData.depthAll (ps.map PyData.int) + 1) 0) + 1 = 2
    rw [h2]
    rfl
  rw [e1, e2]
  rfl
theorem eqvP (m m' : Int) (ps ps' : List Int) : PyData.eqv (.tuple [.int m, .tuple (ps.map PyData.int)]) (.tuple [.int m', .tuple (ps'.map PyData.int)]) = decide (m = m' ∧ ps = ps') := by
  show ((m == m') && (PyData.eqvAll (ps.map PyData.int) (ps'.map PyData.int) && true)) = _
  rw [eqvI, Bool.and_true]
  by_cases h1 : m = m' <;> by_cases h2 : ps = ps' <;> simp [h1, h2]
theorem dpP {K : PySem.W.Frag} {H : Hp} {u v : Addr} {m : Int} {ps : List Int} (h1 : H u = some (.tup [.int m, .ref v])) (h2 : H v = some (.tup (ps.map V.int))) : Dp K H (.ref u) (.tuple [.int m, .tuple (ps.map PyData.int)]) :=
  .tup (SqT.of h1) (.cons (.int m) (.cons (.tup (SqT.of h2) (dpI ps)) .nil))
theorem nePP {K : PySem.W.Frag} {H : Hp} {u v u' v' : Addr} {m m' : Int} {ps ps' : List Int} {Q : VK} (h1 : H u = some (.tup [.int m, .ref v])) (h2 : H v = some (.tup (ps.map V.int))) (h3 : H u' = some (.tup [.int m', .ref v'])) (h4 : H v' = some (.tup (ps'.map V.int)))
    (q : Q (.bl (!decide (m = m' ∧ ps = ps'))) H) : rNeD K (.ref u) (.ref u') H Q := by
  refine ⟨_, _, dpP h1 h2, dpP h3 h4, shP _ _, shP _ _, ?_⟩
  rw [eqvP]
  exact q
theorem eqPP {K : PySem.W.Frag} {H : Hp} {u v u' v' : Addr} {m m' : Int} {ps ps' : List Int} {Q : VK} (h1 : H u = some (.tup [.int m, .ref v])) (h2 : H v = some (.tup (ps.map V.int))) (h3 : H u' = some (.tup [.int m', .ref v'])) (h4 : H v' = some (.tup (ps'.map V.int)))
    (q : Q (.bl (decide (m = m' ∧ ps = ps'))) H) : rEqD K (.ref u) (.ref u') H Q := by
  refine ⟨_, _, dpP h1 h2, dpP h3 h4, shP _ _, shP _ _, ?_⟩
  rw [eqvP]
  exact q
theorem rng_more (i : Nat) : rng 1 (1 + ((i + 1 : Nat) : Int)) = rng 1 (1 + (i : Int)) ++ [1 + (i : Int)] := by
  unfold rng
  have e1 : (1 + ((i + 1 : Nat) : Int) - 1).toNat = i + 1 := by omega
  have e2 : (1 + (i : Int) - 1).toNat = i := by omega
  rw [e1, e2, List.range_succ, List.map_append]
  rfl
theorem diffs_comm : ∀ xs ys : List Wo, diffs xs ys = diffs ys xs
  | [], [] => rfl
  | [], _ :: _ => rfl
  | _ :: _, [] => rfl
  | x :: r, y :: q => by
    have ih := diffs_comm r q
    unfold diffs at ih ⊢
    rw [List.zip_cons_cons, List.zip_cons_cons, List.filter_cons, List.filter_cons]
    by_cases h : x = y
    · subst h
      simp only [ne_eq, not_true_eq_false, decide_false]
      exact ih
    · have h' : ¬ y = x := fun z => h z.symm
      simp only [ne_eq, h, h', not_false_eq_true, decide_true, if_true, List.length_cons]
      exact congrArg (· + 1) ih
def sp_count_wrong (K : PySem.W.Frag) : Sp := fun vs H Q _ => ∃ (t : Int) (s a : Addr) (st : List Int) (ws : List Wo), vs = [.int t, .ref s, .ref a] ∧ SqL K H s (st.map V.int) ∧ st.length ≤ 900 ∧ SqL K H a (ws.map vW) ∧ ws.length = st.length - 1 ∧ ∀ H', Ex H H' → Q (.int (wr st ws t)) H'
abbrev N_count_wrong : List Str := ["thing", "stands", "answers", "right", "told", "due"]
def t_count_wrong (K : PySem.W.Frag) : TS := (tSeq (tAsg (tCall (sp_row_of_answers K) [] E0 (tCons (tVar 0) (tCons (tVar 1) tNil))) (gName 3))
  (tRet (tCB (rSum K) (tCons (tLc (iZip K (tCons (tVar 2) (tCons (tVar 3) tNil))) (gTup K 2 (gCons (gName 4) (gCons (gName 5) gNil))) (tTest (tOp rNe (tVar 4) (tVar 5))) (tC (.int 1)) [4, 5]) tNil))))
theorem pure_count_wrong {K : PySem.W.Frag} {vs : List V} {H : Hp} {Q : VK} {E : XK} (h : sp_count_wrong K vs H Q E) : t_count_wrong K { nx := fun _ H' => Q .non H', rt := Q } (start N_count_wrong vs) H := by
  obtain ⟨t, s, a, st, ws, rfl, hs, hl, ha, hw, q⟩ := h
  refine ⟨_, rfl, _, rfl, t, s, st, rfl, hs, by omega, fun p H1 np e1 h1 => ?_⟩
  refine ⟨_, rfl, _, rfl, a, p, _, _, rfl, ex_l e1 ha, SqL.of h1, fun D hD => ?_⟩
  refine lc_diffs (K := K) (xs := ws) (ys := wordsOf t st) (by rw [wordsOf_len]; exact hw) (by omega) (by decide) (by show 4 < 6; decide) (by show 5 < 6; decide) (fun _ _ => rfl) (ex_l e1 ha) (SqL.of h1) hD fun H2 e2 h2 => ?_
  refine ⟨D, List.replicate (diffs ws (wordsOf t st)) 1, rfl, ?_, ?_⟩
  · rw [List.map_replicate]
    exact SqL.of h2
  · have e : (List.replicate (diffs ws (wordsOf t st)) (1 : Int)).sum = wr st ws t := by
      rw [diffs_comm]
      show _ = ((diffs (wordsOf t st) ws : Nat) : Int)
      generalize diffs (wordsOf t st) ws = n
      induction n with
      | zero => rfl
      | succ n ih =>
        rw [List.replicate_succ, List.sum_cons, ih]
        omega
    rw [e]
    exact q H2 (e1.trans e2)
theorem len_count_wrong {K : PySem.W.Frag} {vs : List V} {H : Hp} {Q : VK} {E : XK} (h : sp_count_wrong K vs H Q E) : vs.length = 3 := by
  obtain ⟨t, s, a, st, ws, rfl, _⟩ := h
  rfl
def sp_fewest_wrong (K : PySem.W.Frag) : Sp := fun vs H Q _ => ∃ (l : Int) (s a : Addr) (st : List Int) (ws : List Wo), vs = [.int l, .ref s, .ref a] ∧ 1 ≤ l ∧ l ≤ 60 ∧ H s = some (.lst (st.map V.int)) ∧ st.length ≤ 40 ∧ Places l st ∧ H a = some (.lst (ws.map vW)) ∧ ws.length = st.length - 1 ∧
  ∀ H' u v m, Ex H H' → Least l st ws m → H' u = some (.tup [.int m, .ref v]) → H' v = some (.tup ((wplaces l st ws m).map V.int)) → Q (.ref u) H'
abbrev N_fewest_wrong : List Str := ["length", "stands", "answers", "places", "counts", "place", "least", "count"]
def t_fewest_wrong (K : PySem.W.Frag) : TS := (tSeq (tDrop (tCall (sp_check_length K) [] E0 (tCons (tVar 0) tNil)))
  (tSeq (tDrop (tCall (sp_check_stands K) [] E0 (tCons (tVar 1) (tCons (tVar 0) tNil))))
  (tSeq (tDrop (tCall (sp_check_answers K) [] E0 (tCons (tVar 2) (tCons (tVar 1) tNil))))
  (tSeq (tAsg (tLstRg (tRg2 (tC (.int 1)) (tOp (rI0 fun i j => .int (i + j)) (tVar 0) (tC (.int 1))))) (gName 3))
  (tSeq (tAsg (tLc (iList K (tVar 3)) (gName 5) tYes (tCall (sp_count_wrong K) [] E0 (tCons (tVar 5) (tCons (tVar 1) (tCons (tVar 2) tNil)))) [5]) (gName 4))
  (tSeq (tAsg (tCB (rMin K) (tCons (tVar 4) tNil)) (gName 6))
  (tRet (tTup (tCons (tVar 6) (tCons (tCB (rTupleOf K) (tCons (tLc (iZip K (tCons (tVar 3) (tCons (tVar 4) tNil))) (gTup K 2 (gCons (gName 5) (gCons (gName 7) gNil))) (tTest (tOp rEq (tVar 7) (tVar 6))) (tVar 5) [5, 7]) tNil)) tNil))))))))))
theorem rgV_rng (a b : Int) : rgV a b = (rng a b).map V.int := by
  unfold rgV rng
  rw [List.map_map]
  rfl
theorem rng_get {l : Int} {k : Nat} {v : V} {F : Int → V} (hv : ((rng 1 (l + 1)).map F)[k]? = some v) : (k : Int) < l ∧ v = F (1 + (k : Int)) := by
  unfold rng at hv
  rw [List.map_map, List.getElem?_map] at hv
  by_cases hk : k < (l + 1 - 1).toNat
  · rw [List.getElem?_range hk] at hv
    exact ⟨by omega, (Option.some.inj hv).symm⟩
  · rw [List.getElem?_eq_none (by rw [List.length_range]; omega)] at hv
    cases hv
theorem pure_fewest_wrong {K : PySem.W.Frag} {vs : List V} {H : Hp} {Q : VK} {E : XK} (h : sp_fewest_wrong K vs H Q E) : t_fewest_wrong K { nx := fun _ H' => Q .non H', rt := Q } (start N_fewest_wrong vs) H := by
  obtain ⟨l, s, a, st, ws, rfl, h1, h2, hs, hl, hp, ha, hw, q⟩ := h
  refine ⟨_, rfl, l, rfl, h1, h2, ?_⟩
  refine ⟨_, rfl, _, rfl, s, st, l, rfl, hs, hl, hp, fun H1 e1 => ?_⟩
  refine ⟨_, rfl, _, rfl, a, s, ws, st, rfl, e1 _ _ ha, SqL.of (e1 _ _ hs), hw, by omega, fun H2 e2 => ?_⟩
  have hs2 := e2 _ _ (e1 _ _ hs)
  have ha2 := e2 _ _ (e1 _ _ ha)
  refine ⟨_, rfl, l, 1, rfl, rfl, 1, l + 1, rfl, rfl, RgOk.of_le (by omega) (by omega) (by omega) (by omega), fun r nr => ?_⟩
  have e3 : Ex H2 (upd H2 r (.lst (rgV 1 (l + 1)))) := Ex.new nr
  have hr3 : (upd H2 r (.lst (rgV 1 (l + 1)))) r = some (.lst ((rng 1 (l + 1)).map V.int)) := by rw [upd_same, rgV_rng]
  have hs3 := e3 _ _ hs2
  have ha3 := e3 _ _ ha2
  have e13 := (e1.trans e2).trans e3
  generalize upd H2 r (.lst (rgV 1 (l + 1))) = H3 at hr3 hs3 ha3 e13
  have hc : Evl.EvL (tLc (iList K (tVar 3)) (gName 5) tYes (tCall (sp_count_wrong K) [] E0 (tCons (tVar 5) (tCons (tVar 1) (tCons (tVar 2) tNil)))) [5]) ((start N_fewest_wrong [.int l, .ref s, .ref a]).set 3 (some (.ref r))) H3 ((rng 1 (l + 1)).map fun t => V.int (wr st ws t)) := by
    refine el_map (K := K) (ns := rng 1 (l + 1)) (fun t => V.int (wr st ws t)) (Evl.ev_var rfl) (SqL.of hr3) (by rw [rng_len]; omega) (fun _ => rfl) (fun n H4 e4 _ => ?_)
    intro H5 e5 Q5 q5
    exact ⟨_, rfl, _, rfl, _, rfl, n, s, a, st, ws, rfl, SqL.of ((e4.trans e5) _ _ hs3), by omega, SqL.of ((e4.trans e5) _ _ ha3), hw, fun H6 e6 => q5 H6 e6⟩
  dsimp only [gName, tSeq, tAsg]
  refine hc H3 (Ex.refl H3) _ fun c H4 nc e4 hc4 => ?_
  have hr4 := e4 _ _ hr3
  have ecs : ((rng 1 (l + 1)).map fun t => V.int (wr st ws t)) = ((rng 1 (l + 1)).map fun t => wr st ws t).map V.int := by
    rw [List.map_map]
    rfl
  have hcI : SqL K H4 c (((rng 1 (l + 1)).map fun t => wr st ws t).map V.int) := by
    rw [← ecs]
    exact SqL.of hc4
  refine ⟨_, rfl, c, _, rfl, hcI, ?_, fun m hm hmin => ?_⟩
  · rw [List.length_map, rng_len]
    omega
  have hleast : Least l st ws m := by
    obtain ⟨t, ht, rfl⟩ := List.mem_map.mp hm
    have ht2 := mem_rng.mp ht
    refine ⟨⟨t, ⟨ht2.1, by omega⟩, rfl⟩, fun u h1 h2 => hmin _ (List.mem_map.mpr ⟨u, mem_rng.mpr ⟨h1, by omega⟩, rfl⟩)⟩
  refine ⟨_, rfl, _, rfl, _, rfl, r, c, _, _, rfl, SqL.of hr4, SqL.of hc4, fun D hD => ?_⟩
  refine lc_zip (K := K) (a := r) (b := c) (xs := (rng 1 (l + 1)).map V.int) (ys := (rng 1 (l + 1)).map fun t => V.int (wr st ws t)) (by rw [List.length_map, List.length_map])
    (fun k H' => Ex H4 H' ∧ H' D = some (.lst (((rng 1 (1 + (k : Int))).filter fun t => decide (wr st ws t = m)).map V.int)))
    ⟨Ex.new hD, upd_same⟩ (fun k H' p => ⟨SqL.of (p.1 _ _ hr4), SqL.of (p.1 _ _ hc4)⟩) (fun k x y T H5 hx hy p nT => ?_) (fun H5 p => ?_)
  · obtain ⟨e5, hd⟩ := p
    obtain ⟨hk, rfl⟩ := rng_get hx
    obtain ⟨_, rfl⟩ := rng_get (F := fun t => V.int (wr st ws t)) hy
    have e6 : Ex H5 (upd H5 T (.tup [.int (1 + (k : Int)), .int (wr st ws (1 + (k : Int)))])) := Ex.new nT
    have hd6 := e6 _ _ hd
    refine ⟨T, _, rfl, SqT.of upd_same, rfl, _, _, rfl, _, [], rfl, rfl, rfl, _, rfl, _, rfl, rfl, _, rfl, ?_⟩
    by_cases hwm : wr st ws (1 + (k : Int)) = m
    · have e : (V.int (wr st ws (1 + (k : Int))) : V) = V.int m := by rw [hwm]
      rw [decide_eq_true e]
      refine iteT ⟨_, rfl, _, hd6, ?_, (e5.trans e6).mut hD, ?_⟩
      · rw [List.length_map]
        refine small1000 (Nat.le_trans (List.length_filter_le _ _) ?_)
        rw [rng_len]
        omega
      · rw [upd_same, rng_more, List.filter_append, List.map_append]
        simp [hwm]
    · have e : ¬ (V.int (wr st ws (1 + (k : Int))) : V) = V.int m := fun z => hwm (V.int.inj z)
      rw [decide_eq_false e]
      refine iteF ⟨e5.trans e6, ?_⟩
      rw [hd6, rng_more, List.filter_append]
      simp [hwm]
  · obtain ⟨e5, hd⟩ := p
    rw [List.length_map, rng_len, show 1 + (((l + 1 - 1).toNat : Nat) : Int) = l + 1 by omega] at hd
    refine ⟨D, _, rfl, .inl ⟨SqL.of hd, fun v nv => ?_⟩⟩
    refine ⟨by show 2 ≤ sizeLine; decide, fun u nu => ?_⟩
    refine q _ u v m (((e13.trans e4).trans e5).trans ((Ex.new nv).trans (Ex.new nu))) hleast upd_same ?_
    exact (Ex.new nu) _ _ upd_same
theorem len_fewest_wrong {K : PySem.W.Frag} {vs : List V} {H : Hp} {Q : VK} {E : XK} (h : sp_fewest_wrong K vs H Q E) : vs.length = 3 := by
  obtain ⟨l, s, a, st, ws, rfl, _⟩ := h
  rfl
def sp__law_cell_at (K : PySem.W.Frag) : Sp := fun vs H Q _ => ∃ (a : Addr) (ns : List Int) (k : Int), vs = [.ref a, .int k] ∧ SqL K H a (ns.map V.int) ∧ 0 ≤ k ∧ ∀ v : Int, Q (.int v) H
abbrev N__law_cell_at : List Str := ["script", "k"]
def t__law_cell_at (K : PySem.W.Frag) : TS := (tSeq (tIfS (tTest (tOp (rI0 fun i j => .bl (decide (i < j))) (tVar 1) (tCB (rLenQ K) (tCons (tVar 0) tNil)))) (tRet (tOp (rIxL K) (tVar 0) (tVar 1))) tNext)
  (tRet (tC (.int 0))))
theorem pure__law_cell_at {K : PySem.W.Frag} {vs : List V} {H : Hp} {Q : VK} {E : XK} (h : sp__law_cell_at K vs H Q E) : t__law_cell_at K { nx := fun _ H' => Q .non H', rt := Q } (start N__law_cell_at vs) H := by
  obtain ⟨a, ns, k, rfl, hS, hk, q⟩ := h
  refine ⟨_, rfl, _, rfl, a, _, rfl, .inl hS, _, _, rfl, rfl, _, rfl, ite2 (fun e => ?_) (fun _ => ?_)⟩
  · have e1 := of_decide_eq_true e
    rw [List.length_map] at e1
    obtain ⟨j, rfl⟩ := Int.eq_ofNat_of_zero_le hk
    have hj : j < ns.length := by omega
    refine ⟨_, rfl, _, rfl, a, _, _, .int ns[j], rfl, rfl, hS, atI_nat ?_, q _⟩
    rw [List.getElem?_map, List.getElem?_eq_getElem hj]
    rfl
  · exact q 0
theorem len__law_cell_at {K : PySem.W.Frag} {vs : List V} {H : Hp} {Q : VK} {E : XK} (h : sp__law_cell_at K vs H Q E) : vs.length = 2 := by
  obtain ⟨a, ns, k, rfl, _⟩ := h
  rfl
def sp__law_draws (K : PySem.W.Frag) : Sp := fun vs H Q _ => ∃ c : Int, vs = [.int c, .int 400, .int 1000] ∧ ∀ p H' (ds : List Int), H p = none → Ex H H' → H' p = some (.lst (ds.map V.int)) → ds.length = 400 → Q (.ref p) H'
abbrev N__law_draws : List Str := ["cell", "many", "size", "found", "rest", "stirred", "k"]
def t__law_draws (K : PySem.W.Frag) : TS := (tSeq (tAsg (tLst tNil) (gName 3))
  (tSeq (tAsg (tOp (rI CMul fun i j => .int (i * j)) (tVar 0) (tCB rInt1 (tCons (tOp (rI0 fun i j => .bl (decide (j ≤ i))) (tVar 0) (tOp (rI CPow fun i j => .int (i ^ j.toNat)) (tC (.int 10)) (tC (.int 18)))) tNil))) (gName 4))
  (tSeq (tAsg (tOp (rI (fun _ j => 0 < j) fun i j => .int (i % j)) (tVar 0) (tC (.int 2305843009213693951))) (gName 5))
  (tSeq (tFor (iRng1 (tCons (tOp (rI0 fun i j => .int (i + j)) (tVar 1) (tC (.int 3))) tNil)) (gName 6) (tSeq (tAsg (tOp (rI (fun _ j => 0 < j) fun i j => .int (i % j)) (tOp (rI0 fun i j => .int (i + j)) (tOp (rI0 fun i j => .int (i + j)) (tOp (rI0 fun i j => .int (i + j)) (tOp (rI CMul fun i j => .int (i * j)) (tVar 5) (tVar 5)) (tOp (rI CMul fun i j => .int (i * j)) (tC (.int 48271)) (tVar 5))) (tVar 6)) (tC (.int 1))) (tC (.int 2305843009213693951))) (gName 5))
  (tIfS (tAnd (tTest (tOp (rI0 fun i j => .bl (decide (j < i))) (tVar 6) (tC (.int 2)))) (tTest (tOp (rI0 fun i j => .bl (decide (j < i))) (tVar 4) (tC (.int 0))))) (tSeq (tDrop (tBM K "list" rAppend (tVar 3) (tCons (tOp (rI (fun _ j => 0 < j) fun i j => .int (i % j)) (tVar 4) (tVar 2)) tNil)))
  (tAsg (tOp (rI CDiv fun i j => .int (i / j)) (tVar 4) (tVar 2)) (gName 4))) (tIfS (tTest (tOp (rI0 fun i j => .bl (decide (j < i))) (tVar 6) (tC (.int 2)))) (tDrop (tBM K "list" rAppend (tVar 3) (tCons (tOp (rI (fun _ j => 0 < j) fun i j => .int (i % j)) (tOp (rI CDiv fun i j => .int (i / j)) (tVar 5) (tC (.int 4096))) (tVar 2)) tNil))) tNext))))
  (tRet (tVar 3))))))
theorem pure__law_draws {K : PySem.W.Frag} {vs : List V} {H : Hp} {Q : VK} {E : XK} (h : sp__law_draws K vs H Q E) : t__law_draws K { nx := fun _ H' => Q .non H', rt := Q } (start N__law_draws vs) H := by
  obtain ⟨c, rfl, q⟩ := h
  refine ⟨Nat.zero_le _, fun f nf => ?_⟩
  refine ⟨_, rfl, _, rfl, 10, 18, rfl, rfl, ⟨by decide, by decide, by decide⟩, _, _, rfl, rfl, .inr ⟨_, rfl, ?_⟩⟩
  refine ⟨_, _, rfl, rfl, .inr ?_, ?_⟩
  · by_cases hc : decide ((10 : Int) ^ Int.toNat 18 ≤ c) = true
    · rw [if_pos hc]
      exact ⟨by decide, by decide⟩
    · rw [if_neg hc]
      exact ⟨by decide, by decide⟩
  refine ⟨_, rfl, _, _, rfl, rfl, (by decide : (0 : Int) < 2305843009213693951), ?_⟩
  refine ⟨_, rfl, _, _, rfl, rfl, 403, rfl, by decide, by decide, ?_⟩
  refine for_range (lo := 0) (n := (403 : Int).toNat) (fun i σ H' => ∃ (r s : Int) (ds : List Int) (kv : Option V), σ = [some (.int c), some (.int 400), some (.int 1000), some (.ref f), some (.int r), some (.int s), kv] ∧ 0 ≤ s ∧ s < 2305843009213693951 ∧ Ex H H' ∧ H' f = some (.lst (ds.map V.int)) ∧ ds.length = i - 3)
    ⟨_, _, [], none, rfl, Int.emod_nonneg _ (by decide), Int.emod_lt_of_pos _ (by decide), Ex.new nf, upd_same, rfl⟩ ?_ ?_
  · rintro i σ H' hi ⟨r, s, ds, kv, rfl, h0, h1, he, hf, hl⟩
    have hi2 : i < 403 := hi
    have bs : -(2 ^ 64) < s ∧ s < 2 ^ 64 := ⟨by omega, by omega⟩
    refine ⟨_, rfl, _, rfl, s, s, rfl, rfl, .inl bs, _, rfl, 48271, s, rfl, rfl, .inl ⟨by decide, by decide⟩, _, _, rfl, rfl, _, rfl, _, _, rfl, rfl, _, _, rfl, rfl, _, _, rfl, rfl, (by decide : (0 : Int) < 2305843009213693951), ?_⟩
    have s0 : 0 ≤ (s * s + 48271 * s + (0 + (i : Int)) + 1) % 2305843009213693951 := Int.emod_nonneg _ (by decide)
    have s1 : (s * s + 48271 * s + (0 + (i : Int)) + 1) % 2305843009213693951 < 2305843009213693951 := Int.emod_lt_of_pos _ (by decide)
    have hsz : (ds.map V.int).length < sizeLine := by
      rw [List.length_map]
      exact small1000 (by omega)
    refine ⟨_, rfl, _, _, rfl, rfl, _, rfl, ite2 (fun e => ?_) (fun e => ?_)⟩
    · have e1 : (2 : Int) < 0 + (i : Int) := of_decide_eq_true e
      refine ⟨_, rfl, _, _, rfl, rfl, _, rfl, ite2 (fun e2 => ?_) (fun e2 => ?_)⟩
      · refine ⟨_, rfl, .inl ⟨rfl, _, SqL.of hf⟩, _, rfl, _, rfl, _, _, rfl, rfl, (by decide : (0 : Int) < 1000), f, _, _, rfl, rfl, hf, hsz, ?_⟩
        refine ⟨_, rfl, _, rfl, _, _, rfl, rfl, ⟨by decide, by decide⟩, ?_⟩
        refine ⟨_, _, ds ++ [r % 1000], _, rfl, s0, s1, he.mut nf, ?_, ?_⟩
        · rw [upd_same, List.map_append]
          rfl
        · rw [List.length_append, hl]
          show i - 3 + 1 = i + 1 - 3
          omega
      · refine ⟨_, rfl, _, _, rfl, rfl, _, rfl, ite2 (fun e3 => ?_) (fun e3 => absurd e e3)⟩
        refine ⟨_, rfl, .inl ⟨rfl, _, SqL.of hf⟩, _, rfl, _, _, rfl, rfl, ⟨by decide, by decide⟩, _, rfl, _, _, rfl, rfl, (by decide : (0 : Int) < 1000), f, _, _, rfl, rfl, hf, hsz, ?_⟩
        refine ⟨_, _, ds ++ [(s * s + 48271 * s + (0 + (i : Int)) + 1) % 2305843009213693951 / 4096 % 1000], _, rfl, s0, s1, he.mut nf, ?_, ?_⟩
        · rw [upd_same, List.map_append]
          rfl
        · rw [List.length_append, hl]
          show i - 3 + 1 = i + 1 - 3
          omega
    · have e1 : ¬ (2 : Int) < 0 + (i : Int) := fun z => e (decide_eq_true z)
      dsimp only
      rw [if_neg Bool.false_ne_true]
      refine ⟨_, rfl, _, _, rfl, rfl, _, rfl, ite2 (fun e3 => absurd e3 e) (fun e3 => ?_)⟩
      refine ⟨r, _, ds, _, rfl, s0, s1, he, hf, ?_⟩
      omega
  · rintro σ H' ⟨r, s, ds, kv, rfl, h0, h1, he, hf, hl⟩
    exact ⟨_, rfl, q f H' ds nf he hf (hl.trans rfl)⟩
theorem len__law_draws {K : PySem.W.Frag} {vs : List V} {H : Hp} {Q : VK} {E : XK} (h : sp__law_draws K vs H Q E) : vs.length = 3 := by
  obtain ⟨c, rfl, _⟩ := h
  rfl
def sp__law_bag (K : PySem.W.Frag) : Sp := fun vs H Q _ => ∃ (a : Addr) (ns : List Int) (k : Int), vs = [.ref a, .int k] ∧ SqL K H a (ns.map V.int) ∧ 0 ≤ k ∧ ∀ p H', H p = none → Ex H H' → Bag1 H' p → Q (.ref p) H'
abbrev N__law_bag : List Str := ["script", "k"]
def t__law_bag (K : PySem.W.Frag) : TS := (tRet (tLst (tCons (tCall (sp__law_draws K) [] E0 (tCons (tCall (sp__law_cell_at K) [] E0 (tCons (tVar 0) (tCons (tVar 1) tNil))) (tCons (tC (.int 400)) (tCons (tC (.int 1000)) tNil)))) (tCons (tC (.int 0)) tNil))))
theorem pure__law_bag {K : PySem.W.Frag} {vs : List V} {H : Hp} {Q : VK} {E : XK} (h : sp__law_bag K vs H Q E) : t__law_bag K { nx := fun _ H' => Q .non H', rt := Q } (start N__law_bag vs) H := by
  obtain ⟨a, ns, k, rfl, hS, hk, q⟩ := h
  refine ⟨_, rfl, _, rfl, a, ns, k, rfl, hS, hk, fun v => ?_⟩
  refine ⟨v, rfl, fun d H1 ds nd e1 hd hl => ?_⟩
  refine ⟨by show 2 ≤ sizeLine; decide, fun p np => ?_⟩
  refine q p _ (fresh_back e1 np) (e1.trans (Ex.new np)) ⟨d, 0, ds, upd_same, ?_, hl⟩
  rw [upd_ne (ne_of_none hd np)]
  exact hd
theorem len__law_bag {K : PySem.W.Frag} {vs : List V} {H : Hp} {Q : VK} {E : XK} (h : sp__law_bag K vs H Q E) : vs.length = 2 := by
  obtain ⟨a, ns, k, rfl, _⟩ := h
  rfl
def sp__law_bags (K : PySem.W.Frag) : Sp := fun vs H Q _ => ∃ (a : Addr) (ns : List Int) (m : Int), vs = [.ref a, .int m] ∧ SqL K H a (ns.map V.int) ∧ 0 ≤ m ∧ m ≤ 63 ∧ ∀ p H' (bs : List Addr), H p = none → Ex H H' → H' p = some (.lst (bs.map V.ref)) → Bags bs H' → (∀ b ∈ bs, H b = none) → Q (.ref p) H'
abbrev N__law_bags : List Str := ["script", "limit", "k"]
def t__law_bags (K : PySem.W.Frag) : TS := (tRet (tLc (iRng1 (tCons (tCB rMax2 (tCons (tC (.int 1)) (tCons (tCB rMin2 (tCons (tVar 1) (tCons (tCB (rLenQ K) (tCons (tVar 0) tNil)) tNil))) tNil))) tNil)) (gName 2) tYes (tCall (sp__law_bag K) [] E0 (tCons (tVar 0) (tCons (tVar 2) tNil))) [2]))
theorem pure__law_bags {K : PySem.W.Frag} {vs : List V} {H : Hp} {Q : VK} {E : XK} (h : sp__law_bags K vs H Q E) : t__law_bags K { nx := fun _ H' => Q .non H', rt := Q } (start N__law_bags vs) H := by
  obtain ⟨a, ns, m, rfl, hS, h0, h1, q⟩ := h
  refine ⟨_, rfl, _, rfl, a, _, rfl, .inl hS, m, _, rfl, 1, _, rfl, _, rfl, ?_, ?_, fun D hD => ?_⟩
  · split <;> split <;> omega
  · split <;> split <;> omega
  generalize hn : (if (if ((List.map V.int ns).length : Int) < m then ((List.map V.int ns).length : Int) else m) > 1 then (if ((List.map V.int ns).length : Int) < m then ((List.map V.int ns).length : Int) else m) else 1) = n
  have n63 : n ≤ 63 := by
    rw [← hn]
    split <;> split <;> omega
  have hDl : ∀ {H' : Hp} {b : Addr} {bs : List Addr}, Bag1 H' b → H' D = some (.lst (bs.map V.ref)) → b ≠ D := fun {H' b bs} ⟨d, c, ds, h1, _⟩ h2 e => by
    subst e
    rw [h1] at h2
    have e2 := HO.lst.inj (Option.some.inj h2)
    match bs, e2 with
    | [_, _], e2 => simp at e2
  refine lc_range (lo := 0) (n := n.toNat) (fun i H' => ∃ bs : List Addr, bs.length = i ∧ Ex H H' ∧ H' D = some (.lst (bs.map V.ref)) ∧ Bags bs H' ∧ ∀ b ∈ bs, H b = none)
    ⟨[], rfl, Ex.new hD, upd_same, fun _ hb => (nomatch hb), fun _ hb => (nomatch hb)⟩ (fun i H' hi p => ?_) (fun H' p => ?_)
  · obtain ⟨bs, hl, he, hd, hb, hf⟩ := p
    refine ⟨rfl, ?_⟩
    dsimp only [tYes]
    rw [if_pos rfl]
    refine ⟨_, rfl, _, rfl, a, ns, _, rfl, ex_l he hS, by omega, fun b H2 nb e2 hB => ?_⟩
    have nbD : b ≠ D := hDl hB (e2 _ _ hd)
    refine ⟨_, e2 _ _ hd, ?_, bs ++ [b], ?_, (he.trans e2).mut hD, ?_, ?_, ?_⟩
    · rw [List.length_map, hl]
      exact small1000 (by omega)
    · rw [List.length_append, hl]
      rfl
    · rw [upd_same, List.map_append]
      rfl
    · have hB2 : Bags (bs ++ [b]) H2 := fun x hx => by
        rcases List.mem_append.mp hx with z | z
        · exact (hb x z).ex e2
        · rw [List.mem_singleton.mp z]
          exact hB
      refine hB2.mut (fun z => ?_) (fun d ds h2 h3 e => ?_)
      · exact hDl (hB2 D z) (e2 _ _ hd) rfl
      · subst e
        rw [e2 _ _ hd] at h2
        have e3 := HO.lst.inj (Option.some.inj h2)
        match bs, ds, e3, hl with
        | [], ds, e3, _ =>
          have e4 : ds = [] := by simpa using e3.symm
          rw [e4] at h3
          cases h3
        | _ :: _, _ :: _, e3, _ => simp at e3
        | _ :: _, [], e3, _ => simp at e3
    · intro x hx
      rcases List.mem_append.mp hx with z | z
      · exact hf x z
      · rw [List.mem_singleton.mp z]
        exact fresh_back he nb
  · obtain ⟨bs, hl, he, hd, hb, hf⟩ := p
    exact q D H' bs hD he hd hb hf
theorem len__law_bags {K : PySem.W.Frag} {vs : List V} {H : Hp} {Q : VK} {E : XK} (h : sp__law_bags K vs H Q E) : vs.length = 2 := by
  obtain ⟨a, ns, m, rfl, _⟩ := h
  rfl
def sp__law_take (K : PySem.W.Frag) : Sp := fun vs H Q _ => ∃ (bs : List Addr) (b : Addr) (m : Int), vs = [.ref b, .int m] ∧ b ∈ bs ∧ Bags bs H ∧ 0 < m ∧ ∀ r H', 0 ≤ r → r < m → Kp bs H H' → Bags bs H' → Q (.int r) H'
abbrev N__law_take : List Str := ["bag", "many"]
def t__law_take (K : PySem.W.Frag) : TS := (tSeq (tAsg (tOp (rI0 fun i j => .int (i + j)) (tOp (rIxL K) (tVar 0) (tC (.int 1))) (tC (.int 1))) (gSub (tVar 0) (tC (.int 1)) rSetL))
  (tRet (tOp (rI (fun _ j => 0 < j) fun i j => .int (i % j)) (tOp (rIxL K) (tOp (rIxL K) (tVar 0) (tC (.int 0))) (tOp (rI (fun _ j => 0 < j) fun i j => .int (i % j)) (tOp (rIxL K) (tVar 0) (tC (.int 1))) (tCB (rLenQ K) (tCons (tOp (rIxL K) (tVar 0) (tC (.int 0))) tNil)))) (tVar 1))))
theorem pure__law_take {K : PySem.W.Frag} {vs : List V} {H : Hp} {Q : VK} {E : XK} (h : sp__law_take K vs H Q E) : t__law_take K { nx := fun _ H' => Q .non H', rt := Q } (start N__law_take vs) H := by
  obtain ⟨bs, b, m, rfl, hb, hB, hm, q⟩ := h
  obtain ⟨d, c, ds, h1, h2, h3⟩ := hB b hb
  have ndb : d ≠ b := fun e => by
    rw [e, h1] at h2
    have e2 := congrArg List.length (HO.lst.inj (Option.some.inj h2))
    rw [List.length_map, h3] at e2
    cases e2
  refine ⟨_, rfl, b, _, 1, .int c, rfl, rfl, SqL.of h1, rfl, c, 1, rfl, rfl, _, rfl, b, _, 1, 1, rfl, rfl, h1, rfl, ?_⟩
  have g1 : upd H b (.lst [.ref d, .int (c + 1)]) b = some (.lst [.ref d, .int (c + 1)]) := upd_same
  have g2 : upd H b (.lst [.ref d, .int (c + 1)]) d = some (.lst (ds.map V.int)) := by
    rw [upd_ne ndb]
    exact h2
  have hj0 : 0 ≤ (c + 1) % 400 := Int.emod_nonneg _ (by decide)
  have hj1 : (c + 1) % 400 < 400 := Int.emod_lt_of_pos _ (by decide)
  obtain ⟨j, ej⟩ := Int.eq_ofNat_of_zero_le hj0
  have hj : j < ds.length := by omega
  have el : ((ds.map V.int).length : Int) = 400 := by
    rw [List.length_map, h3]
    rfl
  refine ⟨_, rfl, b, _, 0, .ref d, rfl, rfl, SqL.of g1, rfl, _, rfl, b, _, 1, .int (c + 1), rfl, rfl, SqL.of g1, rfl, _, rfl, b, _, 0, .ref d, rfl, rfl, SqL.of g1, rfl, d, _, rfl, .inl (SqL.of g2), c + 1, _, rfl, rfl, ?_, ?_⟩
  · show (0 : Int) < ((ds.map V.int).length : Int)
    rw [el]
    decide
  refine ⟨d, ds.map V.int, _, .int ds[j], rfl, rfl, SqL.of g2, ?_, _, rfl, ds[j], m, rfl, rfl, hm, ?_⟩
  · rw [el, ej]
    refine atI_nat ?_
    rw [List.getElem?_map, List.getElem?_eq_getElem hj]
    rfl
  · refine q _ _ (Int.emod_nonneg _ (by omega)) (Int.emod_lt_of_pos _ hm) (fun a o na ha => ?_) (fun b' hb' => ?_)
    · have nab : a ≠ b := fun e => na (e ▸ hb)
      rw [upd_ne nab]
      exact ha
    · by_cases e : b' = b
      · subst e
        exact ⟨d, c + 1, ds, upd_same, g2, h3⟩
      · obtain ⟨d', c', ds', k1, k2, k3⟩ := hB b' hb'
        have nd' : d' ≠ b := fun z => by
          rw [z, h1] at k2
          have e2 := congrArg List.length (HO.lst.inj (Option.some.inj k2))
          rw [List.length_map, k3] at e2
          cases e2
        exact ⟨d', c', ds', by rw [upd_ne e]; exact k1, by rw [upd_ne nd']; exact k2, k3⟩
theorem len__law_take {K : PySem.W.Frag} {vs : List V} {H : Hp} {Q : VK} {E : XK} (h : sp__law_take K vs H Q E) : vs.length = 2 := by
  obtain ⟨bs, b, m, rfl, _⟩ := h
  rfl
def sp__law_some_stands (K : PySem.W.Frag) : Sp := fun vs H Q _ => ∃ (bs : List Addr) (b : Addr) (l m : Int), vs = [.ref b, .int l, .int m] ∧ b ∈ bs ∧ Bags bs H ∧ 1 ≤ l ∧ 0 ≤ m ∧ m ≤ 100 ∧
  ∀ p H' (ns : List Int), H p = none → Kp bs H H' → Bags bs H' → H' p = some (.lst (ns.map V.int)) → (ns.length : Int) ≤ m → Places l ns → Q (.ref p) H'
abbrev N__law_some_stands : List Str := ["bag", "length", "most", "found", "turn", "place"]
def t__law_some_stands (K : PySem.W.Frag) : TS := (tSeq (tAsg (tLst tNil) (gName 3))
  (tSeq (tFor (iRng1 (tCons (tCall (sp__law_take K) [] E0 (tCons (tVar 0) (tCons (tOp (rI0 fun i j => .int (i + j)) (tVar 2) (tC (.int 1))) tNil))) tNil)) (gName 4) (tSeq (tAsg (tOp (rI0 fun i j => .int (i + j)) (tC (.int 1)) (tCall (sp__law_take K) [] E0 (tCons (tVar 0) (tCons (tVar 1) tNil)))) (gName 5))
  (tSeq (tIfS (tAnd (tTest (tOp (rNeD K) (tVar 3) (tLst tNil))) (tTest (tOp rEq (tCall (sp__law_take K) [] E0 (tCons (tVar 0) (tCons (tC (.int 3)) tNil))) (tC (.int 0))))) (tAsg (tCB rMax2 (tCons (tC (.int 1)) (tCons (tCB rMin2 (tCons (tVar 1) (tCons (tOp (rI0 fun i j => .int (i - j)) (tOp (rI0 fun i j => .int (i + j)) (tOp (rIxL K) (tVar 3) (tUn (rU fun i => .int (-i)) (tC (.int 1)))) (tCall (sp__law_take K) [] E0 (tCons (tVar 0) (tCons (tC (.int 5)) tNil)))) (tC (.int 2))) tNil))) tNil))) (gName 5)) tNext)
  (tDrop (tBM K "list" rAppend (tVar 3) (tCons (tVar 5) tNil))))))
  (tRet (tVar 3))))
theorem places_add {l : Int} {ns : List Int} {n : Int} (h : Places l ns) (h1 : 1 ≤ n) (h2 : n ≤ l) : Places l (ns ++ [n]) := fun x hx => by
  rcases List.mem_append.mp hx with z | z
  · exact h x z
  · rw [List.mem_singleton.mp z]
    exact ⟨h1, h2⟩
theorem pure__law_some_stands {K : PySem.W.Frag} {vs : List V} {H : Hp} {Q : VK} {E : XK} (h : sp__law_some_stands K vs H Q E) : t__law_some_stands K { nx := fun _ H' => Q .non H', rt := Q } (start N__law_some_stands vs) H := by
  obtain ⟨bs, b, l, m, rfl, hb, hB, hl, hm0, hm, q⟩ := h
  refine ⟨Nat.zero_le _, fun f nf => ?_⟩
  have nfb : f ∉ bs := hB.fresh nf
  have B1 : Bags bs (upd H f (.lst [])) := hB.ex (Ex.new nf)
  refine ⟨_, rfl, _, rfl, m, 1, rfl, rfl, bs, b, m + 1, rfl, hb, B1, by omega, fun r H1 hr0 hr1 k1 B1 => ?_⟩
  have hf1 : H1 f = some (.lst []) := k1 f _ nfb upd_same
  have k0 : Kp bs H H1 := (Kp.ex (Ex.new nf)).trans k1
  refine ⟨r, rfl, by omega, by omega, ?_⟩
  refine for_range (lo := 0) (n := r.toNat) (fun i σ H' => ∃ (ns : List Int) (x y : Option V), σ = [some (.ref b), some (.int l), some (.int m), some (.ref f), x, y] ∧ Kp bs H H' ∧ Bags bs H' ∧ H' f = some (.lst (ns.map V.int)) ∧ ns.length = i ∧ Places l ns)
    ⟨[], none, none, rfl, k0, B1, hf1, rfl, fun _ hx => (nomatch hx)⟩ ?_ ?_
  · rintro i σ H2 hi ⟨ns, x, y, rfl, k2, B2, hf2, hlen, hP⟩
    refine ⟨_, rfl, _, rfl, bs, b, l, rfl, hb, B2, by omega, fun p H3 hp0 hp1 k3 B3 => ?_⟩
    have hf3 : H3 f = some (.lst (ns.map V.int)) := k3 f _ nfb hf2
    refine ⟨1, p, rfl, rfl, ?_⟩
    have app : ∀ (pl : Int) (H4 : Hp) (B4 : Bags bs H4) (k4 : Kp bs H H4) (hf4 : H4 f = some (.lst (ns.map V.int))), 1 ≤ pl → pl ≤ l →
        tDrop (tBM K "list" rAppend (tVar 3) (tCons (tVar 5) tNil)) { nx := fun σ H' => ∃ (ns : List Int) (x y : Option V), σ = [some (.ref b), some (.int l), some (.int m), some (.ref f), x, y] ∧ Kp bs H H' ∧ Bags bs H' ∧ H' f = some (.lst (ns.map V.int)) ∧ ns.length = i + 1 ∧ Places l ns, rt := Q, bk := fun _ _ => False, ct := fun _ _ => False }
          [some (.ref b), some (.int l), some (.int m), some (.ref f), some (.int (0 + (i : Int))), some (.int pl)] H4 := by
      intro pl H4 B4 k4 hf4 h1 h2
      refine ⟨_, rfl, .inl ⟨rfl, _, SqL.of hf4⟩, _, rfl, f, _, _, rfl, rfl, hf4, ?_, ns ++ [pl], _, _, rfl, k4.mut nf, ?_, ?_, ?_, places_add hP h1 h2⟩
      · rw [List.length_map]
        exact small1000 (by omega)
      · refine B4.mut nfb fun d ds hd hdl e => ?_
        subst e
        rw [hf4] at hd
        have e2 := congrArg List.length (HO.lst.inj (Option.some.inj hd))
        rw [List.length_map, List.length_map, hdl] at e2
        omega
      · rw [upd_same, List.map_append]
        rfl
      · rw [List.length_append, hlen]
        rfl
    refine ⟨_, rfl, Nat.zero_le _, fun z nz => ?_⟩
    have e3 : Ex H3 (upd H3 z (.lst [])) := Ex.new nz
    have B3z := B3.ex e3
    refine neII (ns := ns) (ms := []) (SqL.of (e3 _ _ hf3)) (SqL.of upd_same) ⟨_, rfl, ite2 (fun hne => ?_) (fun hne => ?_)⟩
    · have nne : ns ≠ [] := fun e => by
        subst e
        cases hne
      refine ⟨_, rfl, bs, b, 3, rfl, hb, B3z, by decide, fun c H4 _ _ k4 B4 => ?_⟩
      have hf4 : H4 f = some (.lst (ns.map V.int)) := k4 f _ nfb (e3 _ _ hf3)
      have kk4 : Kp bs H H4 := ((k2.trans k3).trans (Kp.ex e3)).trans k4
      refine ⟨rfl, _, rfl, ite2 (fun _ => ?_) (fun _ => ?_)⟩
      · have ha : ∃ y : Int, atI (ns.map V.int) (-1) = some (.int y) := by
          refine ⟨ns.getLast nne, ?_⟩
          have ez : ns.map V.int = (ns.dropLast.map V.int) ++ [V.int (ns.getLast nne)] := by
            rw [← List.map_singleton, ← List.map_append, List.dropLast_concat_getLast]
          rw [ez]
          exact atI_last _ _
        obtain ⟨y, ha⟩ := ha
        refine ⟨_, rfl, _, rfl, 1, rfl, f, _, -1, _, rfl, rfl, SqL.of hf4, ha, _, rfl, bs, b, 5, rfl, hb, B4, by decide, fun d H5 _ _ k5 B5 => ?_⟩
        refine ⟨y, d, rfl, rfl, y + d, 2, rfl, rfl, l, y + d - 2, rfl, 1, _, rfl, ?_⟩
        refine app _ H5 B5 (kk4.trans k5) (k5 f _ nfb hf4) ?_ ?_
        · split <;> split <;> omega
        · split <;> split <;> omega
      · exact app _ H4 B4 kk4 hf4 (by omega) (by omega)
    · exact app _ _ B3z ((k2.trans k3).trans (Kp.ex e3)) (e3 _ _ hf3) (by omega) (by omega)
  · rintro σ H2 ⟨ns, x, y, rfl, k2, B2, hf2, hlen, hP⟩
    exact ⟨_, rfl, q f H2 ns nf k2 B2 hf2 (by omega) hP⟩
theorem len__law_some_stands {K : PySem.W.Frag} {vs : List V} {H : Hp} {Q : VK} {E : XK} (h : sp__law_some_stands K vs H Q E) : vs.length = 3 := by
  obtain ⟨bs, b, l, m, rfl, _⟩ := h
  rfl
/-! ### paths: stretches, mirrors -/
theorem rng_nil {lo hi : Int} (h : hi ≤ lo) : rng lo hi = [] := by
  unfold rng
  have e : (hi - lo).toNat = 0 := by omega
  rw [e]
  rfl
theorem rng_cons {lo hi : Int} (h : lo < hi) : rng lo hi = lo :: rng (lo + 1) hi := by
  unfold rng
  have e : (hi - lo).toNat = (hi - (lo + 1)).toNat + 1 := by omega
  rw [e, List.range_succ_eq_map, List.map_cons, List.map_map]
  congr 1
  · exact Int.add_zero lo
  · refine List.map_congr_left fun k _ => ?_
    show lo + ((k + 1 : Nat) : Int) = lo + 1 + (k : Int)
    omega
theorem rng_snoc {lo hi : Int} (h : lo ≤ hi) : rng lo (hi + 1) = rng lo hi ++ [hi] := by
  unfold rng
  have e : (hi + 1 - lo).toNat = (hi - lo).toNat + 1 := by omega
  rw [e, List.range_succ, List.map_append]
  congr 1
  show [lo + (((hi - lo).toNat : Nat) : Int)] = [hi]
  congr 1
  omega
/-- what a convex wish leaves of a stretch is a stretch -/
theorem rng_convex {p : Int → Bool} (hp : ∀ x y z, x < y → y < z → p x = true → p z = true → p y = true) : ∀ (n : Nat) (lo hi : Int), (hi - lo).toNat = n → ∃ a b, (rng lo hi).filter p = rng a b
  | 0, lo, hi, hn => ⟨0, 0, by rw [rng_nil (by omega), rng_nil (by omega)]; rfl⟩
  | n + 1, lo, hi, hn => by
    have hlt : lo < hi := by omega
    obtain ⟨a, b, e⟩ := rng_convex hp n (lo + 1) hi (by omega)
    rw [rng_cons hlt]
    cases hl : p lo with
    | false =>
      rw [List.filter_cons_of_neg (by rw [hl]; decide)]
      exact ⟨a, b, e⟩
    | true =>
      rw [List.filter_cons_of_pos hl, e]
      by_cases hab : a < b
      · have ha : a ∈ (rng (lo + 1) hi).filter p := by
          rw [e]
          exact mem_rng.mpr ⟨by omega, hab⟩
        obtain ⟨m1, m2⟩ := List.mem_filter.mp ha
        have m3 := mem_rng.mp m1
        have q : p (lo + 1) = true := by
          by_cases z : a = lo + 1
          · rw [← z]
            exact m2
          · exact hp lo (lo + 1) a (by omega) (by omega) hl m2
        have m4 : lo + 1 ∈ rng a b := by
          rw [← e]
          exact List.mem_filter.mpr ⟨mem_rng.mpr ⟨by omega, by omega⟩, q⟩
        have m5 := mem_rng.mp m4
        have z : a = lo + 1 := by omega
        exact ⟨lo, b, by rw [rng_cons (show lo < b by omega), z]⟩
      · rw [rng_nil (by omega : b ≤ a)]
        exact ⟨lo, lo + 1, by rw [rng_cons (by omega), rng_nil (by omega)]⟩
theorem wordsOf_cons2 (t a b : Int) (r : List Int) : wordsOf t (a :: b :: r) = mv t a b :: wordsOf t (b :: r) := rfl
theorem wordsOf_takeS (t : Int) : ∀ (st : List Int) (i : Nat), (wordsOf t st).take i = wordsOf t (st.take (i + 1))
  | [], i => by simp [wordsOf]
  | [a], i => by
    rw [List.take_of_length_le (show ([a] : List Int).length ≤ i + 1 by simp)]
    show ([] : List Wo).take i = []
    rw [List.take_nil]
  | a :: b :: r, 0 => rfl
  | a :: b :: r, i + 1 => by
    rw [wordsOf_cons2, List.take_succ_cons, wordsOf_takeS t (b :: r) i]
    rfl
theorem wordsOf_one (t : Int) {st : List Int} (h : st.length ≤ 1) : wordsOf t st = [] := by
  match st, h with
  | [], _ => rfl
  | [_], _ => rfl
/-- one stand more -/
theorem wordsOf_step (t : Int) (st : List Int) (i : Nat) (h : i + 1 < st.length) : wordsOf t (st.take (i + 2)) = wordsOf t (st.take (i + 1)) ++ [mv t st[i] st[i + 1]] := by
  rw [← wordsOf_takeS, ← wordsOf_takeS, List.take_add_one, wordsOf_get t st i _ _ (List.getElem?_eq_getElem (by omega)) (List.getElem?_eq_getElem h)]
  rfl
theorem lies_step (l t0 : Int) (st : List Int) (i : Nat) (h : i + 1 < st.length) :
    lies l (st.take (i + 2)) ((wordsOf t0 st).take (i + 1)) = (lies l (st.take (i + 1)) ((wordsOf t0 st).take i)).filter fun t => decide (mv t st[i] st[i + 1] = mv t0 st[i] st[i + 1]) := by
  unfold lies
  rw [List.filter_filter]
  refine List.filter_congr fun t _ => ?_
  rw [wordsOf_takeS, wordsOf_takeS, wordsOf_step t st i h, wordsOf_step t0 st i h]
  have e : (wordsOf t (st.take (i + 1)) ++ [mv t st[i] st[i + 1]] = wordsOf t0 (st.take (i + 1)) ++ [mv t0 st[i] st[i + 1]]) ↔ (mv t st[i] st[i + 1] = mv t0 st[i] st[i + 1] ∧ wordsOf t (st.take (i + 1)) = wordsOf t0 (st.take (i + 1))) := by
    constructor
    · intro h2
      obtain ⟨h3, h4⟩ := List.append_inj' h2 rfl
      exact ⟨by simpa using h4, h3⟩
    · rintro ⟨h3, h4⟩
      rw [h3, h4]
  rw [← Bool.decide_and]
  exact decide_eq_decide.mpr e
theorem ab_cases (i : Int) : (0 ≤ i ∧ ab i = i) ∨ (i < 0 ∧ ab i = -i) := by
  unfold ab
  split
  · exact .inr ⟨by omega, rfl⟩
  · exact .inl ⟨by omega, rfl⟩
theorem mv_cases (t b n : Int) : (mv t b n = .warm ∧ ab (t - n) < ab (t - b)) ∨ (mv t b n = .cold ∧ ab (t - b) < ab (t - n)) ∨ (mv t b n = .same ∧ ab (t - b) = ab (t - n)) := by
  unfold mv word
  split
  · exact .inl ⟨rfl, by assumption⟩
  · split
    · exact .inr (.inl ⟨rfl, by assumption⟩)
    · exact .inr (.inr ⟨rfl, by omega⟩)
theorem mv_side (t b n : Int) : (mv t b n = .warm ∧ ((b < n ∧ b + n < 2 * t) ∨ (n < b ∧ 2 * t < b + n))) ∨ (mv t b n = .cold ∧ ((b < n ∧ 2 * t < b + n) ∨ (n < b ∧ b + n < 2 * t))) ∨ (mv t b n = .same ∧ (b = n ∨ 2 * t = b + n)) := by
  have h1 := ab_cases (t - b)
  have h2 := ab_cases (t - n)
  rcases mv_cases t b n with ⟨e, h⟩ | ⟨e, h⟩ | ⟨e, h⟩
  · exact .inl ⟨e, by omega⟩
  · exact .inr (.inl ⟨e, by omega⟩)
  · exact .inr (.inr ⟨e, by omega⟩)
theorem mv_warm {t b n : Int} : mv t b n = .warm ↔ (b < n ∧ b + n < 2 * t) ∨ (n < b ∧ 2 * t < b + n) := by
  rcases mv_side t b n with ⟨e, h⟩ | ⟨e, h⟩ | ⟨e, h⟩
  · exact ⟨fun _ => h, fun _ => e⟩
  · exact ⟨fun z => (by rw [e] at z; cases z), fun z => (by omega)⟩
  · exact ⟨fun z => (by rw [e] at z; cases z), fun z => (by omega)⟩
theorem mv_cold {t b n : Int} : mv t b n = .cold ↔ (b < n ∧ 2 * t < b + n) ∨ (n < b ∧ b + n < 2 * t) := by
  rcases mv_side t b n with ⟨e, h⟩ | ⟨e, h⟩ | ⟨e, h⟩
  · exact ⟨fun z => (by rw [e] at z; cases z), fun z => (by omega)⟩
  · exact ⟨fun _ => h, fun _ => e⟩
  · exact ⟨fun z => (by rw [e] at z; cases z), fun z => (by omega)⟩
theorem mv_same {t b n : Int} : mv t b n = .same ↔ b = n ∨ 2 * t = b + n := by
  rcases mv_side t b n with ⟨e, h⟩ | ⟨e, h⟩ | ⟨e, h⟩
  · exact ⟨fun z => (by rw [e] at z; cases z), fun z => (by omega)⟩
  · exact ⟨fun z => (by rw [e] at z; cases z), fun z => (by omega)⟩
  · exact ⟨fun _ => h, fun _ => e⟩
theorem mv_convex (w : Wo) (b n x y z : Int) (h1 : x < y) (h2 : y < z) (hx : mv x b n = w) (hz : mv z b n = w) : mv y b n = w := by
  cases w with
  | warm =>
    have := mv_warm.mp hx
    have := mv_warm.mp hz
    exact mv_warm.mpr (by omega)
  | cold =>
    have := mv_cold.mp hx
    have := mv_cold.mp hz
    exact mv_cold.mpr (by omega)
  | same =>
    have := mv_same.mp hx
    have := mv_same.mp hz
    exact mv_same.mpr (by omega)
theorem wordsOf_convex (x y z : Int) (h1 : x < y) (h2 : y < z) : ∀ (st : List Int) (ws : List Wo), wordsOf x st = ws → wordsOf z st = ws → wordsOf y st = ws
  | [], ws, hx, _ => hx
  | [_], ws, hx, _ => hx
  | a :: b :: r, ws, hx, hz => by
    rw [wordsOf_cons2] at hx hz ⊢
    cases ws with
    | nil => cases hx
    | cons w ws =>
      obtain ⟨p1, p2⟩ := List.cons.inj hx
      obtain ⟨q1, q2⟩ := List.cons.inj hz
      rw [mv_convex w a b x y z h1 h2 p1 q1, wordsOf_convex x y z h1 h2 (b :: r) ws p2 q2]
theorem lies_stretch (l : Int) (st : List Int) (ws : List Wo) : ∃ a b, lies l st ws = rng a b :=
  rng_convex (fun x y z h1 h2 hx hz => decide_eq_true (wordsOf_convex x y z h1 h2 st ws (of_decide_eq_true hx) (of_decide_eq_true hz))) _ 1 (l + 1) rfl
theorem mem_lies {l t : Int} {st : List Int} {ws : List Wo} : t ∈ lies l st ws ↔ (1 ≤ t ∧ t ≤ l) ∧ wordsOf t st = ws := by
  unfold lies
  rw [List.mem_filter, mem_rng, decide_eq_true_iff]
  constructor
  · rintro ⟨⟨h1, h2⟩, h3⟩
    exact ⟨⟨h1, by omega⟩, h3⟩
  · rintro ⟨⟨h1, h2⟩, h3⟩
    exact ⟨⟨h1, by omega⟩, h3⟩
theorem lies_all (l : Int) {st : List Int} (h : st.length ≤ 1) : lies l st [] = rng 1 (l + 1) := by
  unfold lies
  exact List.filter_eq_self.mpr fun t _ => decide_eq_true (wordsOf_one t h)
theorem mv_mirror (c t e l : Int) : mv (c - t) (c - e) (c - l) = mv t e l := by
  unfold mv
  have h1 : ab (c - t - (c - e)) = ab (t - e) := by
    unfold ab
    split <;> split <;> omega
  have h2 : ab (c - t - (c - l)) = ab (t - l) := by
    unfold ab
    split <;> split <;> omega
  rw [h1, h2]
theorem wordsOf_mirror (c t : Int) : ∀ st : List Int, wordsOf (c - t) (st.map fun p => c - p) = wordsOf t st
  | [] => rfl
  | [_] => rfl
  | a :: b :: r => by
    show mv (c - t) (c - a) (c - b) :: wordsOf (c - t) ((b :: r).map fun p => c - p) = _
    rw [mv_mirror, wordsOf_mirror c t (b :: r)]
    rfl
theorem rng_mirror : ∀ (n : Nat) (lo hi c : Int), (hi - lo).toNat = n → ((rng lo hi).reverse).map (fun x => c - x) = rng (c - hi + 1) (c - lo + 1)
  | 0, lo, hi, c, hn => by
    rw [rng_nil (by omega), rng_nil (by omega)]
    rfl
  | n + 1, lo, hi, c, hn => by
    rw [rng_cons (by omega), List.reverse_cons, List.map_append, rng_mirror n (lo + 1) hi c (by omega)]
    have e : c - (lo + 1) + 1 = c - lo := by omega
    rw [e, rng_snoc (by omega)]
    rfl
theorem lies_mirror (l : Int) (st : List Int) (ws : List Wo) : lies l (st.map fun p => l + 1 - p) ws = ((lies l st ws).reverse).map fun x => l + 1 - x := by
  have e : rng 1 (l + 1) = ((rng 1 (l + 1)).reverse).map fun x => l + 1 - x := by
    rw [rng_mirror _ 1 (l + 1) (l + 1) rfl]
    congr 1 <;> omega
  unfold lies
  rw [← List.filter_reverse]
  conv => lhs; rw [e]
  rw [List.filter_map]
  congr 1
  refine List.filter_congr fun t _ => ?_
  show decide (wordsOf (l + 1 - t) (st.map fun p => l + 1 - p) = ws) = decide (wordsOf t st = ws)
  rw [wordsOf_mirror]
def turn : Wo → Wo
  | .warm => .cold
  | .cold => .warm
  | .same => .same
theorem mv_turn (t e l : Int) : mv t l e = turn (mv t e l) := by
  unfold mv word
  by_cases h1 : ab (t - l) < ab (t - e)
  · rw [if_neg (by omega), if_pos h1, if_pos h1]
    rfl
  · by_cases h2 : ab (t - e) < ab (t - l)
    · rw [if_pos h2, if_neg h1, if_pos h2]
      rfl
    · rw [if_neg h2, if_neg h1, if_neg h1, if_neg h2]
      rfl
theorem wordsOf_snoc (t : Int) : ∀ (xs : List Int) (y x : Int), wordsOf t (xs ++ [y, x]) = wordsOf t (xs ++ [y]) ++ [mv t y x]
  | [], y, x => rfl
  | [a], y, x => rfl
  | a :: b :: r, y, x => by
    show mv t a b :: wordsOf t (b :: r ++ [y, x]) = (mv t a b :: wordsOf t (b :: r ++ [y])) ++ [mv t y x]
    rw [wordsOf_snoc t (b :: r) y x]
    rfl
theorem wordsOf_back (t : Int) : ∀ st : List Int, (wordsOf t st.reverse).reverse = (wordsOf t st).map turn
  | [] => rfl
  | [_] => rfl
  | a :: b :: r => by
    have e : (a :: b :: r).reverse = r.reverse ++ [b, a] := by simp
    have e2 : r.reverse ++ [b] = (b :: r).reverse := by simp
    rw [e, wordsOf_snoc, e2, List.reverse_append, wordsOf_back t (b :: r), wordsOf_cons2, List.map_cons, ← mv_turn]
    rfl
theorem in_ints (t : Int) (ns : List Int) : inV (V.int t) (ns.map V.int) = decide (t ∈ ns) := by
  unfold inV
  rw [List.any_map]
  induction ns with
  | nil => rfl
  | cons n r ih =>
    rw [List.any_cons, ih]
    show ((n == t) || decide (t ∈ r)) = decide (t ∈ n :: r)
    by_cases h1 : n = t
    · subst h1
      simp
    · have h2 : ¬ t = n := fun e => h1 e.symm
      simp [h1, h2]
theorem flat_ints (ns : List Int) : (ns.map V.int).all flatV = true := by
  rw [List.all_map, List.all_eq_true]
  intro n _
  rfl
theorem cut_to (xs : List V) (k : Nat) : cutV xs none (some (k : Int)) = xs.take k := by
  unfold cutV
  rw [HT.sIx_none, HT.sIx_nat, List.drop_zero, Nat.sub_zero]
  by_cases h : k ≤ xs.length
  · rw [Nat.min_eq_left h]
  · rw [Nat.min_eq_right (by omega), List.take_of_length_le (Nat.le_refl _), List.take_of_length_le (by omega)]
/-! ### more of wrong answers -/
theorem diffs_zero : ∀ {xs ys : List Wo}, xs.length = ys.length → (diffs xs ys = 0 ↔ xs = ys)
  | [], [], _ => ⟨fun _ => rfl, fun _ => rfl⟩
  | [], _ :: _, h => by cases h
  | _ :: _, [], h => by cases h
  | x :: xs, y :: ys, h => by
    have h' : xs.length = ys.length := Nat.succ.inj h
    have ih := diffs_zero h'
    unfold diffs at ih ⊢
    rw [List.zip_cons_cons, List.filter_cons]
    by_cases e : x = y
    · subst e
      simp at ih ⊢
      exact ih
    · simp [e]
theorem wr_zero {st : List Int} {ws : List Wo} (h : ws.length = st.length - 1) (t : Int) : wr st ws t = 0 ↔ wordsOf t st = ws := by
  unfold wr
  have := diffs_zero (xs := wordsOf t st) (ys := ws) (by rw [wordsOf_len, h])
  constructor
  · intro z
    exact this.mp (by omega)
  · intro z
    have := this.mpr z
    omega
theorem wr_nonneg (st : List Int) (ws : List Wo) (t : Int) : 0 ≤ wr st ws t := by
  unfold wr
  omega
theorem Least.nonneg {l : Int} {st : List Int} {ws : List Wo} {m : Int} (h : Least l st ws m) : 0 ≤ m := by
  obtain ⟨⟨t, _, rfl⟩, _⟩ := h
  exact wr_nonneg st ws t
theorem mem_wplaces {l t m : Int} {st : List Int} {ws : List Wo} : t ∈ wplaces l st ws m ↔ (1 ≤ t ∧ t ≤ l) ∧ wr st ws t = m := by
  unfold wplaces
  rw [List.mem_filter, mem_rng, decide_eq_true_iff]
  constructor
  · rintro ⟨⟨h1, h2⟩, h3⟩
    exact ⟨⟨h1, by omega⟩, h3⟩
  · rintro ⟨⟨h1, h2⟩, h3⟩
    exact ⟨⟨h1, by omega⟩, h3⟩
theorem wplaces_len (l : Int) (st : List Int) (ws : List Wo) (m : Int) : (wplaces l st ws m).length ≤ l.toNat := by
  unfold wplaces
  refine Nat.le_trans (List.length_filter_le _ _) ?_
  rw [rng_len]
  omega
theorem lies_wplaces {l : Int} {st : List Int} {ws : List Wo} (h : ws.length = st.length - 1) : lies l st ws = wplaces l st ws 0 := by
  unfold lies wplaces
  exact List.filter_congr fun t _ => decide_eq_decide.mpr (wr_zero h t).symm
theorem Least.zero {l : Int} {st : List Int} {ws : List Wo} {m : Int} (h : Least l st ws m) (hw : ws.length = st.length - 1) : m = 0 ↔ lies l st ws ≠ [] := by
  constructor
  · rintro rfl e
    obtain ⟨⟨t, ht, hz⟩, _⟩ := h
    have : t ∈ lies l st ws := mem_lies.mpr ⟨ht, (wr_zero hw t).mp hz⟩
    rw [e] at this
    cases this
  · intro e
    obtain ⟨t, ht⟩ := List.exists_mem_of_ne_nil _ e
    obtain ⟨⟨h1, h2⟩, h3⟩ := mem_lies.mp ht
    have := h.2 t h1 h2
    have z := (wr_zero hw t).mpr h3
    have := h.nonneg
    omega
theorem Least.some {l : Int} {st : List Int} {ws : List Wo} {m : Int} (h : Least l st ws m) : wplaces l st ws m ≠ [] := fun e => by
  obtain ⟨⟨t, ht, hz⟩, _⟩ := h
  have : t ∈ wplaces l st ws m := mem_wplaces.mpr ⟨ht, hz⟩
  rw [e] at this
  cases this
theorem diffs_append : ∀ {xs ys us vs : List Wo}, xs.length = ys.length → diffs (xs ++ us) (ys ++ vs) = diffs xs ys + diffs us vs := by
  intro xs ys us vs h
  unfold diffs
  rw [List.zip_append h, List.filter_append, List.length_append]
theorem diffs_one (x y : Wo) : diffs [x] [y] = if x = y then 0 else 1 := by
  cases x <;> cases y <;> rfl
theorem wordsOf_more (t x : Int) {st : List Int} (h : st ≠ []) : ∃ w, wordsOf t (st ++ [x]) = wordsOf t st ++ [w] := by
  obtain ⟨ys, y, rfl⟩ : ∃ ys y, st = ys ++ [y] := ⟨st.dropLast, st.getLast h, (List.dropLast_concat_getLast h).symm⟩
  rw [List.append_assoc]
  exact ⟨mv t y x, wordsOf_snoc t ys y x⟩
theorem wr_more {st : List Int} {ws : List Wo} (hne : st ≠ []) (hw : ws.length = st.length - 1) (x : Int) (w : Wo) (t : Int) : wr st ws t ≤ wr (st ++ [x]) (ws ++ [w]) t ∧ wr (st ++ [x]) (ws ++ [w]) t ≤ wr st ws t + 1 := by
  obtain ⟨u, hu⟩ := wordsOf_more t x hne
  unfold wr
  rw [hu, diffs_append (by rw [wordsOf_len, hw]), diffs_one]
  split <;> omega
theorem Least.more {l : Int} {st : List Int} {ws : List Wo} {m m' x : Int} {w : Wo} (h : Least l st ws m) (hne : st ≠ []) (hw : ws.length = st.length - 1) (h' : Least l (st ++ [x]) (ws ++ [w]) m') : m ≤ m' ∧ m' ≤ m + 1 := by
  obtain ⟨⟨t, ⟨a1, a2⟩, a3⟩, a4⟩ := h
  obtain ⟨⟨u, ⟨b1, b2⟩, b3⟩, b4⟩ := h'
  have c1 := wr_more hne hw x w t
  have c2 := wr_more hne hw x w u
  have c3 := a4 u b1 b2
  have c4 := b4 t a1 a2
  omega
theorem wr_mirror (c : Int) (st : List Int) (ws : List Wo) (t : Int) : wr (st.map fun p => c - p) ws (c - t) = wr st ws t := by
  unfold wr
  rw [wordsOf_mirror]
theorem Least.mirror {l : Int} {st : List Int} {ws : List Wo} {m : Int} (h : Least l st ws m) : Least l (st.map fun p => l + 1 - p) ws m := by
  obtain ⟨⟨t, ⟨a1, a2⟩, a3⟩, a4⟩ := h
  refine ⟨⟨l + 1 - t, ⟨by omega, by omega⟩, by rw [wr_mirror]; exact a3⟩, fun u h1 h2 => ?_⟩
  have := wr_mirror (l + 1) st ws (l + 1 - u)
  rw [show l + 1 - (l + 1 - u) = u by omega] at this
  rw [this]
  exact a4 _ (by omega) (by omega)
theorem wplaces_mirror (l : Int) (st : List Int) (ws : List Wo) (m : Int) : wplaces l (st.map fun p => l + 1 - p) ws m = ((wplaces l st ws m).reverse).map fun x => l + 1 - x := by
  have e : rng 1 (l + 1) = ((rng 1 (l + 1)).reverse).map fun x => l + 1 - x := by
    rw [rng_mirror _ 1 (l + 1) (l + 1) rfl]
    congr 1 <;> omega
  unfold wplaces
  rw [← List.filter_reverse]
  conv => lhs; rw [e]
  rw [List.filter_map]
  congr 1
  refine List.filter_congr fun t _ => ?_
  show decide (wr (st.map fun p => l + 1 - p) ws (l + 1 - t) = m) = decide (wr st ws t = m)
  rw [wr_mirror]
theorem diffs_step (xs ys : List Wo) (i : Nat) (x y : Wo) (hx : xs[i]? = some x) (hy : ys[i]? = some y) : diffs (xs.take (i + 1)) (ys.take (i + 1)) = diffs (xs.take i) (ys.take i) + if x = y then 0 else 1 := by
  rw [List.take_add_one, List.take_add_one, hx, hy]
  have h1 := (List.getElem?_eq_some_iff.mp hx).1
  have h2 := (List.getElem?_eq_some_iff.mp hy).1
  rw [diffs_append (by rw [List.length_take, List.length_take]; omega)]
  show _ + diffs [x] [y] = _
  rw [diffs_one]
theorem Kp.back {bs : List Addr} {H H' : Hp} {p : Addr} (k : Kp bs H H') (B : Bags bs H') (n : H' p = none) : H p = none := by
  cases h : H p with
  | none => rfl
  | some o =>
    have := k p o (B.fresh n) h
    rw [n] at this
    cases this
theorem sl_take {K : PySem.W.Frag} {H : Hp} {v : Addr} {xs : List V} {k : Nat} {Q : VK} (hv : H v = some (.tup xs)) (q : ∀ p H', Ex H H' → H' p = some (.tup (xs.take k)) → Q (.ref p) H') : rSlA K (.ref v) none (some (k : Int)) H Q := by
  refine ⟨v, xs, rfl, SqT.of hv, fun h => ?_, fun _ p np => ?_⟩
  · refine q v H (Ex.refl H) ?_
    have h2 := h.2
    have e1 : HT.sIx xs.length xs.length (some (k : Int)) = min k xs.length := HT.sIx_nat xs.length xs.length k
    rw [e1] at h2
    rw [List.take_of_length_le (by omega)]
    exact hv
  · refine q p _ (Ex.new np) ?_
    rw [upd_same, cut_to]
theorem notInI {K : PySem.W.Frag} {H : Hp} {t : Int} {p : Addr} {ns : List Int} {Q : VK} (h : SqL K H p (ns.map V.int) ∨ SqT K H p (ns.map V.int)) (q : Q (.bl (!decide (t ∈ ns))) H) : rIn K true (.int t) (.ref p) H Q :=
  ⟨p, _, rfl, h, rfl, flat_ints _, by rw [if_pos rfl, in_ints]; exact q⟩
theorem places_mirror {l : Int} {st : List Int} (h : Places l st) : Places l (st.map fun p => l + 1 - p) := fun n hn => by
  obtain ⟨p, hp, rfl⟩ := List.mem_map.mp hn
  have := h p hp
  omega
theorem word_at {c : Int} (h0 : 0 ≤ c) (h1 : c < 3) : ∃ u : Wo, atI ([Wo.warm, .cold, .same].map vW) c = some (vW u) := by
  have hc : c = 0 ∨ c = 1 ∨ c = 2 := by omega
  rcases hc with rfl | rfl | rfl
  · exact ⟨.warm, rfl⟩
  · exact ⟨.cold, rfl⟩
  · exact ⟨.same, rfl⟩
theorem Bags.mutL {bs : List Addr} {H : Hp} {p : Addr} {xs ys : List V} (h : Bags bs H) (n1 : p ∉ bs) (hp : H p = some (.lst xs)) (hl : xs.length ≠ 400) : Bags bs (upd H p (.lst ys)) :=
  h.mut n1 fun d ds hd hdl e => by
    subst e
    rw [hp] at hd
    have e2 := congrArg List.length (HO.lst.inj (Option.some.inj hd))
    rw [List.length_map, hdl] at e2
    exact hl e2
/-! ### t[::-1] of a tuple -/
theorem back_places (n : Nat) : Builtin.Slice.slicePlaces ((n : Int) - 1) (-1) (-1) = n := by
  unfold Builtin.Slice.slicePlaces
  rw [if_neg (by decide)]
  by_cases h : (n : Int) - 1 > -1
  · rw [if_pos h]
    have e : ((n : Int) - 1 - -1 - 1) / (- -1) + 1 = (n : Int) := by
      rw [show (- -1 : Int) = 1 by decide, Int.ediv_one]
      omega
    rw [e]
    exact Int.toNat_natCast n
  · rw [if_neg h]
    have e : n = 0 := by omega
    rw [e]
    rfl
theorem fm_congr {α β : Type} {f g : α → Option β} : ∀ {l : List α}, (∀ x ∈ l, f x = g x) → l.filterMap f = l.filterMap g
  | [], _ => rfl
  | a :: l, h => by
    rw [List.filterMap_cons, List.filterMap_cons, h a List.mem_cons_self, fm_congr fun x hx => h x (List.mem_cons_of_mem _ hx)]
theorem back_pick (its : List Value) : ((List.range its.length).filterMap fun (m : Nat) => its.toArray[(((its.length : Int) - 1) + (m : Int) * (-1)).toNat]?) = its.reverse := by
  have e : ((List.range its.length).filterMap fun (m : Nat) => its.toArray[(((its.length : Int) - 1) + (m : Int) * (-1)).toNat]?) = ((List.range its.length).map fun m => its.length - 1 - m).filterMap (its.toArray[·]?) := by
    rw [List.filterMap_map]
    refine fm_congr fun m hm => ?_
    have h2 := List.mem_range.mp hm
    have e3 : (((its.length : Int) - 1) + (m : Int) * (-1)).toNat = its.length - 1 - m := by omega
    rw [e3]
    rfl
  have e2 : its.length = its.toArray.size := List.size_toArray.symm
  have h := PySem.W.krv_all its.toArray
  rw [e, PySem.W.krv_range, List.filterMap_reverse]
  rw [← e2] at h
  rw [h]
section
variable {prog : Program} {w : World} {A : Around} {E : Value → Shared → Prop} {s : Shared}
theorem back_applied {sl : Addr} {vl vu vs : Value} {n : Nat} {Q : Int × Int × Nat → Shared → Prop} (hs : s.heap.IsSliceOf sl vl vu vs) (pl : IsPart vl none) (pu : IsPart vu none) (ps : IsPart vs (some (-1)))
    (h : Q ((n : Int) - 1, -1, n) s) : wpAny (model prog w) A (Builtin.Slice.sliceApplied (.ref sl) (pure (n : Int))) Q E s := by
  obtain ⟨ob, g1, _, g3⟩ := id hs
  unfold Builtin.Slice.sliceApplied Builtin.Slice.sliceFields
  refine wpAny_bind (wpAny_bind (wpAny_field g1 g3 (x := vl) rfl (wpAny_bind (wpAny_field g1 g3 (x := vu) rfl (wpAny_bind (wpAny_field g1 g3 (x := vs) rfl (wpAny_pure ?_)))))))
  refine wpAny_bind (HT.slicePart_ ps ?_)
  show wpAny _ _ (if ((-1 : Int) == 0) = true then _ else _) _ _ s
  rw [if_neg (by decide)]
  refine wpAny_bind (HT.slicePart_ pl (wpAny_bind (HT.slicePart_ pu (wpAny_bind (wpAny_pure ?_)))))
  show wpAny _ _ (pure ((n : Int) - 1, (-1 : Int), Builtin.Slice.slicePlaces ((n : Int) - 1) (-1) (-1))) _ _ s
  rw [back_places]
  exact wpAny_pure h
theorem back_item {t sl : Addr} {its : List Value} {vl vu vs : Value} {Q : Value → Shared → Prop} (ht : IsTup s.heap t its.toArray) (hs : s.heap.IsSliceOf sl vl vu vs) (pl : IsPart vl none) (pu : IsPart vu none) (ps : IsPart vs (some (-1)))
    (h : Q (.ref s.heap.objs.size) { s with heap := s.heap.push { cls := .type "tuple", data := .seq its.reverse.toArray } }) (hsz : its.length ≤ sizeLine) : wpAny (model prog w) A (getItem (.ref t) (.ref sl)) Q E s := by
  have hz : sizeOk (.seq its.reverse.toArray) := by
    show its.reverse.toArray.size ≤ sizeLine
    rw [List.size_toArray, List.length_reverse]
    exact hsz
  obtain ⟨ob, g1, g2, g3⟩ := id hs
  have hT : s.TypeIs (.ref sl) "slice" := ⟨ob, g1, g2⟩
  unfold getItem
  try with_reducible refine wpAny_holding ?_
  first | refine wpAny_bind (wpAny_pure ?_) | skip
  refine wpAny_bind (wpAny_sequenceKey ht.typeIs (by decide) ?_)
  refine wpAny_bind (wpAny_callSpecial?_slot (name := Str.ofString "__getitem__") ht.typeIs PyProof.Rows.slot_tuple_getitem (wpAny_call_entry PyProof.Rows.slot_tuple_getitem ht.typeIs entry_tuple_getitem ?_ (args_tuple_getitem _ _)))
  show wpAny _ _ (Builtin.Tuple.tupleItemsOf (.ref t) >>= _) _ _ s
  refine wpAny_bind (tupleItemsOf_ ht ?_)
  refine wpAny_bind (wpAny_typeOf hT ?_)
  rw [if_pos (by decide)]
  refine wpAny_bind (back_applied hs pl pu ps ?_)
  show wpAny _ _ (if (((its.toArray.size : Int) - 1) == 0 && (-1 : Int) == 1 && its.toArray.size == its.toArray.size) = true then _ else _) _ _ s
  have hno : ¬ ((((its.toArray.size : Int) - 1) == 0 && (-1 : Int) == 1 && its.toArray.size == its.toArray.size) = true) := by
    have e1 : ((-1 : Int) == 1) = false := by decide
    rw [e1, Bool.and_false, Bool.false_and]
    exact Bool.false_ne_true
  rw [if_neg hno]
  have ep : ((List.range its.toArray.size).filterMap fun (k : Nat) => its.toArray[(((its.toArray.size : Int) - 1) + (k : Int) * (-1)).toNat]?) = its.reverse := by
    rw [List.size_toArray]
    exact back_pick its
  rw [ep]
  first
    | exact wpAny_bind (m := Builtin.Tuple.tupleExact _) (wpAny_newObj_type (wpAny_pure ⟨_, rfl, wpAny_pure h⟩) hz)
    | exact wpAny_bind (m := Builtin.Tuple.tupleExact _) (wpAny_newObj_type (wpAny_bind (wpAny_pure (wpAny_pure ⟨_, rfl, wpAny_pure h⟩))) hz)
    | exact wpAny_bind (wpAny_bind (m := Builtin.Tuple.tupleExact _) (wpAny_newObj_type (wpAny_pure (wpAny_pure ⟨_, rfl, wpAny_pure h⟩)) hz))
    | exact wpAny_bind (wpAny_bind (m := Builtin.Tuple.tupleExact _) (wpAny_newObj_type (wpAny_pure ⟨_, rfl, wpAny_pure h⟩) hz))
end
def tRevT (K : PySem.W.Frag) (te : TE) : TE := fun σ H Q => te σ H fun x H1 => ∃ a xs, x = .ref a ∧ SqT K H1 a xs ∧ ∀ p, H1 p = none → Q (.ref p) (upd H1 p (.tup xs.reverse))
theorem pe_revT {X : Cx} {e : Expr} {te : TE} {k : Nat} {p1 p2 p3 pos : Pos} (he : PE X e te) : PE X (.Subscript e (.Slice none none (some (.UnaryOp .USub (.Constant (.int 1) k p1) p2)) p3) pos) (tRevT X.K te) := by
  refine ⟨fun pins s σ H Q I h => Subscript_ (thn (he.run pins s σ H _ I h) fun v s1 ⟨x, H1, I1, r1, a, xs, ex, hx, q⟩ => ?_)⟩
  subst ex
  cases r1
  have hm : PO X (some (.UnaryOp .USub (.Constant (.int 1) k p1) p2)) (tPart (tUn (rU fun i => .int (-i)) (tC (.int 1)))) := po_some (pe_un un_neg pe_int)
  refine wpAny_Slice (thn (po_none.run pins s1 σ H1 (fun o H2 => o = none ∧ H2 = H1) I1 ⟨rfl, rfl⟩) fun vl s2 ⟨o1, H2, I2, pl, z1, z2⟩ => ?_)
  subst z1 z2
  refine thn (po_none.run pins s2 σ H2 (fun o H3 => o = none ∧ H3 = H2) I2 ⟨rfl, rfl⟩) fun vu s3 ⟨o2, H3, I3, pu, z3, z4⟩ => ?_
  subst z3 z4
  refine thn (hm.run pins s3 σ H3 (fun o H4 => o = some (-1) ∧ H4 = H3) I3 ⟨1, rfl, -1, rfl, rfl, rfl⟩) fun vs s4 ⟨o3, H4, I4, ps, z5, z6⟩ => ?_
  subst z5 z6
  have J : Inv X pins σ H4 { s4 with heap := s4.heap.push { cls := .type "slice", data := .fields #[vl, vu, vs] } } := I4.kept (t' := s4.toks) fun b ob q => Heap.get?_push_of_some _ q
  obtain ⟨its, r, ht, hz⟩ := J.tuple hx
  show wpAny (model X.prog X.w) X.A (subscriptTail e (.Slice none none (some (.UnaryOp .USub (.Constant (.int 1) k p1) p2)) p3) (.ref a) (.ref s4.heap.objs.size)) (EP X pins σ Q) X.xe { s4 with heap := s4.heap.push { cls := .type "slice", data := .fields #[vl, vu, vs] } }
  refine tail_any (ops := [.ref a, .ref s4.heap.objs.size]) ht.typeIs PyProof.Rows.slot_tuple_getitem.lookup ?_ (by with_unfolding_all rfl)
  refine back_item ht (Heap.IsSliceOf.new _ vl vu vs) pl pu ps ?_ (by rw [← r.length]; exact hz)
  refine ⟨.ref _, _, J.laid (t' := s4.toks) (o := .tup xs.reverse) (fun b ob q => Heap.get?_push_of_some _ q) (Nat.le_refl _) ?_, rfl, q _ (J.hok.fresh (Nat.le_refl _))⟩
  exact ⟨by rw [List.length_reverse]; exact hz, _, r.reverse, IsTup.new _ _⟩
def sp_law (K : PySem.W.Frag) : Sp := fun vs H Q _ => ∃ (a : Addr) (ns : List Int), vs = [.ref a] ∧ SqL K H a (ns.map V.int) ∧ ns.length ≤ 63 ∧ ∀ H', Q (.bl true) H'
abbrev N_law : List Str := ["script", "bag", "length", "stands", "thing", "true", "words", "otherwise", "at", "least", "places", "left", "place", "one", "other", "more", "word", "later", "seen"]
def t_law (K : PySem.W.Frag) : TS := (tSeq (tFor (iList K (tCall (sp__law_bags K) [] E0 (tCons (tVar 0) (tCons (tC (.int 8)) tNil)))) (gName 1) (tSeq (tAsg (tOp (rI0 fun i j => .int (i + j)) (tC (.int 1)) (tCall (sp__law_take K) [] E0 (tCons (tVar 1) (tCons (tC (.int 60)) tNil)))) (gName 2))
  (tSeq (tPar 3 4 (tCons (tCall (sp__law_some_stands K) [] E0 (tCons (tVar 1) (tCons (tVar 2) (tCons (tC (.int 39)) tNil)))) (tCons (tOp (rI0 fun i j => .int (i + j)) (tC (.int 1)) (tCall (sp__law_take K) [] E0 (tCons (tVar 1) (tCons (tVar 2) tNil)))) tNil)))
  (tSeq (tAsg (tCall (sp_answers_to K) [] E0 (tCons (tVar 2) (tCons (tVar 4) (tCons (tVar 3) tNil)))) (gName 5))
  (tSeq (tPar 6 7 (tCons (tCB (rListOf K) (tCons (tVar 5) tNil)) (tCons (tC (.int 0)) tNil)))
  (tSeq (tFor (iRng1 (tCons (tCB (rLenQ K) (tCons (tVar 6) tNil)) tNil)) (gName 8) (Evl.tCut (tIfS (tTest (tOp rEq (tCall (sp__law_take K) [] E0 (tCons (tVar 1) (tCons (tC (.int 6)) tNil))) (tC (.int 0)))) (tAsg (tOp (rIxL K) (tLst (tCons (tC (.str (Str.ofString "warm"))) (tCons (tC (.str (Str.ofString "cold"))) (tCons (tC (.str (Str.ofString "same"))) tNil)))) (tCall (sp__law_take K) [] E0 (tCons (tVar 1) (tCons (tC (.int 3)) tNil)))) (gSub (tVar 6) (tVar 8) rSetL)) tNext)
  (tAsg (tOp (rI0 fun i j => .int (i + j)) (tVar 7) (tCB rInt1 (tCons (tOp rNe (tOp (rIxL K) (tVar 6) (tVar 8)) (tOp (rIxL K) (tVar 5) (tVar 8))) tNil))) (gName 7))))
  (tSeq (tAsg (tCall (sp_fewest_wrong K) [] E0 (tCons (tVar 2) (tCons (tVar 3) (tCons (tVar 6) tNil)))) (gTup K 2 (gCons (gName 9) (gCons (gName 10) gNil))))
  (tSeq (tAsg (tCall (sp_can_lie K) [] E0 (tCons (tVar 2) (tCons (tVar 3) (tCons (tVar 6) tNil)))) (gName 11))
  (tSeq (tIfS (tOr (tTest (tOp rNe (tOp rEq (tVar 9) (tC (.int 0))) (tOp (rNeD K) (tVar 11) (tTup tNil)))) (tOr (tAnd (tTest (tOp rEq (tVar 9) (tC (.int 0)))) (tTest (tOp (rNeD K) (tVar 11) (tVar 10)))) (tTest (tOp (rI0 fun i j => .bl (decide (j < i))) (tVar 9) (tVar 7))))) (tRet (tC (.bl false))) tNext)
  (tSeq (tIfS (tOr (tAnd (tTest (tOp rEq (tVar 9) (tVar 7))) (tTest (tOp (rIn K true) (tVar 4) (tVar 10)))) (tTest (tOp (rEqD K) (tVar 10) (tTup tNil)))) (tRet (tC (.bl false))) tNext)
  (tSeq (tFor (iTup K (tSl (rSlA K) (tVar 10) tNoPart (tPart (tC (.int 9))))) (gName 12) (tIfS (tTest (tOp rNe (tCB (rLenQ K) (tCons (tLc (iZip K (tCons (tCall (sp_answers_to K) [] E0 (tCons (tVar 2) (tCons (tVar 12) (tCons (tVar 3) tNil)))) (tCons (tVar 6) tNil))) (gTup K 2 (gCons (gName 13) (gCons (gName 14) gNil))) (tTest (tOp rNe (tVar 13) (tVar 14))) (tC (.int 1)) [13, 14]) tNil)) (tVar 9))) (tRet (tC (.bl false))) tNext))
  (Evl.tCut (tIfS (tTest (tOp (rNeD K) (tVar 3) (tLst tNil))) (tSeq (tPar 15 16 (tCons (tOp (rI0 fun i j => .int (i + j)) (tC (.int 1)) (tCall (sp__law_take K) [] E0 (tCons (tVar 1) (tCons (tVar 2) tNil)))) (tCons (tOp (rIxL K) (tLst (tCons (tC (.str (Str.ofString "warm"))) (tCons (tC (.str (Str.ofString "cold"))) (tCons (tC (.str (Str.ofString "same"))) tNil)))) (tCall (sp__law_take K) [] E0 (tCons (tVar 1) (tCons (tC (.int 3)) tNil)))) tNil)))
  (tSeq (tAsg (tOp (rIxT K) (tCall (sp_fewest_wrong K) [] E0 (tCons (tVar 2) (tCons (tOp rCat (tVar 3) (tLst (tCons (tVar 15) tNil))) (tCons (tOp rCat (tVar 6) (tLst (tCons (tVar 16) tNil))) tNil)))) (tC (.int 0))) (gName 17))
  (tIfS (tNot (tTest (tChain (rI0 fun i j => .bl (decide (i ≤ j))) (rI0 fun i j => .bl (decide (i ≤ j))) (tVar 9) (tVar 17) (tOp (rI0 fun i j => .int (i + j)) (tVar 9) (tC (.int 1)))))) (tRet (tC (.bl false))) tNext))) tNext)
  (tSeq (tAsg (tLc (iList K (tVar 3)) (gName 12) tYes (tOp (rI0 fun i j => .int (i - j)) (tOp (rI0 fun i j => .int (i + j)) (tVar 2) (tC (.int 1))) (tVar 12)) [12]) (gName 18))
  (tIfS (tTest (tOp (rNeD K) (tCall (sp_fewest_wrong K) [] E0 (tCons (tVar 2) (tCons (tVar 18) (tCons (tVar 6) tNil)))) (tTup (tCons (tVar 9) (tCons (tCB (rTupleOf K) (tCons (tLc (iTup K (tRevT K (tVar 10))) (gName 12) tYes (tOp (rI0 fun i j => .int (i - j)) (tOp (rI0 fun i j => .int (i + j)) (tVar 2) (tC (.int 1))) (tVar 12)) [12]) tNil)) tNil))))) (tRet (tC (.bl false))) tNext))))))))))))))
  (tRet (tC (.bl true))))
theorem vw_at {ws : List Wo} {i : Nat} (h : i < ws.length) : atI (ws.map vW) (0 + (i : Int)) = some (vW ws[i]) := at_of (j := i) (by omega) (by
  rw [List.getElem?_map, List.getElem?_eq_getElem h]
  rfl)
theorem pure_law {K : PySem.W.Frag} {vs : List V} {H : Hp} {Q : VK} {E : XK} (h : sp_law K vs H Q E) : t_law K { nx := fun _ H' => Q .non H', rt := Q } (start N_law vs) H := by
  obtain ⟨a, ns, rfl, hS, hlen, q⟩ := h
  refine ⟨_, rfl, a, ns, 8, rfl, hS, by decide, by decide, fun L H1 bs nL e1 hL hB nb => ?_⟩
  refine ⟨L, rfl, ⟨_, SqL.of hL⟩, ?_⟩
  have nLb : L ∉ bs := bags_list hB hL
  refine for_list (K := K) (a := L) (xs := bs.map V.ref) (fun i σ H' => ∃ x1 x2 x3 x4 x5 x6 x7 x8 x9 x10 x11 x12 x13 x14 x15 x16 x17 x18 : Option V, σ = [some (.ref a), x1, x2, x3, x4, x5, x6, x7, x8, x9, x10, x11, x12, x13, x14, x15, x16, x17, x18] ∧ Kp bs H1 H' ∧ Bags bs H')
    ⟨none, none, none, none, none, none, none, none, none, none, none, none, none, none, none, none, none, none, rfl, Kp.refl bs H1, hB⟩ (fun i σ H' _ ⟨_, _, _, _, _, _, _, _, _, _, _, _, _, _, _, _, _, _, _, k, _⟩ => SqL.of (k L _ nLb hL)) ?_ ?_
  · rintro i x σ H2 hx ⟨x1, x2, x3, x4, x5, x6, x7, x8, x9, x10, x11, x12, x13, x14, x15, x16, x17, x18, rfl, k2, B2⟩
    obtain ⟨b, hb, rfl⟩ := ref_at hx
    refine ⟨_, rfl, bs, b, 60, rfl, hb, B2, by decide, fun l0 H3 hl0 hl1 k3 B3 => ⟨1, l0, rfl, rfl, ?_⟩⟩
    have hl1 : 1 ≤ 1 + l0 := by omega
    have hl60 : 1 + l0 ≤ 60 := by omega
    dsimp only
    generalize 1 + l0 = l at hl1 hl60 ⊢
    refine ⟨_, rfl, _, rfl, bs, b, l, 39, rfl, hb, B3, hl1, by decide, by decide, fun s H4 st ns4 k4 B4 hs4 hst hP => ?_⟩
    have hst40 : st.length ≤ 40 := by omega
    have nsb : s ∉ bs := B3.fresh ns4
    refine ⟨_, rfl, _, rfl, bs, b, l, rfl, hb, B4, by omega, fun t0 H5 ht0 ht1 k5 B5 => ?_⟩
    have hs5 := k5 s _ nsb hs4
    refine ⟨1, t0, rfl, rfl, _, _, rfl, ?_⟩
    have ht1 : 1 ≤ 1 + t0 := by omega
    have htl : 1 + t0 ≤ l := by omega
    dsimp only
    generalize 1 + t0 = t at ht1 htl ⊢
    have k15 : Kp bs H1 H5 := ((k2.trans k3).trans k4).trans k5
    refine ⟨_, rfl, _, rfl, _, rfl, l, t, s, st, rfl, ht1, htl, hl60, hs5, hst40, hP, fun w0 H6 nw0 e6 hw0 => ?_⟩
    have hs6 := e6 _ _ hs5
    have B6 := B5.ex e6
    have nw0b : w0 ∉ bs := B5.fresh nw0
    refine ⟨_, rfl, w0, _, rfl, .inl (SqL.of hw0), fun w nw => ⟨_, _, rfl, ?_⟩⟩
    have e7 : Ex H6 (upd H6 w (.lst ((wordsOf t st).map vW))) := Ex.new nw
    have hw7 : (upd H6 w (.lst ((wordsOf t st).map vW))) w = some (.lst ((wordsOf t st).map vW)) := upd_same
    have k16 : Kp bs H1 H6 := k15.trans (Kp.ex e6)
    have n1w : H1 w = none := k16.back B6 nw
    have nwb : w ∉ bs := B6.fresh nw
    have nsw : s ≠ w := ne_of_none hs6 nw
    have nw0w : w0 ≠ w := ne_of_none hw0 nw
    have k17 : Kp bs H1 (upd H6 w (.lst ((wordsOf t st).map vW))) := k16.trans (Kp.ex e7)
    have B7 := B6.ex e7
    have hs7 := e7 _ _ hs6
    have hw07 := e7 _ _ hw0
    generalize upd H6 w (.lst ((wordsOf t st).map vW)) = H7 at hw7 k17 B7 hs7 hw07 ⊢
    have hwl : (wordsOf t st).length = st.length - 1 := wordsOf_len _ _
    have eln : (((wordsOf t st).map vW).length : Int) = ((wordsOf t st).length : Int) := by rw [List.length_map]
    refine ⟨_, rfl, w, _, rfl, .inl (SqL.of hw7), _, rfl, by omega, by omega, ?_⟩
    refine for_range (lo := 0) (n := (((wordsOf t st).map vW).length : Int).toNat) (fun i σ H' => ∃ (x8 : Option V) (us : List Wo), σ = [some (.ref a), some (.ref b), some (.int l), some (.ref s), some (.int t), some (.ref w0), some (.ref w), some (.int (diffs ((wordsOf t st).take i) (us.take i) : Nat)), x8, x9, x10, x11, x12, x13, x14, x15, x16, x17, x18] ∧ Kp bs H1 H' ∧ Bags bs H' ∧
      H' s = some (.lst (st.map V.int)) ∧ H' w0 = some (.lst ((wordsOf t st).map vW)) ∧ H' w = some (.lst (us.map vW)) ∧ us.length = st.length - 1)
      ⟨x8, wordsOf t st, rfl, k17, B7, hs7, hw07, hw7, hwl⟩ ?_ ?_
    · clear k17 B7 hs7 hw07 hw7
      rintro j σ H8 hj ⟨y8, us, rfl, k8, B8, hs8, hw08, hw8, hul⟩
      have hj1 : j < (wordsOf t st).length := by omega
      have hj2 : j < us.length := by omega
      refine ⟨fun σ H' => ∃ us2 : List Wo, σ = [some (.ref a), some (.ref b), some (.int l), some (.ref s), some (.int t), some (.ref w0), some (.ref w), some (.int (diffs ((wordsOf t st).take j) (us2.take j) : Nat)), some (.int (0 + (j : Int))), x9, x10, x11, x12, x13, x14, x15, x16, x17, x18] ∧ Kp bs H1 H' ∧ Bags bs H' ∧
        H' s = some (.lst (st.map V.int)) ∧ H' w0 = some (.lst ((wordsOf t st).map vW)) ∧ H' w = some (.lst (us2.map vW)) ∧ us2.length = st.length - 1, ?_, ?_⟩
      · refine ⟨_, rfl, bs, b, 6, rfl, hb, B8, by decide, fun c H9 _ _ k9 B9 => ⟨rfl, _, rfl, ite2 (fun _ => ?_) (fun _ => ?_)⟩⟩
        · have hs9 := k9 _ _ nsb hs8
          have hw09 := k9 _ _ nw0b hw08
          have hw9 := k9 _ _ nwb hw8
          refine ⟨by show 3 ≤ sizeLine; decide, fun y ny => ?_⟩
          have e10 : Ex H9 (upd H9 y (.lst ([Wo.warm, .cold, .same].map vW))) := Ex.new ny
          have nyb : y ∉ bs := B9.fresh ny
          refine ⟨_, rfl, bs, b, 3, rfl, hb, B9.ex e10, by decide, fun c2 H11 hc0 hc1 k11 B11 => ?_⟩
          have hy11 : H11 y = some (.lst ([Wo.warm, .cold, .same].map vW)) := k11 y _ nyb upd_same
          have hw11 := k11 _ _ nwb (e10 _ _ hw9)
          have hs11 := k11 _ _ nsb (e10 _ _ hs9)
          have hw011 := k11 _ _ nw0b (e10 _ _ hw09)
          obtain ⟨u, hu⟩ := word_at hc0 hc1
          refine ⟨y, _, c2, vW u, rfl, rfl, SqL.of hy11, hu, ?_⟩
          refine ⟨_, rfl, _, rfl, w, us.map vW, _, j, rfl, rfl, hw11, ?_, us.set j u, ?_, (((k8.trans k9).trans (Kp.ex e10)).trans k11).mut n1w, ?_, ?_, ?_, ?_, ?_⟩
          · rw [Int.zero_add]
            exact Evl.ixN_nat (by rw [List.length_map]; exact hj2)
          · rw [List.take_set_of_le (Nat.le_refl j)]
            rfl
          · refine B11.mutL nwb hw11 ?_
            rw [List.length_map]
            omega
          · rw [upd_ne nsw]
            exact hs11
          · rw [upd_ne nw0w]
            exact hw011
          · rw [upd_same, List.map_set]
          · rw [List.length_set]
            exact hul
        · exact ⟨us, rfl, k8.trans k9, B9, k9 _ _ nsb hs8, k9 _ _ nw0b hw08, k9 _ _ nwb hw8, hul⟩
      · clear hj2 k8 B8 hs8 hw08 hw8 hul
        rintro σ H9 ⟨us2, rfl, k9, B9, hs9, hw09, hw9, hul⟩
        have hj2 : j < us2.length := by omega
        refine ⟨_, rfl, _, rfl, _, rfl, w, _, _, _, rfl, rfl, SqL.of hw9, vw_at hj2, _, rfl, _, rfl, w0, _, _, _, rfl, rfl, SqL.of hw09, vw_at hj1, rfl, ?_⟩
        refine .inr ⟨_, rfl, _, _, rfl, rfl, some (.int (0 + (j : Int))), us2, ?_, k9, B9, hs9, hw09, hw9, hul⟩
        have hd := diffs_step (wordsOf t st) us2 j _ _ (List.getElem?_eq_getElem hj1) (List.getElem?_eq_getElem hj2)
        rw [hd]
        by_cases hxy : (wordsOf t st)[j] = us2[j]
        · rw [if_pos hxy, hxy, decide_eq_true rfl]
          rfl
        · have hne : ¬ vW us2[j] = vW (wordsOf t st)[j] := fun z => hxy (vW_inj z).symm
          rw [if_neg hxy, decide_eq_false hne]
          rfl
    · clear k17 B7 hs7 hw07 hw7
      rintro σ H8 ⟨y8, us, rfl, k8, B8, hs8, hw08, hw8, hul⟩
      have efull : diffs ((wordsOf t st).take (((wordsOf t st).map vW).length : Int).toNat) (us.take (((wordsOf t st).map vW).length : Int).toNat) = diffs (wordsOf t st) us := by
        rw [List.take_of_length_le (by omega), List.take_of_length_le (by omega)]
      rw [efull]
      refine ⟨_, rfl, _, rfl, _, rfl, l, s, w, st, us, rfl, hl1, hl60, hs8, hst40, hP, hw8, hul, fun H9 u v m e9 hm hu hv => ?_⟩
      refine ⟨u, _, rfl, SqT.of hu, rfl, _, _, rfl, _, [], rfl, rfl, ?_⟩
      refine ⟨_, rfl, _, rfl, _, rfl, l, s, w, st, us, rfl, hl1, hl60, e9 _ _ hs8, hst40, hP, e9 _ _ hw8, hul, fun f H10 nf e10 hf => ?_⟩
      have hv10 := e10 _ _ hv
      have hz := hm.zero hul
      have hm0 := hm.nonneg
      have hmo : m ≤ (diffs (wordsOf t st) us : Nat) := hm.2 t ht1 htl
      have e810 := e9.trans e10
      refine ⟨_, rfl, rfl, _, rfl, Nat.zero_le _, fun z nz => ?_⟩
      have e11 : Ex H10 (upd H10 z (.tup [])) := Ex.new nz
      have hf11 := e11 _ _ hf
      have hv11 := e11 _ _ hv10
      refine neTT (ns := lies l st us) (ms := []) (SqT.of hf11) (SqT.of upd_same) ⟨rfl, _, rfl, ?_⟩
      have e811 := e810.trans e11
      generalize upd H10 z (.tup []) = H11 at hf11 hv11 e811 ⊢
      have hb1 : decide (V.bl (decide (V.int m = V.int 0)) = V.bl (!decide (lies l st us = []))) = true := by
        refine decide_eq_true ?_
        by_cases hmz : m = 0
        · have h2 := hz.mp hmz
          rw [hmz, decide_eq_true rfl, decide_eq_false h2]
          rfl
        · have h2 : lies l st us = [] := by
            by_cases h3 : lies l st us = []
            · exact h3
            · exact absurd (hz.mpr h3) hmz
          have h3 : ¬ V.int m = V.int 0 := fun z => hmz (V.int.inj z)
          rw [decide_eq_false h3, h2, decide_eq_true rfl]
          rfl
      rw [hb1]
      refine iteF ?_
      have key1 : ∀ Q2 : Bool → Hp → Prop, Q2 false H11 → tAnd (tTest (tOp rEq (tVar 9) (tC (.int 0)))) (tTest (tOp (rNeD K) (tVar 11) (tVar 10)))
          [some (.ref a), some (.ref b), some (.int l), some (.ref s), some (.int t), some (.ref w0), some (.ref w), some (.int (diffs (wordsOf t st) us : Nat)), y8, some (.int m), some (.ref v), some (.ref f), x12, x13, x14, x15, x16, x17, x18] H11 Q2 := fun Q2 q2 => by
        refine ⟨_, rfl, rfl, _, rfl, ite2 (fun hc => ?_) (fun hc => q2)⟩
        have hmz : m = 0 := V.int.inj (of_decide_eq_true hc)
        refine ⟨_, rfl, _, rfl, neTT (ns := lies l st us) (ms := wplaces l st us m) (SqT.of hf11) (SqT.of hv11) ⟨_, rfl, ?_⟩⟩
        rw [hmz, lies_wplaces hul, decide_eq_true rfl]
        exact q2
      dsimp only [tOr]
      refine key1 _ (iteF ?_)
      have hlt : ¬ ((diffs (wordsOf t st) us : Nat) : Int) < m := by omega
      refine ⟨_, rfl, _, rfl, _, _, rfl, rfl, _, rfl, ?_⟩
      rw [decide_eq_false hlt]
      refine iteF ?_
      have key2 : ∀ Q2 : Bool → Hp → Prop, Q2 false H11 → tAnd (tTest (tOp rEq (tVar 9) (tVar 7))) (tTest (tOp (rIn K true) (tVar 4) (tVar 10)))
          [some (.ref a), some (.ref b), some (.int l), some (.ref s), some (.int t), some (.ref w0), some (.ref w), some (.int (diffs (wordsOf t st) us : Nat)), y8, some (.int m), some (.ref v), some (.ref f), x12, x13, x14, x15, x16, x17, x18] H11 Q2 := fun Q2 q2 => by
        refine ⟨_, rfl, _, rfl, rfl, _, rfl, ite2 (fun hc => ?_) (fun hc => q2)⟩
        have hmz : m = (diffs (wordsOf t st) us : Nat) := V.int.inj (of_decide_eq_true hc)
        have hin : t ∈ wplaces l st us m := mem_wplaces.mpr ⟨⟨ht1, htl⟩, hmz.symm⟩
        refine ⟨_, rfl, _, rfl, notInI (ns := wplaces l st us m) (.inr (SqT.of hv11)) ⟨_, rfl, ?_⟩⟩
        rw [decide_eq_true hin]
        exact q2
      dsimp only [tNext, tSeq, tIfS, tOr]
      refine key2 _ (iteF ?_)
      refine ⟨_, rfl, Nat.zero_le _, fun z2 nz2 => ?_⟩
      have e12 : Ex H11 (upd H11 z2 (.tup [])) := Ex.new nz2
      refine eqTT (ns := wplaces l st us m) (ms := []) (SqT.of (e12 _ _ hv11)) (SqT.of upd_same) ⟨_, rfl, ?_⟩
      rw [decide_eq_false hm.some]
      refine iteF ?_
      have e812 := e811.trans e12
      have hv12 := e12 _ _ hv11
      generalize upd H11 z2 (.tup []) = H12 at e812 hv12 ⊢
      have hs12 := e812 _ _ hs8
      have hw12 := e812 _ _ hw8
      refine ⟨_, rfl, 9, rfl, sl_take (k := 9) hv12 fun p9 H13 e13 hp9 => ?_⟩
      rw [← List.map_take] at hp9
      refine ⟨p9, rfl, ⟨_, SqT.of hp9⟩, ?_⟩
      refine for_tup (K := K) (a := p9) (xs := ((wplaces l st us m).take 9).map V.int) (fun i σ H' => ∃ x12 x13 x14 : Option V, σ = [some (.ref a), some (.ref b), some (.int l), some (.ref s), some (.int t), some (.ref w0), some (.ref w), some (.int (diffs (wordsOf t st) us : Nat)), y8, some (.int m), some (.ref v), some (.ref f), x12, x13, x14, x15, x16, x17, x18] ∧ Ex H13 H')
        ⟨x12, x13, x14, rfl, Ex.refl H13⟩ (fun i σ H' _ ⟨_, _, _, _, k⟩ => SqT.of (k p9 _ hp9)) ?_ ?_
      · rintro j y σ H14 hy ⟨y12, y13, y14, rfl, e14⟩
        obtain ⟨pl, hpl, rfl⟩ := int_at hy
        have hpm := mem_wplaces.mp (List.mem_of_mem_take (List.mem_of_getElem? hpl))
        have hs14 := e14 _ _ (e13 _ _ hs12)
        have hw14 := e14 _ _ (e13 _ _ hw12)
        refine ⟨_, rfl, _, rfl, _, rfl, l, pl, s, st, rfl, hpm.1.1, hpm.1.2, hl60, hs14, hst40, hP, fun r H15 nr e15 hr => ?_⟩
        have hw15 := e15 _ _ hw14
        refine ⟨_, rfl, r, w, _, _, rfl, SqL.of hr, SqL.of hw15, fun c nc => ?_⟩
        refine lc_diffs (K := K) (xs := wordsOf pl st) (ys := us) (by rw [wordsOf_len]; exact hul.symm) (by rw [wordsOf_len]; omega) (by decide) (by simp) (by simp) (fun _ _ => rfl) (SqL.of hr) (SqL.of hw15) nc fun H16 e16 hc => ?_
        refine ⟨c, _, rfl, .inl (SqL.of hc), _, rfl, rfl, _, rfl, ?_⟩
        have ed : V.int ((List.replicate (diffs (wordsOf pl st) us) (V.int 1)).length : Nat) = V.int m := by
          rw [List.length_replicate]
          exact congrArg V.int hpm.2
        rw [decide_eq_true ed]
        exact iteF ⟨_, _, _, rfl, (e14.trans e15).trans e16⟩
      · rintro σ H14 ⟨y12, y13, y14, rfl, e14⟩
        have e1214 := e13.trans e14
        have hs14 := e1214 _ _ hs12
        have hw14 := e1214 _ _ hw12
        have hv14 := e1214 _ _ hv12
        have e814 := e812.trans e1214
        have k14 : Kp bs H1 H14 := k8.trans (Kp.ex e814)
        have B14 := B8.ex e814
        have nvb : v ∉ bs := fun z => by
          obtain ⟨d, c, ds, h1, _⟩ := B14 v z
          rw [hv14] at h1
          cases h1
        refine ⟨fun σ H' => ∃ x15 x16 x17 : Option V, σ = [some (.ref a), some (.ref b), some (.int l), some (.ref s), some (.int t), some (.ref w0), some (.ref w), some (.int (diffs (wordsOf t st) us : Nat)), y8, some (.int m), some (.ref v), some (.ref f), y12, y13, y14, x15, x16, x17, x18] ∧ Kp bs H1 H' ∧ Bags bs H' ∧ H' s = some (.lst (st.map V.int)) ∧ H' w = some (.lst (us.map vW)) ∧ H' v = some (.tup ((wplaces l st us m).map V.int)), ?_, ?_⟩
        · refine ⟨_, rfl, Nat.zero_le _, fun z3 nz3 => ?_⟩
          have e15 : Ex H14 (upd H14 z3 (.lst [])) := Ex.new nz3
          refine neII (ns := st) (ms := []) (SqL.of (e15 _ _ hs14)) (SqL.of upd_same) ⟨_, rfl, ite2 (fun hne => ?_) (fun hne => ?_)⟩
          · have hne : st ≠ [] := fun z => by
              rw [z] at hne
              cases hne
            have B15 := B14.ex e15
            have k15' : Kp bs H1 (upd H14 z3 (.lst [])) := k14.trans (Kp.ex e15)
            have hs15 := e15 _ _ hs14
            have hw15 := e15 _ _ hw14
            have hv15 := e15 _ _ hv14
            generalize upd H14 z3 (.lst []) = H15 at B15 k15' hs15 hw15 hv15 ⊢
            refine ⟨_, rfl, _, rfl, bs, b, l, rfl, hb, B15, by omega, fun c H16 hc0 hc1 k16 B16 => ⟨1, c, rfl, rfl, by show 3 ≤ sizeLine; decide, fun y ny => ?_⟩⟩
            have hs16 := k16 _ _ nsb hs15
            have hw16 := k16 _ _ nwb hw15
            have hv16 := k16 _ _ nvb hv15
            have e17 : Ex H16 (upd H16 y (.lst ([Wo.warm, .cold, .same].map vW))) := Ex.new ny
            have nyb : y ∉ bs := B16.fresh ny
            refine ⟨_, rfl, bs, b, 3, rfl, hb, B16.ex e17, by decide, fun c2 H18 hd0 hd1 k18 B18 => ?_⟩
            have hy18 : H18 y = some (.lst ([Wo.warm, .cold, .same].map vW)) := k18 y _ nyb upd_same
            obtain ⟨wd, hwd⟩ := word_at hd0 hd1
            have hs18 := k18 _ _ nsb (e17 _ _ hs16)
            have hw18 := k18 _ _ nwb (e17 _ _ hw16)
            have hv18 := k18 _ _ nvb (e17 _ _ hv16)
            have k118 := ((k15'.trans k16).trans (Kp.ex e17)).trans k18
            refine ⟨y, _, c2, vW wd, rfl, rfl, SqL.of hy18, hwd, _, _, rfl, ?_⟩
            refine ⟨_, rfl, _, rfl, _, rfl, by show 1 ≤ sizeLine; decide, fun g1 ng1 => ?_⟩
            have e19 : Ex H18 (upd H18 g1 (.lst [.int (1 + c)])) := Ex.new ng1
            refine ⟨s, g1, _, _, rfl, rfl, e19 _ _ hs18, upd_same, ?_, fun g2 ng2 => ?_⟩
            · rw [List.length_map]
              exact Nat.le_of_lt (small1000 (by show st.length + 1 ≤ 1000; omega))
            have e20 : Ex _ (upd (upd H18 g1 (.lst [.int (1 + c)])) g2 (.lst (st.map V.int ++ [.int (1 + c)]))) := Ex.new ng2
            have hg2 : (upd (upd H18 g1 (.lst [.int (1 + c)])) g2 (.lst (st.map V.int ++ [.int (1 + c)]))) g2 = some (.lst ((st ++ [1 + c]).map V.int)) := by
              rw [upd_same, List.map_append]
              rfl
            have e1820 := e19.trans e20
            generalize upd (upd H18 g1 (.lst [.int (1 + c)])) g2 (.lst (st.map V.int ++ [.int (1 + c)])) = H20 at e1820 hg2 ⊢
            refine ⟨_, rfl, _, rfl, by show 1 ≤ sizeLine; decide, fun g3 ng3 => ?_⟩
            have e21 : Ex H20 (upd H20 g3 (.lst [vW wd])) := Ex.new ng3
            refine ⟨w, g3, _, _, rfl, rfl, e21 _ _ (e1820 _ _ hw18), upd_same, ?_, fun g4 ng4 => ?_⟩
            · rw [List.length_map]
              exact Nat.le_of_lt (small1000 (by show us.length + 1 ≤ 1000; omega))
            have e22 : Ex _ (upd (upd H20 g3 (.lst [vW wd])) g4 (.lst (us.map vW ++ [vW wd]))) := Ex.new ng4
            have hg4 : (upd (upd H20 g3 (.lst [vW wd])) g4 (.lst (us.map vW ++ [vW wd]))) g4 = some (.lst ((us ++ [wd]).map vW)) := by
              rw [upd_same, List.map_append]
              rfl
            have e2022 := e21.trans e22
            generalize upd (upd H20 g3 (.lst [vW wd])) g4 (.lst (us.map vW ++ [vW wd])) = H22 at e2022 hg4 ⊢
            have hpos : 0 < st.length := List.length_pos_iff.mpr hne
            refine ⟨l, g2, g4, st ++ [1 + c], us ++ [wd], rfl, hl1, hl60, e2022 _ _ hg2, ?_, ?_, hg4, ?_, fun H23 u3 v3 m3 e23 hm3 hu3 hv3 => ?_⟩
            · rw [List.length_append]
              show st.length + 1 ≤ 40
              omega
            · intro n hn
              rcases List.mem_append.mp hn with z | z
              · exact hP n z
              · rw [List.mem_singleton.mp z]
                omega
            · rw [List.length_append, List.length_append]
              show us.length + 1 = st.length + 1 - 1
              omega
            obtain ⟨b1, b2⟩ := hm.more hne hul hm3
            have e1823 := (e1820.trans e2022).trans e23
            refine ⟨u3, _, 0, .int m3, rfl, rfl, SqT.of hu3, rfl, ?_⟩
            refine ⟨_, rfl, _, rfl, _, _, rfl, rfl, _, rfl, ?_⟩
            rw [decide_eq_true b1]
            refine iteT ⟨_, rfl, _, _, rfl, rfl, _, _, rfl, rfl, _, rfl, ?_⟩
            rw [decide_eq_true b2]
            exact iteF ⟨_, _, _, rfl, k118.trans (Kp.ex e1823), B18.ex e1823, e1823 _ _ hs18, e1823 _ _ hw18, e1823 _ _ hv18⟩
          · exact ⟨_, _, _, rfl, k14.trans (Kp.ex e15), B14.ex e15, e15 _ _ hs14, e15 _ _ hw14, e15 _ _ hv14⟩
        · clear hs14 hw14 hv14 k14 B14 e814 e1214 e14
          rintro σ H15 ⟨y15, y16, y17, rfl, k115, B15, hs15, hw15, hv15⟩
          have hse : Evl.EvL (tLc (iList K (tVar 3)) (gName 12) tYes (tOp (rI0 fun i j => .int (i - j)) (tOp (rI0 fun i j => .int (i + j)) (tVar 2) (tC (.int 1))) (tVar 12)) [12])
              [some (.ref a), some (.ref b), some (.int l), some (.ref s), some (.int t), some (.ref w0), some (.ref w), some (.int (diffs (wordsOf t st) us : Nat)), y8, some (.int m), some (.ref v), some (.ref f), y12, y13, y14, y15, y16, y17, x18] H15 (st.map fun p => V.int (l + 1 - p)) :=
            el_map (K := K) (a := s) (fun p => V.int (l + 1 - p)) (Evl.ev_var rfl) (SqL.of hs15) (by omega) (fun _ => rfl) fun p H8 _ hp => Evl.ev_op (Evl.ev_op (Evl.ev_var rfl) Evl.ev_c Evl.rv_I0) (Evl.ev_var rfl) Evl.rv_I0
          dsimp only [tSeq, tAsg]
          refine hse H15 (Ex.refl H15) _ fun sn H16 nsn e16 hsn => ?_
          have hsn16 : H16 sn = some (.lst ((st.map fun p => l + 1 - p).map V.int)) := by
            rw [hsn, List.map_map]
            rfl
          have hw16 := e16 _ _ hw15
          have hv16 := e16 _ _ hv15
          refine ⟨_, rfl, _, rfl, _, rfl, l, sn, w, st.map fun p => l + 1 - p, us, rfl, hl1, hl60, hsn16, by rw [List.length_map]; exact hst40, places_mirror hP, hw16, by rw [List.length_map]; exact hul, fun H17 u2 v2 m2 e17 hm2 hu2 hv2 => ?_⟩
          have em := hm2.inj hm.mirror
          subst em
          have hv17 := e17 _ _ hv16
          have hrev : Evl.EvL (tLc (iTup K (tRevT K (tVar 10))) (gName 12) tYes (tOp (rI0 fun i j => .int (i - j)) (tOp (rI0 fun i j => .int (i + j)) (tVar 2) (tC (.int 1))) (tVar 12)) [12])
              [some (.ref a), some (.ref b), some (.int l), some (.ref s), some (.int t), some (.ref w0), some (.ref w), some (.int (diffs (wordsOf t st) us : Nat)), y8, some (.int m2), some (.ref v), some (.ref f), y12, y13, y14, y15, y16, y17, some (.ref sn)] H17
              (((wplaces l st us m2).reverse.filter fun _ => true).map fun p => V.int (l + 1 - p)) := by
            refine el_tupU (K := K) (fun _ => true) (fun p => V.int (l + 1 - p)) (ns := (wplaces l st us m2).reverse) ?_ ?_ (fun _ => rfl) (fun _ _ _ _ => yes_ev) fun p H3 _ _ _ => Evl.ev_op (Evl.ev_op (Evl.ev_var rfl) Evl.ev_c Evl.rv_I0) (Evl.ev_var rfl) Evl.rv_I0
            · intro H3 e3 Q3 q3
              refine ⟨_, rfl, v, _, rfl, SqT.of (e3 _ _ hv17), fun p np => q3 p _ np (Ex.new np) ?_⟩
              rw [upd_same, List.map_reverse]
            · rw [List.length_reverse]
              have := wplaces_len l st us m2
              omega
          refine ⟨_, rfl, ?_⟩
          dsimp only [tCB, tCons]
          refine hrev H17 (Ex.refl H17) _ fun c4 H18 nc4 e18 hc4 => ?_
          have hc4' : H18 c4 = some (.lst ((wplaces l (st.map fun p => l + 1 - p) us m2).map V.int)) := by
            rw [hc4, filter_yes, wplaces_mirror, List.map_map]
            rfl
          refine ⟨c4, _, rfl, .inl ⟨SqL.of hc4', fun c5 nc5 => ?_⟩⟩
          have e19 : Ex H18 (upd H18 c5 (.tup ((wplaces l (st.map fun p => l + 1 - p) us m2).map V.int))) := Ex.new nc5
          refine ⟨by show 2 ≤ sizeLine; decide, fun c6 nc6 => ?_⟩
          have e20 : Ex _ (upd (upd H18 c5 (.tup ((wplaces l (st.map fun p => l + 1 - p) us m2).map V.int))) c6 (.tup [.int m2, .ref c5])) := Ex.new nc6
          have e1720 := (e18.trans e19).trans e20
          refine nePP (e1720 _ _ hu2) (e1720 _ _ hv2) upd_same (e20 _ _ upd_same) ⟨_, rfl, ?_⟩
          rw [decide_eq_true ⟨rfl, rfl⟩]
          have e1520 := (e16.trans e17).trans e1720
          exact iteF ⟨_, _, _, _, _, _, _, _, _, _, _, _, _, _, _, _, _, _, rfl, k115.trans (Kp.ex e1520), B15.ex e1520⟩
  · rintro σ H2 ⟨x1, x2, x3, x4, x5, x6, x7, x8, x9, x10, x11, x12, x13, x14, x15, x16, x17, x18, rfl, k2, B2⟩
    exact q _
theorem len_law {K : PySem.W.Frag} {vs : List V} {H : Hp} {Q : VK} {E : XK} (h : sp_law K vs H Q E) : vs.length = 1 := by
  obtain ⟨a, ns, rfl, _⟩ := h
  rfl
def topS (i : Nat) : Stmt := PySem.Challenge.pw_warmcold_k10_whole_wrong_answers_and_pla.main.body.getD i (.Pass ⟨0, 0, 0, 0⟩)
abbrev s_is_whole : Stmt := topS 10
theorem sc_is_whole : FnScope N_is_whole ["value"] (defScope s_is_whole) := ⟨rfl, rfl, rfl, by decide +kernel, rfl, by decide +kernel, by decide +kernel⟩
abbrev s_is_place : Stmt := topS 11
theorem sc_is_place : FnScope N_is_place ["value", "length"] (defScope s_is_place) := ⟨rfl, rfl, rfl, by decide +kernel, rfl, by decide +kernel, by decide +kernel⟩
abbrev s_is_word : Stmt := topS 12
theorem sc_is_word : FnScope N_is_word ["value"] (defScope s_is_word) := ⟨rfl, rfl, rfl, by decide +kernel, rfl, by decide +kernel, by decide +kernel⟩
abbrev s_check_length : Stmt := topS 13
theorem sc_check_length : FnScope N_check_length ["length"] (defScope s_check_length) := ⟨rfl, rfl, rfl, by decide +kernel, rfl, by decide +kernel, by decide +kernel⟩
abbrev s_check_place : Stmt := topS 14
theorem sc_check_place : FnScope N_check_place ["place", "length"] (defScope s_check_place) := ⟨rfl, rfl, rfl, by decide +kernel, rfl, by decide +kernel, by decide +kernel⟩
abbrev s_check_stands : Stmt := topS 15
theorem sc_check_stands : FnScope N_check_stands ["stands", "length"] (defScope s_check_stands) := ⟨rfl, rfl, rfl, by decide +kernel, rfl, by decide +kernel, by decide +kernel⟩
abbrev s_check_answers : Stmt := topS 16
theorem sc_check_answers : FnScope N_check_answers ["answers", "stands"] (defScope s_check_answers) := ⟨rfl, rfl, rfl, by decide +kernel, rfl, by decide +kernel, by decide +kernel⟩
abbrev s_word_for : Stmt := topS 18
theorem sc_word_for : FnScope N_word_for ["before", "after"] (defScope s_word_for) := ⟨rfl, rfl, rfl, by decide +kernel, rfl, by decide +kernel, by decide +kernel⟩
abbrev s_answer_to_move : Stmt := topS 19
theorem sc_answer_to_move : FnScope N_answer_to_move ["thing", "earlier", "later"] (defScope s_answer_to_move) := ⟨rfl, rfl, rfl, by decide +kernel, rfl, by decide +kernel, by decide +kernel⟩
abbrev s_row_of_answers : Stmt := topS 20
theorem sc_row_of_answers : FnScope N_row_of_answers ["thing", "stands"] (defScope s_row_of_answers) := ⟨rfl, rfl, rfl, by decide +kernel, rfl, by decide +kernel, by decide +kernel⟩
abbrev s_answers_to : Stmt := topS 21
theorem sc_answers_to : FnScope N_answers_to ["length", "thing", "stands"] (defScope s_answers_to) := ⟨rfl, rfl, rfl, by decide +kernel, rfl, by decide +kernel, by decide +kernel⟩
abbrev s_can_lie : Stmt := topS 22
theorem sc_can_lie : FnScope N_can_lie ["length", "stands", "answers"] (defScope s_can_lie) := ⟨rfl, rfl, rfl, by decide +kernel, rfl, by decide +kernel, by decide +kernel⟩
abbrev s_count_wrong : Stmt := topS 24
theorem sc_count_wrong : FnScope N_count_wrong ["thing", "stands", "answers"] (defScope s_count_wrong) := ⟨rfl, rfl, rfl, by decide +kernel, rfl, by decide +kernel, by decide +kernel⟩
abbrev s_fewest_wrong : Stmt := topS 25
theorem sc_fewest_wrong : FnScope N_fewest_wrong ["length", "stands", "answers"] (defScope s_fewest_wrong) := ⟨rfl, rfl, rfl, by decide +kernel, rfl, by decide +kernel, by decide +kernel⟩
abbrev s__law_cell_at : Stmt := topS 27
theorem sc__law_cell_at : FnScope N__law_cell_at ["script", "k"] (defScope s__law_cell_at) := ⟨rfl, rfl, rfl, by decide +kernel, rfl, by decide +kernel, by decide +kernel⟩
abbrev s__law_draws : Stmt := topS 28
theorem sc__law_draws : FnScope N__law_draws ["cell", "many", "size"] (defScope s__law_draws) := ⟨rfl, rfl, rfl, by decide +kernel, rfl, by decide +kernel, by decide +kernel⟩
abbrev s__law_bag : Stmt := topS 29
theorem sc__law_bag : FnScope N__law_bag ["script", "k"] (defScope s__law_bag) := ⟨rfl, rfl, rfl, by decide +kernel, rfl, by decide +kernel, by decide +kernel⟩
abbrev s__law_bags : Stmt := topS 30
theorem sc__law_bags : FnScope N__law_bags ["script", "limit"] (defScope s__law_bags) := ⟨rfl, rfl, rfl, by decide +kernel, rfl, by decide +kernel, by decide +kernel⟩
abbrev s__law_take : Stmt := topS 31
theorem sc__law_take : FnScope N__law_take ["bag", "many"] (defScope s__law_take) := ⟨rfl, rfl, rfl, by decide +kernel, rfl, by decide +kernel, by decide +kernel⟩
abbrev s__law_some_stands : Stmt := topS 32
theorem sc__law_some_stands : FnScope N__law_some_stands ["bag", "length", "most"] (defScope s__law_some_stands) := ⟨rfl, rfl, rfl, by decide +kernel, rfl, by decide +kernel, by decide +kernel⟩
abbrev s_law : Stmt := topS 33
theorem sc_law : FnScope N_law ["script"] (defScope s_law) := ⟨rfl, rfl, rfl, by decide +kernel, rfl, by decide +kernel, by decide +kernel⟩
structure Wd (K : PySem.W.Frag) (mg : Str → Option Value) : Prop where
  z_abs : mg "abs" = none
  z_all : mg "all" = none
  z_bool : mg "bool" = none
  z_int : mg "int" = none
  z_isinstance : mg "isinstance" = none
  z_len : mg "len" = none
  z_list : mg "list" = none
  z_max : mg "max" = none
  z_min : mg "min" = none
  z_range : mg "range" = none
  z_str : mg "str" = none
  z_sum : mg "sum" = none
  z_tuple : mg "tuple" = none
  z_zip : mg "zip" = none
  c_LONGEST_PATH : ∃ t, mg "LONGEST_PATH" = some (.int 60 t)
  c_MOST_STANDS : ∃ t, mg "MOST_STANDS" = some (.int 40 t)
  c_WORDS : mg "WORDS" = some (.ref (He.ga K "WORDS"))
  q_WORDS : ∀ H, SqT K H (He.ga K "WORDS") [.str "warm", .str "cold", .str "same"]
section
variable {P : Program} {w : World} {K : PySem.W.Frag} {mg : Str → Option Value} {base : Heap}
theorem ok_is_whole {f : Addr} {fd : FuncData} (F : FnP K "is_whole" s_is_whole f fd) (W : Wd K mg)  : FnOk P w K mg base CX0 1 f fd ["value"] (sp_is_whole K) := by
  refine F.ok sc_is_whole (fun vs H Q E h => len_is_whole h) (fun cdv A outer s H vs Q E hr h => ⟨t_is_whole K, PSs.nox ?_, pure_is_whole h⟩)
  exact (pss_one (ps_ret (pe_and (pe_callB call_isi (by rfl) W.z_isinstance bb_isinstance (pa_cons (pv 0) (pa_cons (pe_bltn (v := .ty "int") (by rfl) W.z_int bt_int rfl) pa_nil))) (pe_one (pe_not (pe_callB call_isi (by rfl) W.z_isinstance bb_isinstance (pa_cons (pv 0) (pa_cons (pe_bltn (v := .ty "bool") (by rfl) W.z_bool bt_bool rfl) pa_nil))))))))
theorem ok_is_place {f : Addr} {fd : FuncData} (F : FnP K "is_place" s_is_place f fd) (W : Wd K mg) (O_is_whole : Own P w K mg base 1 "is_whole" ["value"] (sp_is_whole K)) : FnOk P w K mg base CX0 2 f fd ["value", "length"] (sp_is_place K) := by
  refine F.ok sc_is_place (fun vs H Q E h => len_is_place h) (fun cdv A outer s H vs Q E hr h => ⟨t_is_place K, PSs.nox ?_, pure_is_place h⟩)
  exact (pss_one (ps_ret (pe_and (pe_callO O_is_whole hr (by first | decide | omega) (by rfl) (pa_cons (pv 0) pa_nil)) (pe_one (pe_chain op_le op_le pe_int (pv 0) (pv 1))))))
theorem ok_is_word {f : Addr} {fd : FuncData} (F : FnP K "is_word" s_is_word f fd) (W : Wd K mg)  : FnOk P w K mg base CX0 1 f fd ["value"] (sp_is_word K) := by
  refine F.ok sc_is_word (fun vs H Q E h => len_is_word h) (fun cdv A outer s H vs Q E hr h => ⟨t_is_word K, PSs.nox ?_, pure_is_word W.q_WORDS h⟩)
  exact (pss_one (ps_ret (pe_and (pe_callB call_isi (by rfl) W.z_isinstance bb_isinstance (pa_cons (pv 0) (pa_cons (pe_bltn (v := .ty "str") (by rfl) W.z_str bt_str rfl) pa_nil))) (pe_one (pe_cmpR op_in_seq (pv 0) (pe_glob (by rfl) W.c_WORDS rfl) rfl)))))
theorem ok_check_length {f : Addr} {fd : FuncData} (F : FnP K "check_length" s_check_length f fd) (W : Wd K mg) (O_is_place : Own P w K mg base 2 "is_place" ["value", "length"] (sp_is_place K)) : FnOk P w K mg base CX0 3 f fd ["length"] (sp_check_length K) := by
  refine F.ok sc_check_length (fun vs H Q E h => len_check_length h) (fun cdv A outer s H vs Q E hr h => ⟨t_check_length K, PSs.nox ?_, pure_check_length h⟩)
  exact (pss_one (ps_if (pt_not (pt_val (pe_callO O_is_place hr (by first | decide | omega) (by rfl) (pa_cons (pv 0) (pa_cons (pe_glob (by rfl) W.c_LONGEST_PATH.choose_spec ⟨_, rfl⟩) pa_nil))))) (pss_one ps_never) pss_nil))
theorem ok_check_place {f : Addr} {fd : FuncData} (F : FnP K "check_place" s_check_place f fd) (W : Wd K mg) (O_is_place : Own P w K mg base 2 "is_place" ["value", "length"] (sp_is_place K)) : FnOk P w K mg base CX0 3 f fd ["place", "length"] (sp_check_place K) := by
  refine F.ok sc_check_place (fun vs H Q E h => len_check_place h) (fun cdv A outer s H vs Q E hr h => ⟨t_check_place K, PSs.nox ?_, pure_check_place h⟩)
  exact (pss_one (ps_if (pt_not (pt_val (pe_callO O_is_place hr (by first | decide | omega) (by rfl) (pa_cons (pv 0) (pa_cons (pv 1) pa_nil))))) (pss_one ps_never) pss_nil))
theorem ok_check_stands {f : Addr} {fd : FuncData} (F : FnP K "check_stands" s_check_stands f fd) (W : Wd K mg) (O_is_place : Own P w K mg base 2 "is_place" ["value", "length"] (sp_is_place K)) : FnOk P w K mg base CX0 3 f fd ["stands", "length"] (sp_check_stands K) := by
  refine F.ok sc_check_stands (fun vs H Q E h => len_check_stands h) (fun cdv A outer s H vs Q E hr h => ⟨t_check_stands K, PSs.nox ?_, pure_check_stands h⟩)
  exact (pss_cons (ps_if (PW.pt (pw_or (pt_not (pt_val (pe_callB call_isi (by rfl) W.z_isinstance bb_isinstance (pa_cons (pv 0) (pa_cons (pe_bltn (v := .ty "list") (by rfl) W.z_list bt_list rfl) pa_nil))))) (pw_or1 (pt_cmpR op_gt (pe_callB call_len_seq (by rfl) W.z_len PySem.boot_len (pa_cons (pv 0) pa_nil)) (pe_glob (by rfl) W.c_MOST_STANDS.choose_spec ⟨_, rfl⟩) (nomark _))))) (pss_one ps_never) pss_nil)   (pss_one (ps_if (pt_not (pt_val (pe_callB (cr_all rfl) (by rfl) W.z_all bb_all (pa_cons (pe_lc (own := [("stand", 2)]) (g := (gName 2)) (tt := tYes) (by rfl) sc_check_stands.nd (pi_list (pv 0)) (blkOk_by (own := [("stand", 2)]) (N := N_check_stands) (sc := defScope s_check_stands) (by decide +kernel)) (fun _ _ _ _ _ => (pg_name (i := 2) sc_check_stands.nd rfl (Or.inl rfl))) (fun _ _ _ _ _ => pts_nil) (fun _ _ _ _ _ => (pe_callO O_is_place hr (by first | decide | omega) (by rfl) (pa_cons (pv 2) (pa_cons (pv 1) pa_nil))))) pa_nil)))) (pss_one ps_never) pss_nil)))
theorem ok_check_answers {f : Addr} {fd : FuncData} (F : FnP K "check_answers" s_check_answers f fd) (W : Wd K mg) (O_is_word : Own P w K mg base 1 "is_word" ["value"] (sp_is_word K)) : FnOk P w K mg base CX0 2 f fd ["answers", "stands"] (sp_check_answers K) := by
  refine F.ok sc_check_answers (fun vs H Q E h => len_check_answers h) (fun cdv A outer s H vs Q E hr h => ⟨t_check_answers K, PSs.nox ?_, pure_check_answers h⟩)
  exact (pss_cons (ps_set (i := 2) sc_check_answers.nd rfl (Or.inl rfl) (pe_callB (call_max2 rfl) (by rfl) W.z_max bb_max (pa_cons pe_int (pa_cons (pe_op op_sub (pe_callB call_len_seq (by rfl) W.z_len PySem.boot_len (pa_cons (pv 1) pa_nil)) pe_int) pa_nil))))   (pss_cons (ps_if (PW.pt (pw_or (pt_not (pt_val (pe_callB call_isi (by rfl) W.z_isinstance bb_isinstance (pa_cons (pv 0) (pa_cons (pe_bltn (v := .ty "list") (by rfl) W.z_list bt_list rfl) pa_nil))))) (pw_or1 (pt_cmpR op_ne (pe_callB call_len_seq (by rfl) W.z_len PySem.boot_len (pa_cons (pv 0) pa_nil)) (pv 2) (nomark _))))) (pss_one ps_never) pss_nil)   (pss_one (ps_if (pt_not (pt_val (pe_callB (cr_all rfl) (by rfl) W.z_all bb_all (pa_cons (pe_lc (own := [("answer", 3)]) (g := (gName 3)) (tt := tYes) (by rfl) sc_check_answers.nd (pi_list (pv 0)) (blkOk_by (own := [("answer", 3)]) (N := N_check_answers) (sc := defScope s_check_answers) (by decide +kernel)) (fun _ _ _ _ _ => (pg_name (i := 3) sc_check_answers.nd rfl (Or.inl rfl))) (fun _ _ _ _ _ => pts_nil) (fun _ _ _ _ _ => (pe_callO O_is_word hr (by first | decide | omega) (by rfl) (pa_cons (pv 3) pa_nil)))) pa_nil)))) (pss_one ps_never) pss_nil))))
theorem ok_word_for {f : Addr} {fd : FuncData} (F : FnP K "word_for" s_word_for f fd) (W : Wd K mg)  : FnOk P w K mg base CX0 1 f fd ["before", "after"] (sp_word_for K) := by
  refine F.ok sc_word_for (fun vs H Q E h => len_word_for h) (fun cdv A outer s H vs Q E hr h => ⟨t_word_for K, PSs.nox ?_, pure_word_for h⟩)
  exact (pss_cons (ps_if (pt_cmpR op_lt (pv 1) (pv 0) (nomark _)) (pss_one (ps_ret pe_str)) pss_nil)   (pss_cons (ps_if (pt_cmpR op_gt (pv 1) (pv 0) (nomark _)) (pss_one (ps_ret pe_str)) pss_nil)   (pss_one (ps_ret pe_str))))
theorem ok_answer_to_move {f : Addr} {fd : FuncData} (F : FnP K "answer_to_move" s_answer_to_move f fd) (W : Wd K mg) (O_word_for : Own P w K mg base 1 "word_for" ["before", "after"] (sp_word_for K)) : FnOk P w K mg base CX0 2 f fd ["thing", "earlier", "later"] (sp_answer_to_move K) := by
  refine F.ok sc_answer_to_move (fun vs H Q E h => len_answer_to_move h) (fun cdv A outer s H vs Q E hr h => ⟨t_answer_to_move K, PSs.nox ?_, pure_answer_to_move h⟩)
  exact (pss_one (ps_ret (pe_callO O_word_for hr (by first | decide | omega) (by rfl) (pa_cons (pe_callB call_abs (by rfl) W.z_abs bb_abs (pa_cons (pe_op op_sub (pv 0) (pv 1)) pa_nil)) (pa_cons (pe_callB call_abs (by rfl) W.z_abs bb_abs (pa_cons (pe_op op_sub (pv 0) (pv 2)) pa_nil)) pa_nil)))))
theorem ok_row_of_answers {f : Addr} {fd : FuncData} (F : FnP K "row_of_answers" s_row_of_answers f fd) (W : Wd K mg) (O_answer_to_move : Own P w K mg base 2 "answer_to_move" ["thing", "earlier", "later"] (sp_answer_to_move K)) : FnOk P w K mg base CX0 3 f fd ["thing", "stands"] (sp_row_of_answers K) := by
  refine F.ok sc_row_of_answers (fun vs H Q E h => len_row_of_answers h) (fun cdv A outer s H vs Q E hr h => ⟨t_row_of_answers K, PSs.nox ?_, pure_row_of_answers h⟩)
  exact (pss_one (ps_ret (pe_lc (own := [("earlier", 2), ("later", 3)]) (g := (gTup K 2 (gCons (gName 2) (gCons (gName 3) gNil)))) (tt := tYes) (by rfl) sc_row_of_answers.nd (pi_zip (by rfl) W.z_zip (pa_cons (pv 1) (pa_cons (pe_slice sl_list (pv 1) (po_some pe_int) po_none) pa_nil))) (blkOk_by (own := [("earlier", 2), ("later", 3)]) (N := N_row_of_answers) (sc := defScope s_row_of_answers) (by decide +kernel)) (fun _ _ _ _ _ => (pg_tup rfl (pgs_cons (pg_name (i := 2) sc_row_of_answers.nd rfl (Or.inl rfl)) (pgs_cons (pg_name (i := 3) sc_row_of_answers.nd rfl (Or.inl rfl)) pgs_nil)))) (fun _ _ _ _ _ => pts_nil) (fun _ _ _ _ _ => (pe_callO O_answer_to_move hr (by first | decide | omega) (by rfl) (pa_cons (pv 0) (pa_cons (pv 2) (pa_cons (pv 3) pa_nil))))))))
theorem ok_answers_to {f : Addr} {fd : FuncData} (F : FnP K "answers_to" s_answers_to f fd) (W : Wd K mg) (O_check_length : Own P w K mg base 3 "check_length" ["length"] (sp_check_length K)) (O_check_place : Own P w K mg base 3 "check_place" ["place", "length"] (sp_check_place K)) (O_check_stands : Own P w K mg base 3 "check_stands" ["stands", "length"] (sp_check_stands K)) (O_row_of_answers : Own P w K mg base 3 "row_of_answers" ["thing", "stands"] (sp_row_of_answers K)) : FnOk P w K mg base CX0 4 f fd ["length", "thing", "stands"] (sp_answers_to K) := by
  refine F.ok sc_answers_to (fun vs H Q E h => len_answers_to h) (fun cdv A outer s H vs Q E hr h => ⟨t_answers_to K, PSs.nox ?_, pure_answers_to h⟩)
  exact (pss_cons (ps_expr (pe_callO O_check_length hr (by first | decide | omega) (by rfl) (pa_cons (pv 0) pa_nil)))   (pss_cons (ps_expr (pe_callO O_check_place hr (by first | decide | omega) (by rfl) (pa_cons (pv 1) (pa_cons (pv 0) pa_nil))))   (pss_cons (ps_expr (pe_callO O_check_stands hr (by first | decide | omega) (by rfl) (pa_cons (pv 2) (pa_cons (pv 0) pa_nil))))   (pss_one (ps_ret (pe_callO O_row_of_answers hr (by first | decide | omega) (by rfl) (pa_cons (pv 1) (pa_cons (pv 2) pa_nil))))))))
theorem ok_can_lie {f : Addr} {fd : FuncData} (F : FnP K "can_lie" s_can_lie f fd) (W : Wd K mg) (O_check_length : Own P w K mg base 3 "check_length" ["length"] (sp_check_length K)) (O_check_stands : Own P w K mg base 3 "check_stands" ["stands", "length"] (sp_check_stands K)) (O_check_answers : Own P w K mg base 2 "check_answers" ["answers", "stands"] (sp_check_answers K)) (O_row_of_answers : Own P w K mg base 3 "row_of_answers" ["thing", "stands"] (sp_row_of_answers K)) : FnOk P w K mg base CX0 4 f fd ["length", "stands", "answers"] (sp_can_lie K) := by
  refine F.ok sc_can_lie (fun vs H Q E h => len_can_lie h) (fun cdv A outer s H vs Q E hr h => ⟨t_can_lie K, PSs.nox ?_, pure_can_lie h⟩)
  exact (pss_cons (ps_expr (pe_callO O_check_length hr (by first | decide | omega) (by rfl) (pa_cons (pv 0) pa_nil)))   (pss_cons (ps_expr (pe_callO O_check_stands hr (by first | decide | omega) (by rfl) (pa_cons (pv 1) (pa_cons (pv 0) pa_nil))))   (pss_cons (ps_expr (pe_callO O_check_answers hr (by first | decide | omega) (by rfl) (pa_cons (pv 2) (pa_cons (pv 1) pa_nil))))   (pss_one (ps_ret (pe_callTy call_tuple_of (by rfl) W.z_tuple bt_tuple (pa_cons (pe_lc (own := [("place", 3)]) (g := (gName 3)) (tt := (tTest (tOp (rEqD K) (tCall (sp_row_of_answers K) [] E0 (tCons (tVar 3) (tCons (tVar 1) tNil))) (tVar 2)))) (by rfl) sc_can_lie.nd (pi_range2 (by rfl) W.z_range (pa_cons pe_int (pa_cons (pe_op op_add (pv 0) pe_int) pa_nil))) (blkOk_by (own := [("place", 3)]) (N := N_can_lie) (sc := defScope s_can_lie) (by decide +kernel)) (fun _ _ _ _ _ => (pg_name (i := 3) sc_can_lie.nd rfl (Or.inl rfl))) (fun _ _ _ _ _ => (pts_one (pt_cmpR (op_eqD hr.units) (pe_callO O_row_of_answers hr (by first | decide | omega) (by rfl) (pa_cons (pv 3) (pa_cons (pv 1) pa_nil))) (pv 2) (nomark _)))) (fun _ _ _ _ _ => (pv 3))) pa_nil)))))))
theorem ok_count_wrong {f : Addr} {fd : FuncData} (F : FnP K "count_wrong" s_count_wrong f fd) (W : Wd K mg) (O_row_of_answers : Own P w K mg base 3 "row_of_answers" ["thing", "stands"] (sp_row_of_answers K)) : FnOk P w K mg base CX0 4 f fd ["thing", "stands", "answers"] (sp_count_wrong K) := by
  refine F.ok sc_count_wrong (fun vs H Q E h => len_count_wrong h) (fun cdv A outer s H vs Q E hr h => ⟨t_count_wrong K, PSs.nox ?_, pure_count_wrong h⟩)
  exact (pss_cons (ps_set (i := 3) sc_count_wrong.nd rfl (Or.inl rfl) (pe_callO O_row_of_answers hr (by first | decide | omega) (by rfl) (pa_cons (pv 0) (pa_cons (pv 1) pa_nil))))   (pss_one (ps_ret (pe_callB (cr_sum rfl) (by rfl) W.z_sum bb_sum (pa_cons (pe_lc (own := [("told", 4), ("due", 5)]) (g := (gTup K 2 (gCons (gName 4) (gCons (gName 5) gNil)))) (tt := (tTest (tOp rNe (tVar 4) (tVar 5)))) (by rfl) sc_count_wrong.nd (pi_zip (by rfl) W.z_zip (pa_cons (pv 2) (pa_cons (pv 3) pa_nil))) (blkOk_by (own := [("told", 4), ("due", 5)]) (N := N_count_wrong) (sc := defScope s_count_wrong) (by decide +kernel)) (fun _ _ _ _ _ => (pg_tup rfl (pgs_cons (pg_name (i := 4) sc_count_wrong.nd rfl (Or.inl rfl)) (pgs_cons (pg_name (i := 5) sc_count_wrong.nd rfl (Or.inl rfl)) pgs_nil)))) (fun _ _ _ _ _ => (pts_one (pt_cmpR op_ne (pv 4) (pv 5) (nomark _)))) (fun _ _ _ _ _ => pe_int)) pa_nil)))))
theorem ok_fewest_wrong {f : Addr} {fd : FuncData} (F : FnP K "fewest_wrong" s_fewest_wrong f fd) (W : Wd K mg) (O_check_length : Own P w K mg base 3 "check_length" ["length"] (sp_check_length K)) (O_check_stands : Own P w K mg base 3 "check_stands" ["stands", "length"] (sp_check_stands K)) (O_check_answers : Own P w K mg base 2 "check_answers" ["answers", "stands"] (sp_check_answers K)) (O_count_wrong : Own P w K mg base 4 "count_wrong" ["thing", "stands", "answers"] (sp_count_wrong K)) : FnOk P w K mg base CX0 5 f fd ["length", "stands", "answers"] (sp_fewest_wrong K) := by
  refine F.ok sc_fewest_wrong (fun vs H Q E h => len_fewest_wrong h) (fun cdv A outer s H vs Q E hr h => ⟨t_fewest_wrong K, PSs.nox ?_, pure_fewest_wrong h⟩)
  exact (pss_cons (ps_expr (pe_callO O_check_length hr (by first | decide | omega) (by rfl) (pa_cons (pv 0) pa_nil)))   (pss_cons (ps_expr (pe_callO O_check_stands hr (by first | decide | omega) (by rfl) (pa_cons (pv 1) (pa_cons (pv 0) pa_nil))))   (pss_cons (ps_expr (pe_callO O_check_answers hr (by first | decide | omega) (by rfl) (pa_cons (pv 2) (pa_cons (pv 1) pa_nil))))   (pss_cons (ps_set (i := 3) sc_fewest_wrong.nd rfl (Or.inl rfl) (pe_listRg (by rfl) (by rfl) W.z_list (prg_2 (by rfl) W.z_range pe_int (pe_op op_add (pv 0) pe_int))))   (pss_cons (ps_setLc (i := 4) (own := [("place", 5)]) (g := (gName 5)) (tt := tYes) (by rfl) sc_fewest_wrong.nd rfl rfl (sw_true rfl rfl rfl (by decide +kernel)) (pi_list (pv 3)) (blkOk_by (own := [("place", 5)]) (N := N_fewest_wrong) (sc := defScope s_fewest_wrong) (by decide +kernel)) (fun _ _ _ _ _ => (pg_name (i := 5) sc_fewest_wrong.nd rfl (Or.inl rfl))) (fun _ _ _ _ _ => pts_nil) (fun _ _ _ _ _ => (pe_callO O_count_wrong hr (by first | decide | omega) (by rfl) (pa_cons (pv 5) (pa_cons (pv 1) (pa_cons (pv 2) pa_nil))))))   (pss_cons (ps_set (i := 6) sc_fewest_wrong.nd rfl (Or.inr rfl) (pe_callB (cr_min rfl) (by rfl) W.z_min bb_min (pa_cons (pv 4) pa_nil)))   (pss_one (ps_ret (pe_tup (pa_cons (pv 6) (pa_cons (pe_callTy call_tuple_of (by rfl) W.z_tuple bt_tuple (pa_cons (pe_lc (own := [("place", 5), ("count", 7)]) (g := (gTup K 2 (gCons (gName 5) (gCons (gName 7) gNil)))) (tt := (tTest (tOp rEq (tVar 7) (tVar 6)))) (by rfl) sc_fewest_wrong.nd (pi_zip (by rfl) W.z_zip (pa_cons (pv 3) (pa_cons (pv 4) pa_nil))) (blkOk_by (own := [("place", 5), ("count", 7)]) (N := N_fewest_wrong) (sc := defScope s_fewest_wrong) (by decide +kernel)) (fun _ _ _ _ _ => (pg_tup rfl (pgs_cons (pg_name (i := 5) sc_fewest_wrong.nd rfl (Or.inl rfl)) (pgs_cons (pg_name (i := 7) sc_fewest_wrong.nd rfl (Or.inl rfl)) pgs_nil)))) (fun _ _ _ _ _ => (pts_one (pt_cmpR op_eq (pv 7) (pv 6) (nomark _)))) (fun _ _ _ _ _ => (pv 5))) pa_nil)) pa_nil)))))))))))
theorem ok__law_cell_at {f : Addr} {fd : FuncData} (F : FnP K "_law_cell_at" s__law_cell_at f fd) (W : Wd K mg)  : FnOk P w K mg base CX0 1 f fd ["script", "k"] (sp__law_cell_at K) := by
  refine F.ok sc__law_cell_at (fun vs H Q E h => len__law_cell_at h) (fun cdv A outer s H vs Q E hr h => ⟨t__law_cell_at K, PSs.nox ?_, pure__law_cell_at h⟩)
  exact (pss_cons (ps_if (pt_cmpR op_lt (pv 1) (pe_callB call_len_seq (by rfl) W.z_len PySem.boot_len (pa_cons (pv 0) pa_nil)) (nomark _)) (pss_one (ps_ret (pe_ix ix_list (pv 0) (pv 1) (fun _ _ => rfl)))) pss_nil)   (pss_one (ps_ret pe_int)))
theorem ok__law_draws {f : Addr} {fd : FuncData} (F : FnP K "_law_draws" s__law_draws f fd) (W : Wd K mg)  : FnOk P w K mg base CX0 1 f fd ["cell", "many", "size"] (sp__law_draws K) := by
  refine F.ok sc__law_draws (fun vs H Q E h => len__law_draws h) (fun cdv A outer s H vs Q E hr h => ⟨t__law_draws K, PSs.nox ?_, pure__law_draws h⟩)
  exact (pss_cons (ps_set (i := 3) sc__law_draws.nd rfl (Or.inl rfl) (pe_lst pa_nil))   (pss_cons (ps_set (i := 4) sc__law_draws.nd rfl (Or.inl rfl) (pe_op op_mul (pv 0) (pe_callTy call_int1 (by rfl) W.z_int bt_int (pa_cons (pe_cmpR op_ge (pv 0) (pe_op op_pow pe_int pe_int) (nomark _)) pa_nil))))   (pss_cons (ps_set (i := 5) sc__law_draws.nd rfl (Or.inl rfl) (pe_op op_mod (pv 0) pe_int))   (pss_cons (ps_for PassesOwn.never rfl (pi_range1 (by rfl) W.z_range (pa_cons (pe_op op_add (pv 1) pe_int) pa_nil)) (pg_name (i := 6) sc__law_draws.nd rfl (Or.inl rfl)) (pss_cons (ps_set (i := 5) sc__law_draws.nd rfl (Or.inl rfl) (pe_op op_mod (pe_op op_add (pe_op op_add (pe_op op_add (pe_op op_mul (pv 5) (pv 5)) (pe_op op_mul pe_int (pv 5))) (pv 6)) pe_int) pe_int))   (pss_one (ps_if (PW.pt (pw_and (pt_cmpR op_gt (pv 6) pe_int (nomark _)) (pw_and1 (pt_cmpR op_gt (pv 4) pe_int (nomark _))))) (pss_cons (ps_expr (pe_bm PySem.F.plainAttrs_list PySem.F.slot_list_append PySem.F.type_list_append mt_append (pv 3) (pa_cons (pe_op op_mod (pv 4) (pv 2)) pa_nil)))   (pss_one (ps_set (i := 4) sc__law_draws.nd rfl (Or.inl rfl) (pe_op op_fdiv (pv 4) (pv 2))))) (pss_one (ps_if (pt_cmpR op_gt (pv 6) pe_int (nomark _)) (pss_one (ps_expr (pe_bm PySem.F.plainAttrs_list PySem.F.slot_list_append PySem.F.type_list_append mt_append (pv 3) (pa_cons (pe_op op_mod (pe_op op_fdiv (pv 5) pe_int) (pv 2)) pa_nil)))) pss_nil))))))   (pss_one (ps_ret (pv 3)))))))
theorem ok__law_bag {f : Addr} {fd : FuncData} (F : FnP K "_law_bag" s__law_bag f fd) (W : Wd K mg) (O__law_draws : Own P w K mg base 1 "_law_draws" ["cell", "many", "size"] (sp__law_draws K)) (O__law_cell_at : Own P w K mg base 1 "_law_cell_at" ["script", "k"] (sp__law_cell_at K)) : FnOk P w K mg base CX0 2 f fd ["script", "k"] (sp__law_bag K) := by
  refine F.ok sc__law_bag (fun vs H Q E h => len__law_bag h) (fun cdv A outer s H vs Q E hr h => ⟨t__law_bag K, PSs.nox ?_, pure__law_bag h⟩)
  exact (pss_one (ps_ret (pe_lst (pa_cons (pe_callO O__law_draws hr (by first | decide | omega) (by rfl) (pa_cons (pe_callO O__law_cell_at hr (by first | decide | omega) (by rfl) (pa_cons (pv 0) (pa_cons (pv 1) pa_nil))) (pa_cons pe_int (pa_cons pe_int pa_nil)))) (pa_cons pe_int pa_nil)))))
theorem ok__law_bags {f : Addr} {fd : FuncData} (F : FnP K "_law_bags" s__law_bags f fd) (W : Wd K mg) (O__law_bag : Own P w K mg base 2 "_law_bag" ["script", "k"] (sp__law_bag K)) : FnOk P w K mg base CX0 3 f fd ["script", "limit"] (sp__law_bags K) := by
  refine F.ok sc__law_bags (fun vs H Q E h => len__law_bags h) (fun cdv A outer s H vs Q E hr h => ⟨t__law_bags K, PSs.nox ?_, pure__law_bags h⟩)
  exact (pss_one (ps_ret (pe_lc (own := [("k", 2)]) (g := (gName 2)) (tt := tYes) (by rfl) sc__law_bags.nd (pi_range1 (by rfl) W.z_range (pa_cons (pe_callB (call_max2 rfl) (by rfl) W.z_max bb_max (pa_cons pe_int (pa_cons (pe_callB (call_min2 rfl) (by rfl) W.z_min bb_min (pa_cons (pv 1) (pa_cons (pe_callB call_len_seq (by rfl) W.z_len PySem.boot_len (pa_cons (pv 0) pa_nil)) pa_nil))) pa_nil))) pa_nil)) (blkOk_by (own := [("k", 2)]) (N := N__law_bags) (sc := defScope s__law_bags) (by decide +kernel)) (fun _ _ _ _ _ => (pg_name (i := 2) sc__law_bags.nd rfl (Or.inl rfl))) (fun _ _ _ _ _ => pts_nil) (fun _ _ _ _ _ => (pe_callO O__law_bag hr (by first | decide | omega) (by rfl) (pa_cons (pv 0) (pa_cons (pv 2) pa_nil)))))))
theorem ok__law_take {f : Addr} {fd : FuncData} (F : FnP K "_law_take" s__law_take f fd) (W : Wd K mg)  : FnOk P w K mg base CX0 1 f fd ["bag", "many"] (sp__law_take K) := by
  refine F.ok sc__law_take (fun vs H Q E h => len__law_take h) (fun cdv A outer s H vs Q E hr h => ⟨t__law_take K, PSs.nox ?_, pure__law_take h⟩)
  exact (pss_cons (ps_asg (pe_op op_add (pe_ix ix_list (pv 0) pe_int (fun _ _ => rfl)) pe_int) (pg_sub (pv 0) pe_int set_list))   (pss_one (ps_ret (pe_op op_mod (pe_ix ix_list (pe_ix ix_list (pv 0) pe_int (fun _ _ => rfl)) (pe_op op_mod (pe_ix ix_list (pv 0) pe_int (fun _ _ => rfl)) (pe_callB call_len_seq (by rfl) W.z_len PySem.boot_len (pa_cons (pe_ix ix_list (pv 0) pe_int (fun _ _ => rfl)) pa_nil))) (fun _ _ => rfl)) (pv 1)))))
theorem ok__law_some_stands {f : Addr} {fd : FuncData} (F : FnP K "_law_some_stands" s__law_some_stands f fd) (W : Wd K mg) (O__law_take : Own P w K mg base 1 "_law_take" ["bag", "many"] (sp__law_take K)) : FnOk P w K mg base CX0 2 f fd ["bag", "length", "most"] (sp__law_some_stands K) := by
  refine F.ok sc__law_some_stands (fun vs H Q E h => len__law_some_stands h) (fun cdv A outer s H vs Q E hr h => ⟨t__law_some_stands K, PSs.nox ?_, pure__law_some_stands h⟩)
  exact (pss_cons (ps_set (i := 3) sc__law_some_stands.nd rfl (Or.inl rfl) (pe_lst pa_nil))   (pss_cons (ps_for PassesOwn.never rfl (pi_range1 (by rfl) W.z_range (pa_cons (pe_callO O__law_take hr (by first | decide | omega) (by rfl) (pa_cons (pv 0) (pa_cons (pe_op op_add (pv 2) pe_int) pa_nil))) pa_nil)) (pg_name (i := 4) sc__law_some_stands.nd rfl (Or.inl rfl)) (pss_cons (ps_set (i := 5) sc__law_some_stands.nd rfl (Or.inl rfl) (pe_op op_add pe_int (pe_callO O__law_take hr (by first | decide | omega) (by rfl) (pa_cons (pv 0) (pa_cons (pv 1) pa_nil)))))   (pss_cons (ps_if (PW.pt (pw_and (pt_cmpR (op_neD hr.units) (pv 3) (pe_lst pa_nil) (nomark _)) (pw_and1 (pt_cmpR op_eq (pe_callO O__law_take hr (by first | decide | omega) (by rfl) (pa_cons (pv 0) (pa_cons pe_int pa_nil))) pe_int (nomark _))))) (pss_one (ps_set (i := 5) sc__law_some_stands.nd rfl (Or.inl rfl) (pe_callB (call_max2 rfl) (by rfl) W.z_max bb_max (pa_cons pe_int (pa_cons (pe_callB (call_min2 rfl) (by rfl) W.z_min bb_min (pa_cons (pv 1) (pa_cons (pe_op op_sub (pe_op op_add (pe_ix ix_list (pv 3) (pe_un un_neg pe_int) (fun _ _ => rfl)) (pe_callO O__law_take hr (by first | decide | omega) (by rfl) (pa_cons (pv 0) (pa_cons pe_int pa_nil)))) pe_int) pa_nil))) pa_nil))))) pss_nil)   (pss_one (ps_expr (pe_bm PySem.F.plainAttrs_list PySem.F.slot_list_append PySem.F.type_list_append mt_append (pv 3) (pa_cons (pv 5) pa_nil)))))))   (pss_one (ps_ret (pv 3)))))
theorem ok_law {f : Addr} {fd : FuncData} (F : FnP K "law" s_law f fd) (W : Wd K mg) (O__law_bags : Own P w K mg base 3 "_law_bags" ["script", "limit"] (sp__law_bags K)) (O__law_take : Own P w K mg base 1 "_law_take" ["bag", "many"] (sp__law_take K)) (O__law_some_stands : Own P w K mg base 2 "_law_some_stands" ["bag", "length", "most"] (sp__law_some_stands K)) (O_answers_to : Own P w K mg base 4 "answers_to" ["length", "thing", "stands"] (sp_answers_to K)) (O_fewest_wrong : Own P w K mg base 5 "fewest_wrong" ["length", "stands", "answers"] (sp_fewest_wrong K)) (O_can_lie : Own P w K mg base 4 "can_lie" ["length", "stands", "answers"] (sp_can_lie K)) : FnOk P w K mg base CX0 6 f fd ["script"] (sp_law K) := by
  refine F.ok sc_law (fun vs H Q E h => len_law h) (fun cdv A outer s H vs Q E hr h => ⟨t_law K, PSs.nox ?_, pure_law h⟩)
  exact (pss_cons (ps_for PassesOwn.never rfl (pi_list (pe_callO O__law_bags hr (by first | decide | omega) (by rfl) (pa_cons (pv 0) (pa_cons pe_int pa_nil)))) (pg_name (i := 1) sc_law.nd rfl (Or.inl rfl)) (pss_cons (ps_set (i := 2) sc_law.nd rfl (Or.inr rfl) (pe_op op_add pe_int (pe_callO O__law_take hr (by first | decide | omega) (by rfl) (pa_cons (pv 1) (pa_cons pe_int pa_nil)))))   (pss_cons (ps_par (i := 3) (j := 4) (by rfl) sc_law.nd rfl rfl (by decide) rfl rfl (pa_cons (pe_callO O__law_some_stands hr (by first | decide | omega) (by rfl) (pa_cons (pv 1) (pa_cons (pv 2) (pa_cons pe_int pa_nil)))) (pa_cons (pe_op op_add pe_int (pe_callO O__law_take hr (by first | decide | omega) (by rfl) (pa_cons (pv 1) (pa_cons (pv 2) pa_nil)))) pa_nil)) (by rfl))   (pss_cons (ps_set (i := 5) sc_law.nd rfl (Or.inl rfl) (pe_callO O_answers_to hr (by first | decide | omega) (by rfl) (pa_cons (pv 2) (pa_cons (pv 4) (pa_cons (pv 3) pa_nil)))))   (pss_cons (ps_par (i := 6) (j := 7) (by rfl) sc_law.nd rfl rfl (by decide) rfl rfl (pa_cons (pe_callTy call_list_of (by rfl) W.z_list bt_list (pa_cons (pv 5) pa_nil)) (pa_cons pe_int pa_nil)) (by rfl))   (pss_cons (ps_for PassesOwn.never rfl (pi_range1 (by rfl) W.z_range (pa_cons (pe_callB call_len_seq (by rfl) W.z_len PySem.boot_len (pa_cons (pv 6) pa_nil)) pa_nil)) (pg_name (i := 8) sc_law.nd rfl (Or.inl rfl)) (Evl.pss_cut (ps_if (pt_cmpR op_eq (pe_callO O__law_take hr (by first | decide | omega) (by rfl) (pa_cons (pv 1) (pa_cons pe_int pa_nil))) pe_int (nomark _)) (pss_one (ps_asg (pe_ix ix_list (pe_lst (pa_cons pe_str (pa_cons pe_str (pa_cons pe_str pa_nil)))) (pe_callO O__law_take hr (by first | decide | omega) (by rfl) (pa_cons (pv 1) (pa_cons pe_int pa_nil))) (fun _ _ => rfl)) (pg_sub (pv 6) (pv 8) set_list))) pss_nil)   (pss_one (ps_set (i := 7) sc_law.nd rfl (Or.inl rfl) (pe_op op_add (pv 7) (pe_callTy call_int1 (by rfl) W.z_int bt_int (pa_cons (pe_cmpR op_ne (pe_ix ix_list (pv 6) (pv 8) (fun _ _ => rfl)) (pe_ix ix_list (pv 5) (pv 8) (fun _ _ => rfl)) (nomark _)) pa_nil)))))))   (pss_cons (ps_asg (pe_callO O_fewest_wrong hr (by first | decide | omega) (by rfl) (pa_cons (pv 2) (pa_cons (pv 3) (pa_cons (pv 6) pa_nil)))) (pg_tup rfl (pgs_cons (pg_name (i := 9) sc_law.nd rfl (Or.inl rfl)) (pgs_cons (pg_name (i := 10) sc_law.nd rfl (Or.inl rfl)) pgs_nil))))   (pss_cons (ps_set (i := 11) sc_law.nd rfl (Or.inl rfl) (pe_callO O_can_lie hr (by first | decide | omega) (by rfl) (pa_cons (pv 2) (pa_cons (pv 3) (pa_cons (pv 6) pa_nil)))))   (pss_cons (ps_if (PW.pt (pw_or (pt_cmpR op_ne (pe_cmpR op_eq (pv 9) pe_int (nomark _)) (pe_cmpR (op_neD hr.units) (pv 11) (pe_tup pa_nil) (nomark _)) (nomark _)) (pw_or (PW.pt (pw_and (pt_cmpR op_eq (pv 9) pe_int (nomark _)) (pw_and1 (pt_cmpR (op_neD hr.units) (pv 11) (pv 10) (nomark _))))) (pw_or1 (pt_cmpR op_gt (pv 9) (pv 7) (nomark _)))))) (pss_one (ps_ret pe_bl)) pss_nil)   (pss_cons (ps_if (PW.pt (pw_or (PW.pt (pw_and (pt_cmpR op_eq (pv 9) (pv 7) (nomark _)) (pw_and1 (pt_cmpR op_notIn_seq (pv 4) (pv 10) rfl)))) (pw_or1 (pt_cmpR (op_eqD hr.units) (pv 10) (pe_tup pa_nil) (nomark _))))) (pss_one (ps_ret pe_bl)) pss_nil)   (pss_cons (ps_for PassesOwn.never rfl (pi_tup (pe_slice sl_tupA (pv 10) po_none (po_some pe_int))) (pg_name (i := 12) sc_law.nd rfl (Or.inl rfl)) (pss_one (ps_if (pt_cmpR op_ne (pe_callB call_len_seq (by rfl) W.z_len PySem.boot_len (pa_cons (pe_lc (own := [("one", 13), ("other", 14)]) (g := (gTup K 2 (gCons (gName 13) (gCons (gName 14) gNil)))) (tt := (tTest (tOp rNe (tVar 13) (tVar 14)))) (by rfl) sc_law.nd (pi_zip (by rfl) W.z_zip (pa_cons (pe_callO O_answers_to hr (by first | decide | omega) (by rfl) (pa_cons (pv 2) (pa_cons (pv 12) (pa_cons (pv 3) pa_nil)))) (pa_cons (pv 6) pa_nil))) (blkOk_by (own := [("one", 13), ("other", 14)]) (N := N_law) (sc := defScope s_law) (by decide +kernel)) (fun _ _ _ _ _ => (pg_tup rfl (pgs_cons (pg_name (i := 13) sc_law.nd rfl (Or.inl rfl)) (pgs_cons (pg_name (i := 14) sc_law.nd rfl (Or.inl rfl)) pgs_nil)))) (fun _ _ _ _ _ => (pts_one (pt_cmpR op_ne (pv 13) (pv 14) (nomark _)))) (fun _ _ _ _ _ => pe_int)) pa_nil)) (pv 9) (nomark _)) (pss_one (ps_ret pe_bl)) pss_nil)))   (Evl.pss_cut (ps_if (pt_cmpR (op_neD hr.units) (pv 3) (pe_lst pa_nil) (nomark _)) (pss_cons (ps_par (i := 15) (j := 16) (by rfl) sc_law.nd rfl rfl (by decide) rfl rfl (pa_cons (pe_op op_add pe_int (pe_callO O__law_take hr (by first | decide | omega) (by rfl) (pa_cons (pv 1) (pa_cons (pv 2) pa_nil)))) (pa_cons (pe_ix ix_list (pe_lst (pa_cons pe_str (pa_cons pe_str (pa_cons pe_str pa_nil)))) (pe_callO O__law_take hr (by first | decide | omega) (by rfl) (pa_cons (pv 1) (pa_cons pe_int pa_nil))) (fun _ _ => rfl)) pa_nil)) (by rfl))   (pss_cons (ps_set (i := 17) sc_law.nd rfl (Or.inl rfl) (pe_ix ix_tup (pe_callO O_fewest_wrong hr (by first | decide | omega) (by rfl) (pa_cons (pv 2) (pa_cons (pe_op op_cat (pv 3) (pe_lst (pa_cons (pv 15) pa_nil))) (pa_cons (pe_op op_cat (pv 6) (pe_lst (pa_cons (pv 16) pa_nil))) pa_nil)))) pe_int (fun _ _ => rfl)))   (pss_one (ps_if (pt_not (pt_chain op_le op_le (pv 9) (pv 17) (pe_op op_add (pv 9) pe_int))) (pss_one (ps_ret pe_bl)) pss_nil)))) pss_nil)   (pss_cons (ps_setLc (i := 18) (own := [("place", 12)]) (g := (gName 12)) (tt := tYes) (by rfl) sc_law.nd rfl rfl (sw_true rfl rfl rfl (by decide +kernel)) (pi_list (pv 3)) (blkOk_by (own := [("place", 12)]) (N := N_law) (sc := defScope s_law) (by decide +kernel)) (fun _ _ _ _ _ => (pg_name (i := 12) sc_law.nd rfl (Or.inl rfl))) (fun _ _ _ _ _ => pts_nil) (fun _ _ _ _ _ => (pe_op op_sub (pe_op op_add (pv 2) pe_int) (pv 12))))   (pss_one (ps_if (pt_cmpR (op_neD hr.units) (pe_callO O_fewest_wrong hr (by first | decide | omega) (by rfl) (pa_cons (pv 2) (pa_cons (pv 18) (pa_cons (pv 6) pa_nil)))) (pe_tup (pa_cons (pv 9) (pa_cons (pe_callTy call_tuple_of (by rfl) W.z_tuple bt_tuple (pa_cons (pe_lc (own := [("place", 12)]) (g := (gName 12)) (tt := tYes) (by rfl) sc_law.nd (pi_tup (pe_revT (pv 10))) (blkOk_by (own := [("place", 12)]) (N := N_law) (sc := defScope s_law) (by decide +kernel)) (fun _ _ _ _ _ => (pg_name (i := 12) sc_law.nd rfl (Or.inl rfl))) (fun _ _ _ _ _ => pts_nil) (fun _ _ _ _ _ => (pe_op op_sub (pe_op op_add (pv 2) pe_int) (pv 12)))) pa_nil)) pa_nil))) (nomark _)) (pss_one (ps_ret pe_bl)) pss_nil)))))))))))))))   (pss_one (ps_ret pe_bl)))
end
def d_is_whole : He.DefD := ⟨("is_whole", none), "is_whole", "is_whole", defArgs s_is_whole, defBody s_is_whole, defScope s_is_whole, [], []⟩
def d_is_place : He.DefD := ⟨("is_place", none), "is_place", "is_place", defArgs s_is_place, defBody s_is_place, defScope s_is_place, [], []⟩
def d_is_word : He.DefD := ⟨("is_word", none), "is_word", "is_word", defArgs s_is_word, defBody s_is_word, defScope s_is_word, [], []⟩
def d_check_length : He.DefD := ⟨("check_length", none), "check_length", "check_length", defArgs s_check_length, defBody s_check_length, defScope s_check_length, [], []⟩
def d_check_place : He.DefD := ⟨("check_place", none), "check_place", "check_place", defArgs s_check_place, defBody s_check_place, defScope s_check_place, [], []⟩
def d_check_stands : He.DefD := ⟨("check_stands", none), "check_stands", "check_stands", defArgs s_check_stands, defBody s_check_stands, defScope s_check_stands, [], []⟩
def d_check_answers : He.DefD := ⟨("check_answers", none), "check_answers", "check_answers", defArgs s_check_answers, defBody s_check_answers, defScope s_check_answers, [], []⟩
def d_word_for : He.DefD := ⟨("word_for", none), "word_for", "word_for", defArgs s_word_for, defBody s_word_for, defScope s_word_for, [], []⟩
def d_answer_to_move : He.DefD := ⟨("answer_to_move", none), "answer_to_move", "answer_to_move", defArgs s_answer_to_move, defBody s_answer_to_move, defScope s_answer_to_move, [], []⟩
def d_row_of_answers : He.DefD := ⟨("row_of_answers", none), "row_of_answers", "row_of_answers", defArgs s_row_of_answers, defBody s_row_of_answers, defScope s_row_of_answers, [], []⟩
def d_answers_to : He.DefD := ⟨("answers_to", none), "answers_to", "answers_to", defArgs s_answers_to, defBody s_answers_to, defScope s_answers_to, [], []⟩
def d_can_lie : He.DefD := ⟨("can_lie", none), "can_lie", "can_lie", defArgs s_can_lie, defBody s_can_lie, defScope s_can_lie, [], []⟩
def d_count_wrong : He.DefD := ⟨("count_wrong", none), "count_wrong", "count_wrong", defArgs s_count_wrong, defBody s_count_wrong, defScope s_count_wrong, [], []⟩
def d_fewest_wrong : He.DefD := ⟨("fewest_wrong", none), "fewest_wrong", "fewest_wrong", defArgs s_fewest_wrong, defBody s_fewest_wrong, defScope s_fewest_wrong, [], []⟩
def d__law_cell_at : He.DefD := ⟨("_law_cell_at", none), "_law_cell_at", "_law_cell_at", defArgs s__law_cell_at, defBody s__law_cell_at, defScope s__law_cell_at, [], []⟩
def d__law_draws : He.DefD := ⟨("_law_draws", none), "_law_draws", "_law_draws", defArgs s__law_draws, defBody s__law_draws, defScope s__law_draws, [], []⟩
def d__law_bag : He.DefD := ⟨("_law_bag", none), "_law_bag", "_law_bag", defArgs s__law_bag, defBody s__law_bag, defScope s__law_bag, [], []⟩
def d__law_bags : He.DefD := ⟨("_law_bags", none), "_law_bags", "_law_bags", defArgs s__law_bags, defBody s__law_bags, defScope s__law_bags, [], []⟩
def d__law_take : He.DefD := ⟨("_law_take", none), "_law_take", "_law_take", defArgs s__law_take, defBody s__law_take, defScope s__law_take, [], []⟩
def d__law_some_stands : He.DefD := ⟨("_law_some_stands", none), "_law_some_stands", "_law_some_stands", defArgs s__law_some_stands, defBody s__law_some_stands, defScope s__law_some_stands, [], []⟩
def d_law : He.DefD := ⟨("law", none), "law", "law", defArgs s_law, defBody s_law, defScope s_law, [], []⟩
def fn : List He.DefD := [d_is_whole, d_is_place, d_is_word, d_check_length, d_check_place, d_check_stands, d_check_answers, d_word_for, d_answer_to_move, d_row_of_answers, d_answers_to, d_can_lie, d_count_wrong, d_fewest_wrong, d__law_cell_at, d__law_draws, d__law_bag, d__law_bags, d__law_take, d__law_some_stands, d_law]
def fa : List He.Fa := [.glo "is_whole", .glo "is_place", .glo "is_word", .glo "check_length", .glo "check_place", .glo "check_stands", .glo "check_answers", .glo "word_for", .glo "answer_to_move", .glo "row_of_answers", .glo "answers_to", .glo "can_lie", .glo "count_wrong", .glo "fewest_wrong", .glo "_law_cell_at", .glo "_law_draws", .glo "_law_bag", .glo "_law_bags", .glo "_law_take", .glo "_law_some_stands", .glo "law", .free "abs", .free "all", .free "bool", .free "int", .free "isinstance", .free "len", .free "list", .free "max", .free "min", .free "range", .free "str", .free "sum", .free "tuple", .free "zip", .int "LONGEST_PATH" 60, .int "MOST_STANDS" 40, .glo "WORDS"]
def loose : List PySem.Str := ["SeekError", "NoLength", "NoPlace", "NoStands", "NoAnswers", "LONGEST_PATH", "MOST_STANDS", "WORDS", "is_whole", "is_place", "is_word", "check_length", "check_place", "check_stands", "check_answers", "word_for", "answer_to_move", "row_of_answers", "answers_to", "can_lie", "count_wrong", "fewest_wrong", "_law_cell_at", "_law_draws", "_law_bag", "_law_bags", "_law_take", "_law_some_stands"]
abbrev R : PySem.W.OpenRow := PySem.W.OpenLaw.row PySem.Challenge.rw_warmcold_k10_whole_wrong_answers_and_pla
def exB (K : PySem.W.Frag) : Bool := He.tupB K "WORDS" [.str "warm", .str "cold", .str "same"]
abbrev hk : PySem.W.Hook := hookY 4 fa fn exB
def ob (s : PySem.W.SharedT) : He.AlD × Bool := obsYG 4 fa fn exB (HandSHeadRun.getT s)
theorem ob_eq (s : PySem.W.SharedT) : ob s = hk.obs s.abs := obsYG_eq (HandSHeadRun.getT_eq s)
theorem run (w : World) : HandSHeadRun.RunEq R (PySem.W.view R.prog [33]) hk ob 4000 loose w := by
  intro os
  kernel_rfl
theorem facts {P : Program} {w : World} {K : PySem.W.Frag} {h : Heap} {mg : Str → Option Value} {f : Addr} (X : K.In h) (G : h.Ns mainGlobals mg) (hfa : mg ("law" : Str) = some (.ref f)) (c2 : SaysY fa fn exB K) :
    ∃ fd : FuncData, (∀ (s : Shared) (v : Value), BindsTo s fd ⟨[v], []⟩ [("script", v)]) ∧ ∀ base : Heap, K.In base → base.Ns mainGlobals mg → FnOk P w K mg base CX0 6 f fd ["script"] (sp_law K) := by
  have c := c2.1
  obtain ⟨fd_is_whole, F_is_whole⟩ := c.def_ 0 (d := d_is_whole) rfl
  obtain ⟨fd_is_place, F_is_place⟩ := c.def_ 1 (d := d_is_place) rfl
  obtain ⟨fd_is_word, F_is_word⟩ := c.def_ 2 (d := d_is_word) rfl
  obtain ⟨fd_check_length, F_check_length⟩ := c.def_ 3 (d := d_check_length) rfl
  obtain ⟨fd_check_place, F_check_place⟩ := c.def_ 4 (d := d_check_place) rfl
  obtain ⟨fd_check_stands, F_check_stands⟩ := c.def_ 5 (d := d_check_stands) rfl
  obtain ⟨fd_check_answers, F_check_answers⟩ := c.def_ 6 (d := d_check_answers) rfl
  obtain ⟨fd_word_for, F_word_for⟩ := c.def_ 7 (d := d_word_for) rfl
  obtain ⟨fd_answer_to_move, F_answer_to_move⟩ := c.def_ 8 (d := d_answer_to_move) rfl
  obtain ⟨fd_row_of_answers, F_row_of_answers⟩ := c.def_ 9 (d := d_row_of_answers) rfl
  obtain ⟨fd_answers_to, F_answers_to⟩ := c.def_ 10 (d := d_answers_to) rfl
  obtain ⟨fd_can_lie, F_can_lie⟩ := c.def_ 11 (d := d_can_lie) rfl
  obtain ⟨fd_count_wrong, F_count_wrong⟩ := c.def_ 12 (d := d_count_wrong) rfl
  obtain ⟨fd_fewest_wrong, F_fewest_wrong⟩ := c.def_ 13 (d := d_fewest_wrong) rfl
  obtain ⟨fd__law_cell_at, F__law_cell_at⟩ := c.def_ 14 (d := d__law_cell_at) rfl
  obtain ⟨fd__law_draws, F__law_draws⟩ := c.def_ 15 (d := d__law_draws) rfl
  obtain ⟨fd__law_bag, F__law_bag⟩ := c.def_ 16 (d := d__law_bag) rfl
  obtain ⟨fd__law_bags, F__law_bags⟩ := c.def_ 17 (d := d__law_bags) rfl
  obtain ⟨fd__law_take, F__law_take⟩ := c.def_ 18 (d := d__law_take) rfl
  obtain ⟨fd__law_some_stands, F__law_some_stands⟩ := c.def_ 19 (d := d__law_some_stands) rfl
  obtain ⟨fd_law, F_law⟩ := c.def_ 20 (d := d_law) rfl
  have W : Wd K mg := {
    z_abs := He.free_ok X G (c.fact 21 (f := .free "abs") rfl)
    z_all := He.free_ok X G (c.fact 22 (f := .free "all") rfl)
    z_bool := He.free_ok X G (c.fact 23 (f := .free "bool") rfl)
    z_int := He.free_ok X G (c.fact 24 (f := .free "int") rfl)
    z_isinstance := He.free_ok X G (c.fact 25 (f := .free "isinstance") rfl)
    z_len := He.free_ok X G (c.fact 26 (f := .free "len") rfl)
    z_list := He.free_ok X G (c.fact 27 (f := .free "list") rfl)
    z_max := He.free_ok X G (c.fact 28 (f := .free "max") rfl)
    z_min := He.free_ok X G (c.fact 29 (f := .free "min") rfl)
    z_range := He.free_ok X G (c.fact 30 (f := .free "range") rfl)
    z_str := He.free_ok X G (c.fact 31 (f := .free "str") rfl)
    z_sum := He.free_ok X G (c.fact 32 (f := .free "sum") rfl)
    z_tuple := He.free_ok X G (c.fact 33 (f := .free "tuple") rfl)
    z_zip := He.free_ok X G (c.fact 34 (f := .free "zip") rfl)
    c_LONGEST_PATH := He.int_ok X G (c.fact 35 (f := .int "LONGEST_PATH" 60) rfl)
    c_MOST_STANDS := He.int_ok X G (c.fact 36 (f := .int "MOST_STANDS" 40) rfl)
    c_WORDS := He.glo_ok X G (c.fact 37 (f := .glo "WORDS") rfl)
    q_WORDS := fun H => He.tupB_ok (show He.tupB K "WORDS" _ = true from c2.2) H
  }
  have e := hfa.symm.trans (He.glo_ok X G (c.fact 20 (f := .glo "law") rfl))
  cases e
  have bL := FunD.bindsA (ps := ["script"]) F_law fun _ _ _ _ _ _ us hl => match us, hl with | [_], _ => rfl
  refine ⟨fd_law, fun s v => bL s [v] rfl, fun base _ _ => ?_⟩
  have O_is_whole : Own P w K mg base 1 "is_whole" ["value"] (sp_is_whole K) := ⟨_, fd_is_whole, ok_is_whole F_is_whole W , He.glo_ok X G (c.fact 0 (f := .glo "is_whole") rfl), F_is_whole.kp, FunD.bindsN F_is_whole fun _ _ _ _ _ _ us hl => match us, hl with | [_], _ => rfl⟩
  have O_is_place : Own P w K mg base 2 "is_place" ["value", "length"] (sp_is_place K) := ⟨_, fd_is_place, ok_is_place F_is_place W O_is_whole, He.glo_ok X G (c.fact 1 (f := .glo "is_place") rfl), F_is_place.kp, FunD.bindsN F_is_place fun _ _ _ _ _ _ us hl => match us, hl with | [_, _], _ => rfl⟩
  have O_is_word : Own P w K mg base 1 "is_word" ["value"] (sp_is_word K) := ⟨_, fd_is_word, ok_is_word F_is_word W , He.glo_ok X G (c.fact 2 (f := .glo "is_word") rfl), F_is_word.kp, FunD.bindsN F_is_word fun _ _ _ _ _ _ us hl => match us, hl with | [_], _ => rfl⟩
  have O_check_length : Own P w K mg base 3 "check_length" ["length"] (sp_check_length K) := ⟨_, fd_check_length, ok_check_length F_check_length W O_is_place, He.glo_ok X G (c.fact 3 (f := .glo "check_length") rfl), F_check_length.kp, FunD.bindsN F_check_length fun _ _ _ _ _ _ us hl => match us, hl with | [_], _ => rfl⟩
  have O_check_place : Own P w K mg base 3 "check_place" ["place", "length"] (sp_check_place K) := ⟨_, fd_check_place, ok_check_place F_check_place W O_is_place, He.glo_ok X G (c.fact 4 (f := .glo "check_place") rfl), F_check_place.kp, FunD.bindsN F_check_place fun _ _ _ _ _ _ us hl => match us, hl with | [_, _], _ => rfl⟩
  have O_check_stands : Own P w K mg base 3 "check_stands" ["stands", "length"] (sp_check_stands K) := ⟨_, fd_check_stands, ok_check_stands F_check_stands W O_is_place, He.glo_ok X G (c.fact 5 (f := .glo "check_stands") rfl), F_check_stands.kp, FunD.bindsN F_check_stands fun _ _ _ _ _ _ us hl => match us, hl with | [_, _], _ => rfl⟩
  have O_check_answers : Own P w K mg base 2 "check_answers" ["answers", "stands"] (sp_check_answers K) := ⟨_, fd_check_answers, ok_check_answers F_check_answers W O_is_word, He.glo_ok X G (c.fact 6 (f := .glo "check_answers") rfl), F_check_answers.kp, FunD.bindsN F_check_answers fun _ _ _ _ _ _ us hl => match us, hl with | [_, _], _ => rfl⟩
  have O_word_for : Own P w K mg base 1 "word_for" ["before", "after"] (sp_word_for K) := ⟨_, fd_word_for, ok_word_for F_word_for W , He.glo_ok X G (c.fact 7 (f := .glo "word_for") rfl), F_word_for.kp, FunD.bindsN F_word_for fun _ _ _ _ _ _ us hl => match us, hl with | [_, _], _ => rfl⟩
  have O_answer_to_move : Own P w K mg base 2 "answer_to_move" ["thing", "earlier", "later"] (sp_answer_to_move K) := ⟨_, fd_answer_to_move, ok_answer_to_move F_answer_to_move W O_word_for, He.glo_ok X G (c.fact 8 (f := .glo "answer_to_move") rfl), F_answer_to_move.kp, FunD.bindsN F_answer_to_move fun _ _ _ _ _ _ us hl => match us, hl with | [_, _, _], _ => rfl⟩
  have O_row_of_answers : Own P w K mg base 3 "row_of_answers" ["thing", "stands"] (sp_row_of_answers K) := ⟨_, fd_row_of_answers, ok_row_of_answers F_row_of_answers W O_answer_to_move, He.glo_ok X G (c.fact 9 (f := .glo "row_of_answers") rfl), F_row_of_answers.kp, FunD.bindsN F_row_of_answers fun _ _ _ _ _ _ us hl => match us, hl with | [_, _], _ => rfl⟩
  have O_answers_to : Own P w K mg base 4 "answers_to" ["length", "thing", "stands"] (sp_answers_to K) := ⟨_, fd_answers_to, ok_answers_to F_answers_to W O_check_length O_check_place O_check_stands O_row_of_answers, He.glo_ok X G (c.fact 10 (f := .glo "answers_to") rfl), F_answers_to.kp, FunD.bindsN F_answers_to fun _ _ _ _ _ _ us hl => match us, hl with | [_, _, _], _ => rfl⟩
  have O_can_lie : Own P w K mg base 4 "can_lie" ["length", "stands", "answers"] (sp_can_lie K) := ⟨_, fd_can_lie, ok_can_lie F_can_lie W O_check_length O_check_stands O_check_answers O_row_of_answers, He.glo_ok X G (c.fact 11 (f := .glo "can_lie") rfl), F_can_lie.kp, FunD.bindsN F_can_lie fun _ _ _ _ _ _ us hl => match us, hl with | [_, _, _], _ => rfl⟩
  have O_count_wrong : Own P w K mg base 4 "count_wrong" ["thing", "stands", "answers"] (sp_count_wrong K) := ⟨_, fd_count_wrong, ok_count_wrong F_count_wrong W O_row_of_answers, He.glo_ok X G (c.fact 12 (f := .glo "count_wrong") rfl), F_count_wrong.kp, FunD.bindsN F_count_wrong fun _ _ _ _ _ _ us hl => match us, hl with | [_, _, _], _ => rfl⟩
  have O_fewest_wrong : Own P w K mg base 5 "fewest_wrong" ["length", "stands", "answers"] (sp_fewest_wrong K) := ⟨_, fd_fewest_wrong, ok_fewest_wrong F_fewest_wrong W O_check_length O_check_stands O_check_answers O_count_wrong, He.glo_ok X G (c.fact 13 (f := .glo "fewest_wrong") rfl), F_fewest_wrong.kp, FunD.bindsN F_fewest_wrong fun _ _ _ _ _ _ us hl => match us, hl with | [_, _, _], _ => rfl⟩
  have O__law_cell_at : Own P w K mg base 1 "_law_cell_at" ["script", "k"] (sp__law_cell_at K) := ⟨_, fd__law_cell_at, ok__law_cell_at F__law_cell_at W , He.glo_ok X G (c.fact 14 (f := .glo "_law_cell_at") rfl), F__law_cell_at.kp, FunD.bindsN F__law_cell_at fun _ _ _ _ _ _ us hl => match us, hl with | [_, _], _ => rfl⟩
  have O__law_draws : Own P w K mg base 1 "_law_draws" ["cell", "many", "size"] (sp__law_draws K) := ⟨_, fd__law_draws, ok__law_draws F__law_draws W , He.glo_ok X G (c.fact 15 (f := .glo "_law_draws") rfl), F__law_draws.kp, FunD.bindsN F__law_draws fun _ _ _ _ _ _ us hl => match us, hl with | [_, _, _], _ => rfl⟩
  have O__law_bag : Own P w K mg base 2 "_law_bag" ["script", "k"] (sp__law_bag K) := ⟨_, fd__law_bag, ok__law_bag F__law_bag W O__law_draws O__law_cell_at, He.glo_ok X G (c.fact 16 (f := .glo "_law_bag") rfl), F__law_bag.kp, FunD.bindsN F__law_bag fun _ _ _ _ _ _ us hl => match us, hl with | [_, _], _ => rfl⟩
  have O__law_bags : Own P w K mg base 3 "_law_bags" ["script", "limit"] (sp__law_bags K) := ⟨_, fd__law_bags, ok__law_bags F__law_bags W O__law_bag, He.glo_ok X G (c.fact 17 (f := .glo "_law_bags") rfl), F__law_bags.kp, FunD.bindsN F__law_bags fun _ _ _ _ _ _ us hl => match us, hl with | [_, _], _ => rfl⟩
  have O__law_take : Own P w K mg base 1 "_law_take" ["bag", "many"] (sp__law_take K) := ⟨_, fd__law_take, ok__law_take F__law_take W , He.glo_ok X G (c.fact 18 (f := .glo "_law_take") rfl), F__law_take.kp, FunD.bindsN F__law_take fun _ _ _ _ _ _ us hl => match us, hl with | [_, _], _ => rfl⟩
  have O__law_some_stands : Own P w K mg base 2 "_law_some_stands" ["bag", "length", "most"] (sp__law_some_stands K) := ⟨_, fd__law_some_stands, ok__law_some_stands F__law_some_stands W O__law_take, He.glo_ok X G (c.fact 19 (f := .glo "_law_some_stands") rfl), F__law_some_stands.kp, FunD.bindsN F__law_some_stands fun _ _ _ _ _ _ us hl => match us, hl with | [_, _, _], _ => rfl⟩
  exact ok_law F_law W O__law_bags O__law_take O__law_some_stands O_answers_to O_fewest_wrong O_can_lie
end Wc
open PySem PySem.W PySem.Calls PyProof.Rows
set_option maxRecDepth 100000 in
set_option maxHeartbeats 0 in
theorem PySem.Challenge.cw_warmcold_k10_whole_wrong_answers_and_pla_holds : PySem.Challenge.rw_warmcold_k10_whole_wrong_answers_and_pla.Holds := by
  w_on; o_law
  refine HandSHeadRun.head_any (r := OpenLaw.row PySem.Challenge.rw_warmcold_k10_whole_wrong_answers_and_pla) (q := view (OpenLaw.row PySem.Challenge.rw_warmcold_k10_whole_wrong_answers_and_pla).prog [33]) (H := Wc.hk) (ob := Wc.ob) (M := 4000) (loose := Wc.loose) (d := HandSHeadRun.topDef (OpenLaw.row PySem.Challenge.rw_warmcold_k10_whole_wrong_answers_and_pla).prog 33) (kwd := []) Wc.ob_eq (by kernel_rfl) (fun s => by kernel_rfl) Wc.run (by kernel_rfl) (by kernel_rfl) (by kernel_rfl) (by rfl) (by first | assumption | decide +kernel) (by decide +kernel) ⟨rfl, rfl, rfl, rfl, rfl, by decide +kernel⟩ ?hw ?hc
  case hw => w_witness2
  case hc =>
    refine L2.walk_ofE (l := PySem.Challenge.rw_warmcold_k10_whole_wrong_answers_and_pla) (n := 63) (k := 6) (x := "script") (CX := L2.CX0) rfl (by decide) (by kernel_rfl) ⟨rfl, by decide, by decide⟩ ?F (fun _ _ _ _ z => z)
    intro w mg fa h Y G hmg0
    obtain ⟨K, KX, c⟩ := Y
    have hmg : mg ("law" : PySem.Str) = some (.ref fa) := by
      have e : (HandSHeadRun.topDef (OpenLaw.row PySem.Challenge.rw_warmcold_k10_whole_wrong_answers_and_pla).prog 33).name = ("law" : PySem.Str) := by kernel_rfl
      rw [← e]
      exact hmg0
    obtain ⟨fd, hb, hF⟩ := Wc.facts (P := (PySem.Challenge.rw_warmcold_k10_whole_wrong_answers_and_pla).prog) (w := w) KX G hmg c
    exact ⟨K, fd, Wc.sp_law K, KX, hb, fun H a ns hl _ hS => ⟨a, ns, rfl, hS, hl, fun _ => rfl⟩, hF⟩
