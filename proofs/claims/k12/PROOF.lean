import PyProof.Rows.All
import Wide.All
import OpenK.AllK
import Wide.FinOn
import KE.KStateDown
import HandS.ForMost
import HandS.Defaults
import HandS.IsInst
import HandS.Conv
import HandS.Style
import HandS.Evl
import HandS.Head0
import HandS.Head1
import HandS.Head2
import HandS.HeadEnd
import HandS.HeadHook1
import HandS.HeadHook2
import KE.KRevSl
import HandS.TupSets
import HandS.Deep
import HandS.TupAny
import KE.DatumOrd
import PyProof.Rows.RowBridgeK
import HandS.Walk
import KE.KeyNested
import PySem.Challenge.RW_warmcold_k12_whole_rings_turned
set_option Elab.async false
set_option linter.all false
set_option maxRecDepth 100000
set_option maxHeartbeats 2000000
namespace Wc
open PySem PySem.Spec PyProof.Rows L2
open Evl (Ex ex_l ex_t fresh_back)
/-! ### own defs by their promises -/
structure Own (P : Program) (w : World) (K : PySem.W.Frag) (mg : Str → Option Value) (base : Heap) (k : Nat) (x : Str) (ps : List Str) (sp : Sp) : Prop where
  ex : ∃ (f : Addr) (fd : FuncData), FnOk P w K mg base CX0 k f fd ps sp ∧ mg x = some (.ref f) ∧ PySem.W.keepIn K (.ref f) = true ∧ Binds K fd ps []
theorem pe_callO {X : Cx} {k k' : Nat} {x : Str} {ps : List Str} {sp : Sp} {p pos : Pos} {e : Expr} {es : List Expr} {t : TA}
    (O : Own X.prog X.w X.K X.mg X.base k x ps sp) (hr : Room k' X.A) (hk : k ≤ k') (hg : Gl X x) (ha : PA X (e :: es) t)
    (hdb : (x == ("__debug__" : Str)) = false := by decide) (he : starEach (e :: es) X.env = (false, eval e X.env) :: starEach es X.env := by rfl) (hpl : (backTo pos (starEach es X.env)).any (·.1) = false := by rfl) :
    PE X (.Call (.Name x p) (e :: es) [] pos) (tCall sp [] E0 t) := by
  obtain ⟨f, fd, F, hm, hkp, hb⟩ := O.ex
  exact pe_call F (hr.mono hk) hg hm hkp hb .nil pass0 ha hdb he hpl
theorem units65 {k : Nat} {A : Around} (hr : Room k A) : A.units + 65 < cLine := by
  have := hr.un
  omega
abbrev FnP (K : PySem.W.Frag) (x : Str) (st : Stmt) (f : Addr) (fd : FuncData) : Prop := FunD K x x (defArgs st) (defBody st) (defScope st) [] [] f fd
/-! ### the head's facts, with one Bool more -/
def obsY (fa : List He.Fa) (fn : List He.DefD) (ex : PySem.W.Frag → Bool) (K : PySem.W.Frag) : He.AlD × Bool := (He.obsD fa fn K, ex K)
def obsYG (n : Nat) (fa : List He.Fa) (fn : List He.DefD) (ex : PySem.W.Frag → Bool) (g : Addr → Option Obj) : He.AlD × Bool := obsY fa fn ex (He.frG g (He.asD g n))
def SaysY (fa : List He.Fa) (fn : List He.DefD) (ex : PySem.W.Frag → Bool) (K : PySem.W.Frag) : Prop := He.SaysD fa fn K ∧ ex K = true
def hookY (n : Nat) (fa : List He.Fa) (fn : List He.DefD) (ex : PySem.W.Frag → Bool) : PySem.W.Hook where
  α := He.AlD × Bool
  obs := fun s => obsYG n fa fn ex s.heap.get?
  val := fun _ => (He.valD fn, true)
  says := fun _ h => ∃ K : PySem.W.Frag, K.In h ∧ SaysY fa fn ex K
  of := fun _ _ e => ⟨_, He.frG_in, congrArg Prod.fst e, congrArg Prod.snd e⟩
  keeps := fun _ _ _ ⟨K, hK, c⟩ k => ⟨K, PySem.W.Frag.In.keeps hK k, c⟩
theorem obsYG_eq {n : Nat} {fa : List He.Fa} {fn : List He.DefD} {ex : PySem.W.Frag → Bool} {g : Addr → Option Obj} {s : Shared} (h : ∀ a, g a = s.heap.get? a) : obsYG n fa fn ex g = (hookY n fa fn ex).obs s := by
  have e : g = s.heap.get? := funext h
  rw [e]
  rfl
/-! ### built-ins -/
theorem bb_abs : bootBuiltins "abs" = some (.builtin "abs") := by decide +kernel
theorem bb_max : bootBuiltins "max" = some (.builtin "max") := by decide +kernel
theorem bb_min : bootBuiltins "min" = some (.builtin "min") := by decide +kernel
theorem bb_all : bootBuiltins "all" = some (.builtin "all") := by decide +kernel
theorem bb_sum : bootBuiltins "sum" = some (.builtin "sum") := by decide +kernel
theorem bb_sorted : bootBuiltins "sorted" = some (.builtin "sorted") := by decide +kernel
theorem bb_isinstance : bootBuiltins "isinstance" = some (.builtin "isinstance") := by decide +kernel
theorem bt_int : bootBuiltins "int" = some (.type "int") := by decide +kernel
theorem bt_bool : bootBuiltins "bool" = some (.type "bool") := by decide +kernel
theorem bt_str : bootBuiltins "str" = some (.type "str") := by decide +kernel
theorem bt_list : bootBuiltins "list" = some (.type "list") := by decide +kernel
theorem bt_tuple : bootBuiltins "tuple" = some (.type "tuple") := by decide +kernel
abbrev rAbs : List V → Hp → VK → Prop := fun xs H Q => ∃ i, xs = [.int i] ∧ Q (.int (if i < 0 then -i else i)) H
abbrev rMax2 : List V → Hp → VK → Prop := fun xs H Q => ∃ i j, xs = [.int i, .int j] ∧ Q (.int (if j > i then j else i)) H
abbrev rMin2 : List V → Hp → VK → Prop := fun xs H Q => ∃ i j, xs = [.int i, .int j] ∧ Q (.int (if j < i then j else i)) H
abbrev rInt1 : List V → Hp → VK → Prop := fun xs H Q => (∃ i, xs = [.int i] ∧ Q (.int i) H) ∨ ∃ k, xs = [.bl k] ∧ Q (.int (if k then 1 else 0)) H
abbrev rLenQ (K : PySem.W.Frag) : List V → Hp → VK → Prop := fun xs H Q => ∃ p ys, xs = [.ref p] ∧ (SqL K H p ys ∨ SqT K H p ys) ∧ Q (.int ys.length) H
abbrev rListOf (K : PySem.W.Frag) : List V → Hp → VK → Prop := fun xs H Q => ∃ p ys, xs = [.ref p] ∧ (SqL K H p ys ∨ SqT K H p ys) ∧ ∀ l, H l = none → Q (.ref l) (upd H l (.lst ys))
abbrev rTupleOf (K : PySem.W.Frag) : List V → Hp → VK → Prop := fun xs H Q => ∃ p ys, xs = [.ref p] ∧ ((SqL K H p ys ∧ ∀ l, H l = none → Q (.ref l) (upd H l (.tup ys))) ∨ (SqT K H p ys ∧ Q (.ref p) H))
/-! ### words -/
inductive Wo where
  | warm | cold | same
  deriving DecidableEq
def Wo.str : Wo → Str
  | .warm => "warm"
  | .cold => "cold"
  | .same => "same"
def vW (x : Wo) : V := .str x.str
theorem Wo.str_inj {x y : Wo} (h : x.str = y.str) : x = y := by
  revert h
  cases x <;> cases y <;> first | (intro _; rfl) | (intro h; exact absurd h (by decide +kernel))
theorem vW_inj {x y : Wo} (h : vW x = vW y) : x = y := Wo.str_inj (V.str.inj h)
def ab (i : Int) : Int := if i < 0 then -i else i
def word (far near : Int) : Wo := if near < far then .warm else if far < near then .cold else .same
def mv (t e l : Int) : Wo := word (ab (t - e)) (ab (t - l))
def wordsOf (t : Int) : List Int → List Wo
  | e :: l :: r => mv t e l :: wordsOf t (l :: r)
  | _ => []
theorem wordsOf_len (t : Int) : ∀ ns : List Int, (wordsOf t ns).length = ns.length - 1
  | [] => rfl
  | [_] => rfl
  | x :: y :: r => by
    show (wordsOf t (y :: r)).length + 1 = (y :: r).length + 1 - 1
    rw [wordsOf_len t (y :: r)]
    simp
theorem wordsOf_get (t : Int) : ∀ (ns : List Int) (i : Nat) (x y : Int), ns[i]? = some x → ns[i + 1]? = some y → (wordsOf t ns)[i]? = some (mv t x y)
  | [], _, _, _, h, _ => by simp at h
  | [_], 0, _, _, _, h => by simp at h
  | [_], i + 1, _, _, h, _ => by simp at h
  | a :: b :: r, 0, x, y, h, h2 => by
    have e1 : a = x := Option.some.inj h
    have e2 : b = y := Option.some.inj h2
    rw [← e1, ← e2]
    rfl
  | a :: b :: r, i + 1, x, y, h, h2 => wordsOf_get t (b :: r) i x y h h2
/-! ### data -/
theorem dpI {K : PySem.W.Frag} {H : Hp} : ∀ ns : List Int, DpAll K H (ns.map V.int) (ns.map PyData.int)
  | [] => .nil
  | n :: r => .cons (.int n) (dpI r)
theorem dpW {K : PySem.W.Frag} {H : Hp} : ∀ ws : List Wo, DpAll K H (ws.map vW) (ws.map fun x => PyData.str x.str)
  | [] => .nil
  | x :: r => .cons (.str x.str) (dpW r)
theorem shI : ∀ ns : List Int, PyData.canLayAll0 (ns.map PyData.int) = true ∧ PyData.depthAll (ns.map PyData.int) = 0
  | [] => ⟨rfl, rfl⟩
  | n :: r => by
    obtain ⟨h1, h2⟩ := shI r
    constructor
    · show (PyData.canLay0 (PyData.int n) && PyData.canLayAll0 (r.map PyData.int)) = true
      rw [h1] <;> rfl
    · show max (PyData.depth (PyData.int n)) (PyData.depthAll (r.map PyData.int)) = 0
      rw [h2] <;> rfl
theorem strOk_w (x : Wo) : PyData.canLay0 (PyData.str x.str) = true := by
  cases x <;> decide +kernel
theorem shW : ∀ ws : List Wo, PyData.canLayAll0 (ws.map fun x => PyData.str x.str) = true ∧ PyData.depthAll (ws.map fun x => PyData.str x.str) = 0
  | [] => ⟨rfl, rfl⟩
  | x :: r => by
    obtain ⟨h1, h2⟩ := shW r
    constructor
    · show (PyData.canLay0 (PyData.str x.str) && PyData.canLayAll0 (r.map fun x => PyData.str x.str)) = true
      rw [h1, strOk_w] <;> rfl
    · show max (PyData.depth (PyData.str x.str)) (PyData.depthAll (r.map fun x => PyData.str x.str)) = 0
      rw [h2] <;> rfl
theorem shaped_l {ds : List PyData} (h : PyData.canLayAll0 ds = true ∧ PyData.depthAll ds = 0) : SeqAt.shaped (.list ds) = true := by
  unfold SeqAt.shaped
  have e1 : PyData.canLay0 (.list ds) = true := h.1
  have e2 : PyData.depth (.list ds) = 1 := by
    show PyData.depthAll ds + 1 = 1
    rw [h.2]
  rw [e1, e2] <;> rfl
theorem shaped_t {ds : List PyData} (h : PyData.canLayAll0 ds = true ∧ PyData.depthAll ds = 0) : SeqAt.shaped (.tuple ds) = true := by
  unfold SeqAt.shaped
  have e1 : PyData.canLay0 (.tuple ds) = true := h.1
  have e2 : PyData.depth (.tuple ds) = 1 := by
    show PyData.depthAll ds + 1 = 1
    rw [h.2]
  rw [e1, e2] <;> rfl
theorem eqvI : ∀ ns ms : List Int, PyData.eqvAll (ns.map PyData.int) (ms.map PyData.int) = decide (ns = ms)
  | [], [] => rfl
  | [], _ :: _ => rfl
  | _ :: _, [] => rfl
  | n :: r, m :: q => by
    show (PyData.eqv (PyData.int n) (PyData.int m) && PyData.eqvAll (r.map PyData.int) (q.map PyData.int)) = _
    rw [eqvI r q]
    show ((n == m) && decide (r = q)) = _
    by_cases h1 : n = m <;> by_cases h2 : r = q <;> simp [h1, h2]
theorem eqvW : ∀ ns ms : List Wo, PyData.eqvAll (ns.map fun x => PyData.str x.str) (ms.map fun x => PyData.str x.str) = decide (ns = ms)
  | [], [] => rfl
  | [], _ :: _ => rfl
  | _ :: _, [] => rfl
  | n :: r, m :: q => by
    show (PyData.eqv (PyData.str n.str) (PyData.str m.str) && PyData.eqvAll (r.map fun x => PyData.str x.str) (q.map fun x => PyData.str x.str)) = _
    rw [eqvW r q]
    show ((n.str == m.str) && decide (r = q)) = _
    have e : (n.str == m.str) = decide (n = m) := by
      cases n <;> cases m <;> decide +kernel
    rw [e]
    by_cases h1 : n = m <;> by_cases h2 : r = q <;> simp [h1, h2]
/-- two lists of ints, of words, compared -/
theorem eqII {K : PySem.W.Frag} {H : Hp} {a b : Addr} {ns ms : List Int} {Q : VK} (h1 : SqL K H a (ns.map V.int)) (h2 : SqL K H b (ms.map V.int)) (q : Q (.bl (decide (ns = ms))) H) : rEqD K (.ref a) (.ref b) H Q := by
  refine ⟨_, _, .lst h1 (dpI ns), .lst h2 (dpI ms), shaped_l (shI ns), shaped_l (shI ms), ?_⟩
  show Q (.bl (PyData.eqvAll (ns.map PyData.int) (ms.map PyData.int))) H
  rw [eqvI]
  exact q
theorem neII {K : PySem.W.Frag} {H : Hp} {a b : Addr} {ns ms : List Int} {Q : VK} (h1 : SqL K H a (ns.map V.int)) (h2 : SqL K H b (ms.map V.int)) (q : Q (.bl (!decide (ns = ms))) H) : rNeD K (.ref a) (.ref b) H Q := by
  refine ⟨_, _, .lst h1 (dpI ns), .lst h2 (dpI ms), shaped_l (shI ns), shaped_l (shI ms), ?_⟩
  show Q (.bl (!PyData.eqvAll (ns.map PyData.int) (ms.map PyData.int))) H
  rw [eqvI]
  exact q
theorem eqWW {K : PySem.W.Frag} {H : Hp} {a b : Addr} {ns ms : List Wo} {Q : VK} (h1 : SqL K H a (ns.map vW)) (h2 : SqL K H b (ms.map vW)) (q : Q (.bl (decide (ns = ms))) H) : rEqD K (.ref a) (.ref b) H Q := by
  refine ⟨_, _, .lst h1 (dpW ns), .lst h2 (dpW ms), shaped_l (shW ns), shaped_l (shW ms), ?_⟩
  show Q (.bl (PyData.eqvAll (ns.map fun x => PyData.str x.str) (ms.map fun x => PyData.str x.str))) H
  rw [eqvW]
  exact q
theorem neWW {K : PySem.W.Frag} {H : Hp} {a b : Addr} {ns ms : List Wo} {Q : VK} (h1 : SqL K H a (ns.map vW)) (h2 : SqL K H b (ms.map vW)) (q : Q (.bl (!decide (ns = ms))) H) : rNeD K (.ref a) (.ref b) H Q := by
  refine ⟨_, _, .lst h1 (dpW ns), .lst h2 (dpW ms), shaped_l (shW ns), shaped_l (shW ms), ?_⟩
  show Q (.bl (!PyData.eqvAll (ns.map fun x => PyData.str x.str) (ms.map fun x => PyData.str x.str))) H
  rw [eqvW]
  exact q
theorem eqTT {K : PySem.W.Frag} {H : Hp} {a b : Addr} {ns ms : List Int} {Q : VK} (h1 : SqT K H a (ns.map V.int)) (h2 : SqT K H b (ms.map V.int)) (q : Q (.bl (decide (ns = ms))) H) : rEqD K (.ref a) (.ref b) H Q := by
  refine ⟨_, _, .tup h1 (dpI ns), .tup h2 (dpI ms), shaped_t (shI ns), shaped_t (shI ms), ?_⟩
  show Q (.bl (PyData.eqvAll (ns.map PyData.int) (ms.map PyData.int))) H
  rw [eqvI]
  exact q
theorem neTT {K : PySem.W.Frag} {H : Hp} {a b : Addr} {ns ms : List Int} {Q : VK} (h1 : SqT K H a (ns.map V.int)) (h2 : SqT K H b (ms.map V.int)) (q : Q (.bl (!decide (ns = ms))) H) : rNeD K (.ref a) (.ref b) H Q := by
  refine ⟨_, _, .tup h1 (dpI ns), .tup h2 (dpI ms), shaped_t (shI ns), shaped_t (shI ms), ?_⟩
  show Q (.bl (!PyData.eqvAll (ns.map PyData.int) (ms.map PyData.int))) H
  rw [eqvI]
  exact q
/-! ### comprehensions, slices -/
theorem given_all (n : Nat) (v : Nat → V) : Evl.given n (fun _ => true) v = (List.range n).map v := by
  unfold Evl.given
  rw [List.filter_eq_self.mpr (fun _ _ => rfl)]
theorem range_map (ns : List Int) (F : Int → V) : (List.range ns.length).map (fun i => F (ns.getD i 0)) = ns.map F := by
  apply List.ext_getElem?
  intro i
  rw [List.getElem?_map, List.getElem?_map]
  by_cases h : i < ns.length
  · rw [List.getElem?_range h, List.getElem?_eq_getElem h]
    show some (F (ns.getD i 0)) = some (F ns[i])
    rw [List.getD_eq_getElem?_getD, List.getElem?_eq_getElem h]
    rfl
  · rw [List.getElem?_eq_none (by rw [List.length_range]; omega), List.getElem?_eq_none (by omega)]
    rfl
/-- a list of ints, each sent on -/
theorem el_map {K : PySem.W.Frag} {σ : L2.St} {H : Hp} {a : Addr} {ns : List Int} {tl te : TE} {j : Nat} {vs : List Nat} (F : Int → V) (h : Evl.Ev tl σ H (.ref a)) (hx : SqL K H a (ns.map V.int)) (hz : ns.length ≤ 40000)
    (hw : ∀ x, wipe ((wipe σ vs).set j (some x)) vs = wipe σ vs) (he : ∀ n H1, Ex H H1 → n ∈ ns → Evl.Ev te ((wipe σ vs).set j (some (.int n))) H1 (F n)) : Evl.EvL (tLc (iList K tl) (gName j) tYes te vs) σ H (ns.map F) := by
  have r := Evl.el_lcL (K := K) (xs := ns.map V.int) (te := te) (t := tYes) (vs := vs) (j := j) (fun _ => true) (fun i => F (ns.getD i 0)) h hx (by rw [List.length_map]; exact hz) hw (fun i x H1 _ _ => fun H2 _ Q q => q H2 (Ex.refl H2)) (fun i x H1 e hi _ => by
    rw [List.getElem?_map] at hi
    by_cases hl : i < ns.length
    · rw [List.getElem?_eq_getElem hl] at hi
      have ex : x = .int ns[i] := (Option.some.inj hi).symm
      have eg : ns.getD i 0 = ns[i] := by
        rw [List.getD_eq_getElem?_getD, List.getElem?_eq_getElem hl]
        rfl
      rw [ex]
      show Evl.Ev te ((wipe σ vs).set j (some (.int ns[i]))) H1 (F (ns.getD i 0))
      rw [eg]
      exact he ns[i] H1 e (List.getElem_mem hl)
    · rw [List.getElem?_eq_none (by omega)] at hi
      cases hi)
  rw [given_all, List.length_map, range_map] at r
  exact r
/-- the same of any list -/
theorem range_mapG {α : Type} (d : α) (ns : List α) (F : α → V) : (List.range ns.length).map (fun i => F (ns.getD i d)) = ns.map F := by
  apply List.ext_getElem?
  intro i
  rw [List.getElem?_map, List.getElem?_map]
  by_cases h : i < ns.length
  · rw [List.getElem?_range h, List.getElem?_eq_getElem h]
    show some (F (ns.getD i d)) = some (F ns[i])
    rw [List.getD_eq_getElem?_getD, List.getElem?_eq_getElem h]
    rfl
  · rw [List.getElem?_eq_none (by rw [List.length_range]; omega), List.getElem?_eq_none (by omega)]
    rfl
theorem el_mapG {α : Type} (d : α) (em : α → V) {K : PySem.W.Frag} {σ : L2.St} {H : Hp} {a : Addr} {ns : List α} {tl te : TE} {j : Nat} {vs : List Nat} (F : α → V) (h : Evl.Ev tl σ H (.ref a)) (hx : SqL K H a (ns.map em)) (hz : ns.length ≤ 40000)
    (hw : ∀ x, wipe ((wipe σ vs).set j (some x)) vs = wipe σ vs) (he : ∀ n H1, Ex H H1 → n ∈ ns → Evl.Ev te ((wipe σ vs).set j (some (em n))) H1 (F n)) : Evl.EvL (tLc (iList K tl) (gName j) tYes te vs) σ H (ns.map F) := by
  have r := Evl.el_lcL (K := K) (xs := ns.map em) (te := te) (t := tYes) (vs := vs) (j := j) (fun _ => true) (fun i => F (ns.getD i d)) h hx (by rw [List.length_map]; exact hz) hw (fun i x H1 _ _ => fun H2 _ Q q => q H2 (Ex.refl H2)) (fun i x H1 e hi _ => by
    rw [List.getElem?_map] at hi
    by_cases hl : i < ns.length
    · rw [List.getElem?_eq_getElem hl] at hi
      have ex : x = em ns[i] := (Option.some.inj hi).symm
      have eg : ns.getD i d = ns[i] := by
        rw [List.getD_eq_getElem?_getD, List.getElem?_eq_getElem hl]
        rfl
      rw [ex]
      show Evl.Ev te ((wipe σ vs).set j (some (em ns[i]))) H1 (F (ns.getD i d))
      rw [eg]
      exact he ns[i] H1 e (List.getElem_mem hl)
    · rw [List.getElem?_eq_none (by omega)] at hi
      cases hi)
  rw [given_all, List.length_map, range_mapG] at r
  exact r
/-- the whole numbers from lo up to below hi -/
def rng (lo hi : Int) : List Int := (List.range (hi - lo).toNat).map fun i : Nat => lo + (i : Int)
theorem mem_rng {lo hi n : Int} : n ∈ rng lo hi ↔ lo ≤ n ∧ n < hi := by
  unfold rng
  rw [List.mem_map]
  constructor
  · rintro ⟨k, hk, rfl⟩
    have := List.mem_range.mp hk
    omega
  · intro h
    exact ⟨(n - lo).toNat, List.mem_range.mpr (by omega), by omega⟩
theorem rng_len (lo hi : Int) : (rng lo hi).length = (hi - lo).toNat := by
  unfold rng
  rw [List.length_map, List.length_range]
theorem given_rng (lo hi : Int) (f : Int → Bool) (F : Int → V) : Evl.given (hi - lo).toNat (fun i => f (lo + (i : Int))) (fun i => F (lo + (i : Int))) = ((rng lo hi).filter f).map F := by
  unfold Evl.given rng
  rw [List.filter_map, List.map_map]
  rfl
/-- a comprehension over range(lo, hi) that keeps some -/
theorem el_rng {σ : L2.St} {H : Hp} {ta : TA} {t : TT} {te : TE} {j : Nat} {vs : List Nat} {lo hi : Int} (f : Int → Bool) (F : Int → V) (h : Evl.EvA ta σ H [.int lo, .int hi]) (hb : -30000 ≤ lo ∧ lo ≤ 30000 ∧ -30000 ≤ hi ∧ hi ≤ 10000)
    (hw : ∀ x, wipe ((wipe σ vs).set j (some x)) vs = wipe σ vs) (ht : ∀ n H1, Ex H H1 → lo ≤ n → n < hi → Evl.EvT t ((wipe σ vs).set j (some (.int n))) H1 (f n))
    (he : ∀ n H1, Ex H H1 → lo ≤ n → n < hi → f n = true → Evl.Ev te ((wipe σ vs).set j (some (.int n))) H1 (F n)) : Evl.EvL (tLc (iRng2 ta) (gName j) t te vs) σ H (((rng lo hi).filter f).map F) := fun H0 e Q q => h H0 e _ fun H1 e1 =>
  ⟨lo, hi, rfl, ⟨by omega, by omega, by omega, by omega⟩, fun Dl hD =>
    lc_range (lo := lo) (n := (hi - lo).toNat) (Evl.Cw H1 (fun i => f (lo + (i : Int))) (fun i => F (lo + (i : Int))) Dl) ⟨hD, Ex.new hD, upd_same⟩ (fun i H' hi' p =>
      ⟨hw _, Evl.cw_turn p (by omega) (ht (lo + (i : Int)) H1 (e.trans e1) (by omega) (by omega)) (fun hf => he (lo + (i : Int)) H1 (e.trans e1) (by omega) (by omega) hf)⟩)
      (fun H' p => by
        have p3 := p.2.2
        rw [given_rng] at p3
        exact q Dl H' (fresh_back e1 p.1) (e1.trans p.2.1) p3)⟩
theorem given_list (ns : List Int) (f : Int → Bool) (F : Int → V) : Evl.given ns.length (fun i => f (ns.getD i 0)) (fun i => F (ns.getD i 0)) = (ns.filter f).map F := by
  have e : (List.range ns.length).map (fun i => ns.getD i 0) = ns := by
    apply List.ext_getElem?
    intro i
    rw [List.getElem?_map]
    by_cases h : i < ns.length
    · rw [List.getElem?_range h, List.getElem?_eq_getElem h]
      show some (ns.getD i 0) = some ns[i]
      rw [List.getD_eq_getElem?_getD, List.getElem?_eq_getElem h]
      rfl
    · rw [List.getElem?_eq_none (by rw [List.length_range]; omega), List.getElem?_eq_none (by omega)]
      rfl
  unfold Evl.given
  conv => rhs; rw [← e]
  rw [List.filter_map, List.map_map]
  rfl
theorem getD_at {ns : List Int} {i : Nat} {x : V} (hi : (ns.map V.int)[i]? = some x) : ns.getD i 0 ∈ ns ∧ x = .int (ns.getD i 0) := by
  rw [List.getElem?_map] at hi
  by_cases hl : i < ns.length
  · rw [List.getElem?_eq_getElem hl] at hi
    rw [List.getD_eq_getElem?_getD, List.getElem?_eq_getElem hl]
    exact ⟨List.getElem_mem hl, (Option.some.inj hi).symm⟩
  · rw [List.getElem?_eq_none (by omega)] at hi
    cases hi
/-- a comprehension over a list, a tuple, a new tuple of ints that keeps some -/
theorem el_lst {K : PySem.W.Frag} {σ : L2.St} {H : Hp} {a : Addr} {ns : List Int} {tl te : TE} {t : TT} {j : Nat} {vs : List Nat} (f : Int → Bool) (F : Int → V) (h : Evl.Ev tl σ H (.ref a)) (hx : SqL K H a (ns.map V.int)) (hz : ns.length ≤ 40000)
    (hw : ∀ x, wipe ((wipe σ vs).set j (some x)) vs = wipe σ vs) (ht : ∀ n H1, Ex H H1 → n ∈ ns → Evl.EvT t ((wipe σ vs).set j (some (.int n))) H1 (f n))
    (he : ∀ n H1, Ex H H1 → n ∈ ns → f n = true → Evl.Ev te ((wipe σ vs).set j (some (.int n))) H1 (F n)) : Evl.EvL (tLc (iList K tl) (gName j) t te vs) σ H ((ns.filter f).map F) := by
  have r := Evl.el_lcL (K := K) (xs := ns.map V.int) (te := te) (t := t) (vs := vs) (j := j) (fun i => f (ns.getD i 0)) (fun i => F (ns.getD i 0)) h hx (by rw [List.length_map]; exact hz) hw
    (fun i x H1 e hi => by rw [(getD_at hi).2]; exact ht _ H1 e (getD_at hi).1) (fun i x H1 e hi hf => by rw [(getD_at hi).2]; exact he _ H1 e (getD_at hi).1 hf)
  rw [List.length_map, given_list] at r
  exact r
theorem el_tup {K : PySem.W.Frag} {σ : L2.St} {H : Hp} {a : Addr} {ns : List Int} {tl te : TE} {t : TT} {j : Nat} {vs : List Nat} (f : Int → Bool) (F : Int → V) (h : Evl.Ev tl σ H (.ref a)) (hx : SqT K H a (ns.map V.int)) (hz : ns.length ≤ 40000)
    (hw : ∀ x, wipe ((wipe σ vs).set j (some x)) vs = wipe σ vs) (ht : ∀ n H1, Ex H H1 → n ∈ ns → Evl.EvT t ((wipe σ vs).set j (some (.int n))) H1 (f n))
    (he : ∀ n H1, Ex H H1 → n ∈ ns → f n = true → Evl.Ev te ((wipe σ vs).set j (some (.int n))) H1 (F n)) : Evl.EvL (tLc (iTup K tl) (gName j) t te vs) σ H ((ns.filter f).map F) := fun H0 e Q q => h H0 e _ fun H1 e1 =>
  ⟨a, rfl, ⟨_, ex_t (e.trans e1) hx⟩, fun Dl hD =>
    lc_tup (xs := ns.map V.int) (Evl.Cw H1 (fun i => f (ns.getD i 0)) (fun i => F (ns.getD i 0)) Dl) ⟨hD, Ex.new hD, upd_same⟩ (fun i H' _ p => ex_t ((e.trans e1).trans p.2.1) hx) (fun i x H' hi p => by
      have hl : i < ns.length := by
        have := (List.getElem?_eq_some_iff.mp hi).1
        rw [List.length_map] at this
        exact this
      rw [(getD_at hi).2]
      exact ⟨hw _, Evl.cw_turn p (by omega) (ht _ H1 (e.trans e1) (getD_at hi).1) (fun hf => he _ H1 (e.trans e1) (getD_at hi).1 hf)⟩)
      (fun H' p => by
        have p3 := p.2.2
        rw [List.length_map, given_list] at p3
        exact q Dl H' (fresh_back e1 p.1) (e1.trans p.2.1) p3)⟩
theorem el_tupU {K : PySem.W.Frag} {σ : L2.St} {H : Hp} {ns : List Int} {tl te : TE} {t : TT} {j : Nat} {vs : List Nat} (f : Int → Bool) (F : Int → V) (h : Evl.EvU tl σ H (ns.map V.int)) (hz : ns.length ≤ 40000)
    (hw : ∀ x, wipe ((wipe σ vs).set j (some x)) vs = wipe σ vs) (ht : ∀ n H1, Ex H H1 → n ∈ ns → Evl.EvT t ((wipe σ vs).set j (some (.int n))) H1 (f n))
    (he : ∀ n H1, Ex H H1 → n ∈ ns → f n = true → Evl.Ev te ((wipe σ vs).set j (some (.int n))) H1 (F n)) : Evl.EvL (tLc (iTup K tl) (gName j) t te vs) σ H ((ns.filter f).map F) := fun H0 e Q q => h H0 e _ fun a H1 _ e1 hx =>
  ⟨a, rfl, ⟨_, SqT.of hx⟩, fun Dl hD =>
    lc_tup (xs := ns.map V.int) (Evl.Cw H1 (fun i => f (ns.getD i 0)) (fun i => F (ns.getD i 0)) Dl) ⟨hD, Ex.new hD, upd_same⟩ (fun i H' _ p => SqT.of (p.2.1 _ _ hx)) (fun i x H' hi p => by
      have hl : i < ns.length := by
        have := (List.getElem?_eq_some_iff.mp hi).1
        rw [List.length_map] at this
        exact this
      rw [(getD_at hi).2]
      exact ⟨hw _, Evl.cw_turn p (by omega) (ht _ H1 (e.trans e1) (getD_at hi).1) (fun hf => he _ H1 (e.trans e1) (getD_at hi).1 hf)⟩)
      (fun H' p => by
        have p3 := p.2.2
        rw [List.length_map, given_list] at p3
        exact q Dl H' (fresh_back e1 p.1) (e1.trans p.2.1) p3)⟩
theorem yes_ev {σ : L2.St} {H : Hp} : Evl.EvT tYes σ H true := fun H1 _ _ q => q H1 (Ex.refl H1)
theorem filter_yes (ns : List Int) : ns.filter (fun _ => true) = ns := List.filter_eq_self.mpr fun _ _ => rfl
/-- a loop over enumerate of a list that stays -/
theorem for_enum {K : PySem.W.Frag} {a : Addr} {xs : List V} {g : TG} {tb : TS} {D : Ends} {σ : L2.St} {H : Hp} (Pv : Nat → L2.St → Hp → Prop) (h0 : Pv 0 σ H) (hl : ∀ i σ H, i ≤ xs.length → Pv i σ H → SqL K H a xs)
    (hs : ∀ (i : Nat) (x : V) (T : Addr) (σ : L2.St) (H : Hp), xs[i]? = some x → Pv i σ H → H T = none → g (.ref T) σ (upd H T (.tup [.int (i : Nat), x])) fun σ2 H2 => tb { D with nx := Pv (i + 1), ct := Pv (i + 1), bk := D.nx } σ2 H2) (hd : ∀ σ H, Pv xs.length σ H → D.nx σ H) :
    ∃ W : Nat → Nat → L2.St → Hp → Prop, (∃ m, W 0 m σ H) ∧ ∀ i m σ H, W i m σ H →
      ((Ite K a).stop i H ∧ D.nx σ H) ∨ ((Ite K a).go i H ∧ ∃ N : L2.St → Hp → Prop, (∀ σ' H', N σ' H' → ∃ m', m' < m ∧ W (i + 1) m' σ' H') ∧ ∀ v H', (Ite K a).yld i H v H' → g v σ H' fun σ2 H2 => tb { D with nx := N, ct := N, bk := D.nx } σ2 H2) := by
  refine ⟨fun i m σ H => i + m = xs.length ∧ Pv i σ H, ⟨xs.length, Nat.zero_add _, h0⟩, ?_⟩
  rintro i m σ H ⟨hm, p⟩
  have hq := hl i σ H (by omega) p
  by_cases hi : i < xs.length
  · refine .inr ⟨⟨xs, xs[i], hq, List.getElem?_eq_getElem hi⟩, Pv (i + 1), fun σ' H' p' => ⟨m - 1, by omega, by omega, p'⟩, ?_⟩
    rintro v H' ⟨T, x, rfl, nT, rfl, hx⟩
    exact hs i x T σ H (hx xs hq) p nT
  · have e : i = xs.length := by omega
    rw [e] at p
    exact .inl ⟨⟨xs, hq, by omega⟩, hd σ H p⟩
theorem cut1 (xs : List V) : cutV xs (some 1) none = xs.drop 1 := by
  unfold cutV
  have e1 : HT.sIx xs.length 0 (some 1) = min 1 xs.length := HT.sIx_nat xs.length 0 1
  rw [e1, HT.sIx_none]
  match xs with
  | [] => rfl
  | x :: r =>
    have e2 : min 1 (x :: r).length = 1 := Nat.min_eq_left (by simp)
    rw [e2]
    show List.take (r.length + 1 - 1) r = r
    rw [Nat.add_sub_cancel, List.take_length]
/-- a list of places of a path of length l -/
def Places (l : Int) (ns : List Int) : Prop := ∀ n ∈ ns, 1 ≤ n ∧ n ≤ l
/-- the places at which just these words are answered -/
def lies (l : Int) (st : List Int) (ws : List Wo) : List Int := (rng 1 (l + 1)).filter fun t => decide (wordsOf t st = ws)
/-! ### bags -/
def Bag1 (H : Hp) (b : Addr) : Prop := ∃ (d : Addr) (c : Int) (ds : List Int), H b = some (.lst [.ref d, .int c]) ∧ H d = some (.lst (ds.map V.int)) ∧ ds.length = 400
def Bags (bs : List Addr) (H : Hp) : Prop := ∀ b ∈ bs, Bag1 H b
/-- all that is no bag stays -/
def Kp (bs : List Addr) (H H' : Hp) : Prop := ∀ a o, a ∉ bs → H a = some o → H' a = some o
theorem Kp.refl (bs : List Addr) (H : Hp) : Kp bs H H := fun _ _ _ h => h
theorem Kp.trans {bs : List Addr} {H H1 H2 : Hp} (a : Kp bs H H1) (b : Kp bs H1 H2) : Kp bs H H2 := fun c o n h => b c o n (a c o n h)
theorem Kp.ex {bs : List Addr} {H H' : Hp} (e : Ex H H') : Kp bs H H' := fun a o _ h => e a o h
theorem Bag1.ex {H H' : Hp} {b : Addr} (e : Ex H H') (h : Bag1 H b) : Bag1 H' b := by
  obtain ⟨d, c, ds, h1, h2, h3⟩ := h
  exact ⟨d, c, ds, e _ _ h1, e _ _ h2, h3⟩
theorem Bags.ex {bs : List Addr} {H H' : Hp} (e : Ex H H') (h : Bags bs H) : Bags bs H' := fun b hb => (h b hb).ex e
theorem Bags.fresh {bs : List Addr} {H : Hp} (h : Bags bs H) {p : Addr} (n : H p = none) : p ∉ bs := fun hp => by
  obtain ⟨d, c, ds, h1, _⟩ := h p hp
  rw [n] at h1
  cases h1
/-- an object that is no bag, and no bag's draws, may change -/
theorem Bags.mut {bs : List Addr} {H : Hp} {p : Addr} {o : HO} (h : Bags bs H) (n1 : p ∉ bs) (n2 : ∀ d ds, H d = some (.lst (List.map V.int ds)) → ds.length = 400 → d ≠ p) : Bags bs (upd H p o) := fun b hb => by
  obtain ⟨d, c, ds, h1, h2, h3⟩ := h b hb
  have e1 : b ≠ p := fun e => n1 (e ▸ hb)
  exact ⟨d, c, ds, by rw [upd_ne e1]; exact h1, by rw [upd_ne (n2 d ds h2 h3)]; exact h2, h3⟩
/-- the list of the bags is none of them -/
theorem bags_list {bs : List Addr} {H : Hp} {L : Addr} (hB : Bags bs H) (hL : H L = some (.lst (bs.map V.ref))) : L ∉ bs := fun z => by
  obtain ⟨d, c, ds, h1, _⟩ := hB L z
  rw [hL] at h1
  have e2 := HO.lst.inj (Option.some.inj h1)
  match bs, e2 with
  | [_, _], e2 => simp at e2
theorem ref_at {bs : List Addr} {i : Nat} {x : V} (hx : (bs.map V.ref)[i]? = some x) : ∃ b, b ∈ bs ∧ x = V.ref b := by
  rw [List.getElem?_map] at hx
  cases hg : bs[i]? with
  | none =>
    rw [hg] at hx
    cases hx
  | some b =>
    rw [hg] at hx
    exact ⟨b, List.mem_of_getElem? hg, (Option.some.inj hx).symm⟩
theorem int_at {ns : List Int} {i : Nat} {x : V} (hx : (ns.map V.int)[i]? = some x) : ∃ n, ns[i]? = some n ∧ x = V.int n := by
  rw [List.getElem?_map] at hx
  cases hg : ns[i]? with
  | none =>
    rw [hg] at hx
    cases hx
  | some b =>
    rw [hg] at hx
    exact ⟨b, rfl, (Option.some.inj hx).symm⟩
theorem Kp.mut {bs : List Addr} {H0 H : Hp} {p : Addr} {o : HO} (k : Kp bs H0 H) (n : H0 p = none) : Kp bs H0 (upd H p o) := fun a u na h => by
  rw [upd_ne (ne_of_none h n)]
  exact k a u na h
theorem Kp.new {bs : List Addr} {H0 H : Hp} {p : Addr} {o : HO} (k : Kp bs H0 H) (n : H p = none) : Kp bs H0 (upd H p o) := fun a u na h => by
  rw [upd_ne (ne_of_none (k a u na h) n)]
  exact k a u na h
end Wc
namespace Wc
open PySem PySem.Spec PyProof.Rows L2
open Evl (Ex ex_l ex_t fresh_back)
def sp_is_whole (K : PySem.W.Frag) : Sp := fun vs H Q _ => ∃ i : Int, vs = [.int i] ∧ Q (.bl true) H
abbrev N_is_whole : List Str := ["value"]
def t_is_whole (K : PySem.W.Frag) : TS := (tRet (tAndV (tCB (rIsi K) (tCons (tVar 0) (tCons (tC (.ty "int")) tNil))) (tNotV (tCB (rIsi K) (tCons (tVar 0) (tCons (tC (.ty "bool")) tNil))))))
theorem pure_is_whole {K : PySem.W.Frag} {vs : List V} {H : Hp} {Q : VK} {E : XK} (h : sp_is_whole K vs H Q E) : t_is_whole K { nx := fun _ H' => Q .non H', rt := Q } (start N_is_whole vs) H := by
  obtain ⟨i, rfl, q⟩ := h
  refine ⟨_, rfl, .int i, .ty "int", _, _, true, rfl, .ty "int", .base (.int i), kit_ty (by decide +kernel), true, rfl, iteT ?_⟩
  exact ⟨_, rfl, .int i, .ty "bool", _, _, false, rfl, .ty "bool", .base (.int i), kit_ty (by decide +kernel), false, rfl, q⟩
theorem len_is_whole {K : PySem.W.Frag} {vs : List V} {H : Hp} {Q : VK} {E : XK} (h : sp_is_whole K vs H Q E) : vs.length = 1 := by
  obtain ⟨i, rfl, _⟩ := h
  rfl
def sp_is_place (K : PySem.W.Frag) : Sp := fun vs H Q _ => ∃ v l : Int, vs = [.int v, .int l] ∧ Q (.bl (decide (1 ≤ v ∧ v ≤ l))) H
abbrev N_is_place : List Str := ["value", "length"]
def t_is_place (K : PySem.W.Frag) : TS := (tRet (tAndV (tCall (sp_is_whole K) [] E0 (tCons (tVar 0) tNil)) (tChain (rI0 fun i j => .bl (decide (i ≤ j))) (rI0 fun i j => .bl (decide (i ≤ j))) (tC (.int 1)) (tVar 0) (tVar 1))))
theorem pure_is_place {K : PySem.W.Frag} {vs : List V} {H : Hp} {Q : VK} {E : XK} (h : sp_is_place K vs H Q E) : t_is_place K { nx := fun _ H' => Q .non H', rt := Q } (start N_is_place vs) H := by
  obtain ⟨v, l, rfl, q⟩ := h
  refine ⟨_, rfl, v, rfl, true, rfl, iteT ⟨_, rfl, 1, v, rfl, rfl, decide ((1 : Int) ≤ v), rfl, ?_⟩⟩
  by_cases h1 : (1 : Int) ≤ v
  · rw [decide_eq_true h1]
    refine iteT ⟨_, rfl, v, l, rfl, rfl, ?_⟩
    have e : decide (v ≤ l) = decide (1 ≤ v ∧ v ≤ l) := by simp [h1]
    show Q (.bl (decide (v ≤ l))) H
    rw [e]
    exact q
  · rw [decide_eq_false h1]
    refine iteF ?_
    have e : false = decide (1 ≤ v ∧ v ≤ l) := by simp [h1]
    show Q (.bl false) H
    rw [e]
    exact q
theorem len_is_place {K : PySem.W.Frag} {vs : List V} {H : Hp} {Q : VK} {E : XK} (h : sp_is_place K vs H Q E) : vs.length = 2 := by
  obtain ⟨v, l, rfl, _⟩ := h
  rfl
def sp_is_word (K : PySem.W.Frag) : Sp := fun vs H Q _ => ∃ x : Wo, vs = [vW x] ∧ Q (.bl true) H
abbrev N_is_word : List Str := ["value"]
def t_is_word (K : PySem.W.Frag) : TS := (tRet (tAndV (tCB (rIsi K) (tCons (tVar 0) (tCons (tC (.ty "str")) tNil))) (tOp (rIn K false) (tVar 0) (tC (.ref (He.ga K "WORDS"))))))
theorem pure_is_word {K : PySem.W.Frag} (hW : ∀ H, SqT K H (He.ga K "WORDS") [.str "warm", .str "cold", .str "same"]) {vs : List V} {H : Hp} {Q : VK} {E : XK} (h : sp_is_word K vs H Q E) : t_is_word K { nx := fun _ H' => Q .non H', rt := Q } (start N_is_word vs) H := by
  obtain ⟨x, rfl, q⟩ := h
  refine ⟨_, rfl, vW x, .ty "str", _, _, true, rfl, .ty "str", .base (.str x.str), kit_ty (by decide +kernel), true, rfl, iteT ?_⟩
  refine ⟨_, rfl, _, _, rfl, .inr (hW H), rfl, rfl, ?_⟩
  have e : (if false = true then !inV (vW x) [V.str "warm", V.str "cold", V.str "same"] else inV (vW x) [V.str "warm", V.str "cold", V.str "same"]) = true := by
    cases x <;> decide +kernel
  rw [e]
  exact q
theorem len_is_word {K : PySem.W.Frag} {vs : List V} {H : Hp} {Q : VK} {E : XK} (h : sp_is_word K vs H Q E) : vs.length = 1 := by
  obtain ⟨x, rfl, _⟩ := h
  rfl
def sp_check_length (K : PySem.W.Frag) : Sp := fun vs H Q _ => ∃ l : Int, vs = [.int l] ∧ 1 ≤ l ∧ l ≤ 60 ∧ Q .non H
abbrev N_check_length : List Str := ["length"]
def t_check_length (K : PySem.W.Frag) : TS := (tIfS (tNot (tB (tCall (sp_is_place K) [] E0 (tCons (tVar 0) (tCons (tC (.int 60)) tNil))))) tNever tNext)
theorem pure_check_length {K : PySem.W.Frag} {vs : List V} {H : Hp} {Q : VK} {E : XK} (h : sp_check_length K vs H Q E) : t_check_length K { nx := fun _ H' => Q .non H', rt := Q } (start N_check_length vs) H := by
  obtain ⟨l, rfl, h1, h2, q⟩ := h
  exact ⟨_, rfl, l, 60, rfl, _, rfl, iteNS ⟨h1, h2⟩ q⟩
theorem len_check_length {K : PySem.W.Frag} {vs : List V} {H : Hp} {Q : VK} {E : XK} (h : sp_check_length K vs H Q E) : vs.length = 1 := by
  obtain ⟨l, rfl, _⟩ := h
  rfl
def sp_check_stands (K : PySem.W.Frag) : Sp := fun vs H Q _ => ∃ (a : Addr) (ns : List Int) (l : Int), vs = [.ref a, .int l] ∧ H a = some (.lst (ns.map V.int)) ∧ ns.length ≤ 40 ∧ Places l ns ∧ ∀ H', Ex H H' → Q .non H'
abbrev N_check_stands : List Str := ["stands", "length", "stand"]
def t_check_stands (K : PySem.W.Frag) : TS := (tSeq (tIfS (tOr (tNot (tB (tCB (rIsi K) (tCons (tVar 0) (tCons (tC (.ty "list")) tNil))))) (tTest (tOp (rI0 fun i j => .bl (decide (j < i))) (tCB (rLenQ K) (tCons (tVar 0) tNil)) (tC (.int 40))))) tNever tNext)
  (tIfS (tNot (tB (tCB (rAll K) (tCons (tLc (iList K (tVar 0)) (gName 2) tYes (tCall (sp_is_place K) [] E0 (tCons (tVar 2) (tCons (tVar 1) tNil))) [2]) tNil)))) tNever tNext))
theorem pure_check_stands {K : PySem.W.Frag} {vs : List V} {H : Hp} {Q : VK} {E : XK} (h : sp_check_stands K vs H Q E) : t_check_stands K { nx := fun _ H' => Q .non H', rt := Q } (start N_check_stands vs) H := by
  obtain ⟨a, ns, l, rfl, ha, hl, hp, q⟩ := h
  refine ⟨_, rfl, .ref a, .ty "list", _, _, true, rfl, .ty "list", .base (.lst ha), kit_ty (by decide +kernel), true, rfl, iteF ?_⟩
  refine ⟨_, rfl, a, _, rfl, .inl (SqL.of ha), _, _, rfl, rfl, _, rfl, ite2 (fun e => ?_) (fun _ => ?_)⟩
  · have e2 := of_decide_eq_true e
    rw [List.length_map] at e2
    omega
  · have hc : Evl.EvL (tLc (iList K (tVar 0)) (gName 2) tYes (tCall (sp_is_place K) [] E0 (tCons (tVar 2) (tCons (tVar 1) tNil))) [2]) (start N_check_stands [.ref a, .int l]) H (ns.map fun n => V.bl (decide (1 ≤ n ∧ n ≤ l))) :=
      el_map (K := K) (a := a) (fun n => V.bl (decide (1 ≤ n ∧ n ≤ l))) (Evl.ev_var rfl) (SqL.of ha) (by omega) (fun _ => rfl) fun n H1 _ _ => fun H2 _ Q2 q2 => ⟨_, rfl, _, rfl, n, l, rfl, q2 H2 (Ex.refl H2)⟩
    dsimp only [tNext, tIfS, tNot, tB, tCB, tCons]
    refine hc H (Ex.refl H) _ fun p H2 _ e2 h2 => ?_
    refine ⟨p, ns.map fun n => decide (1 ≤ n ∧ n ≤ l), rfl, .inl (.inl ?_), _, rfl, ?_⟩
    · rw [h2, List.map_map]
      rfl
    · have ea : ((ns.map fun n => decide (1 ≤ n ∧ n ≤ l)).all id) = true := by
        rw [List.all_map, List.all_eq_true]
        intro n hn
        exact decide_eq_true (hp n hn)
      rw [ea]
      exact iteF (q H2 e2)
theorem len_check_stands {K : PySem.W.Frag} {vs : List V} {H : Hp} {Q : VK} {E : XK} (h : sp_check_stands K vs H Q E) : vs.length = 2 := by
  obtain ⟨a, ns, l, rfl, _⟩ := h
  rfl
def sp_check_answers (K : PySem.W.Frag) : Sp := fun vs H Q _ => ∃ (a s : Addr) (ws : List Wo) (st : List Int), vs = [.ref a, .ref s] ∧ H a = some (.lst (ws.map vW)) ∧ SqL K H s (st.map V.int) ∧ ws.length = st.length - 1 ∧ st.length ≤ 1000 ∧ ∀ H', Ex H H' → Q .non H'
abbrev N_check_answers : List Str := ["answers", "stands", "wanted", "answer"]
def t_check_answers (K : PySem.W.Frag) : TS := (tSeq (tAsg (tCB rMax2 (tCons (tC (.int 0)) (tCons (tOp (rI0 fun i j => .int (i - j)) (tCB (rLenQ K) (tCons (tVar 1) tNil)) (tC (.int 1))) tNil))) (gName 2))
  (tSeq (tIfS (tOr (tNot (tB (tCB (rIsi K) (tCons (tVar 0) (tCons (tC (.ty "list")) tNil))))) (tTest (tOp rNe (tCB (rLenQ K) (tCons (tVar 0) tNil)) (tVar 2)))) tNever tNext)
  (tIfS (tNot (tB (tCB (rAll K) (tCons (tLc (iList K (tVar 0)) (gName 3) tYes (tCall (sp_is_word K) [] E0 (tCons (tVar 3) tNil)) [3]) tNil)))) tNever tNext)))
theorem pure_check_answers {K : PySem.W.Frag} {vs : List V} {H : Hp} {Q : VK} {E : XK} (h : sp_check_answers K vs H Q E) : t_check_answers K { nx := fun _ H' => Q .non H', rt := Q } (start N_check_answers vs) H := by
  obtain ⟨a, s, ws, st, rfl, ha, hs, hl, hl2, q⟩ := h
  refine ⟨_, rfl, s, _, rfl, .inl hs, _, _, rfl, rfl, _, _, rfl, ?_⟩
  refine ⟨_, rfl, .ref a, .ty "list", _, _, true, rfl, .ty "list", .base (.lst ha), kit_ty (by decide +kernel), true, rfl, iteF ?_⟩
  refine ⟨_, rfl, a, _, rfl, .inl (SqL.of ha), _, rfl, rfl, _, rfl, ?_⟩
  have en : ((ws.map vW).length : Int) = (if ((st.map V.int).length : Int) - 1 > 0 then ((st.map V.int).length : Int) - 1 else 0) := by
    rw [List.length_map, List.length_map, hl]
    split <;> omega
  refine iteNS (congrArg V.int en) ?_
  have hc : Evl.EvL (tLc (iList K (tVar 0)) (gName 3) tYes (tCall (sp_is_word K) [] E0 (tCons (tVar 3) tNil)) [3]) [some (.ref a), some (.ref s), some (.int (if ((st.map V.int).length : Int) - 1 > 0 then ((st.map V.int).length : Int) - 1 else 0)), none] H (ws.map fun _ => V.bl true) :=
    el_mapG .warm vW (K := K) (a := a) (fun _ => V.bl true) (Evl.ev_var rfl) (SqL.of ha) (by omega) (fun _ => rfl) fun n H1 _ _ => fun H2 _ Q2 q2 => ⟨_, rfl, n, rfl, q2 H2 (Ex.refl H2)⟩
  dsimp only [tNext, tIfS, tNot, tB, tCB, tCons]
  refine hc H (Ex.refl H) _ fun p H2 _ e2 h2 => ?_
  refine ⟨p, ws.map fun _ => true, rfl, .inl (.inl ?_), _, rfl, ?_⟩
  · rw [h2, List.map_map]
    rfl
  · have ea : ((ws.map fun _ => true).all id) = true := by
      rw [List.all_map, List.all_eq_true]
      intro n hn
      rfl
    rw [ea]
    exact iteF (q H2 e2)
theorem len_check_answers {K : PySem.W.Frag} {vs : List V} {H : Hp} {Q : VK} {E : XK} (h : sp_check_answers K vs H Q E) : vs.length = 2 := by
  obtain ⟨a, s, ws, st, rfl, _⟩ := h
  rfl
def sp_word_for (K : PySem.W.Frag) : Sp := fun vs H Q _ => ∃ b a : Int, vs = [.int b, .int a] ∧ Q (vW (word b a)) H
abbrev N_word_for : List Str := ["before", "after"]
def t_word_for (K : PySem.W.Frag) : TS := (tSeq (tIfS (tTest (tOp (rI0 fun i j => .bl (decide (i < j))) (tVar 1) (tVar 0))) (tRet (tC (.str (Str.ofString "warm")))) tNext)
  (tSeq (tIfS (tTest (tOp (rI0 fun i j => .bl (decide (j < i))) (tVar 1) (tVar 0))) (tRet (tC (.str (Str.ofString "cold")))) tNext)
  (tRet (tC (.str (Str.ofString "same"))))))
theorem pure_word_for {K : PySem.W.Frag} {vs : List V} {H : Hp} {Q : VK} {E : XK} (h : sp_word_for K vs H Q E) : t_word_for K { nx := fun _ H' => Q .non H', rt := Q } (start N_word_for vs) H := by
  obtain ⟨b, a, rfl, q⟩ := h
  refine ⟨_, rfl, _, rfl, a, b, rfl, rfl, _, rfl, ite2 (fun h1 => ?_) (fun h1 => ?_)⟩
  · have e1 : word b a = .warm := if_pos (of_decide_eq_true h1)
    rw [e1] at q
    exact q
  · have n1 : ¬ a < b := fun z => h1 (decide_eq_true z)
    refine ⟨_, rfl, _, rfl, a, b, rfl, rfl, _, rfl, ite2 (fun h2 => ?_) (fun h2 => ?_)⟩
    · have e2 : word b a = .cold := (if_neg n1).trans (if_pos (of_decide_eq_true h2))
      rw [e2] at q
      exact q
    · have n2 : ¬ b < a := fun z => h2 (decide_eq_true z)
      have e3 : word b a = .same := (if_neg n1).trans (if_neg n2)
      rw [e3] at q
      exact q
theorem len_word_for {K : PySem.W.Frag} {vs : List V} {H : Hp} {Q : VK} {E : XK} (h : sp_word_for K vs H Q E) : vs.length = 2 := by
  obtain ⟨b, a, rfl, _⟩ := h
  rfl
/-! ### rings -/
/-- steps onward from x to y on a ring of l places -/
def fw (l x y : Int) : Int := if x ≤ y then y - x else y - x + l
/-- the shorter way round -/
def rd (l x y : Int) : Int := if fw l y x < fw l x y then fw l y x else fw l x y
def rwordsOf (l t : Int) : List Int → List Wo
  | e :: n :: r => word (rd l t e) (rd l t n) :: rwordsOf l t (n :: r)
  | _ => []
theorem rwordsOf_len (l t : Int) : ∀ ns : List Int, (rwordsOf l t ns).length = ns.length - 1
  | [] => rfl
  | [_] => rfl
  | x :: y :: r => by
    show (rwordsOf l t (y :: r)).length + 1 = (y :: r).length + 1 - 1
    rw [rwordsOf_len l t (y :: r)]
    simp
theorem rwordsOf_get (l t : Int) : ∀ (ns : List Int) (i : Nat) (x y : Int), ns[i]? = some x → ns[i + 1]? = some y → (rwordsOf l t ns)[i]? = some (word (rd l t x) (rd l t y))
  | [], _, _, _, h, _ => by simp at h
  | [_], 0, _, _, _, h => by simp at h
  | [_], i + 1, _, _, h, _ => by simp at h
  | a :: b :: r, 0, x, y, h, h2 => by
    have e1 : a = x := Option.some.inj h
    have e2 : b = y := Option.some.inj h2
    rw [← e1, ← e2]
    rfl
  | a :: b :: r, i + 1, x, y, h, h2 => rwordsOf_get l t (b :: r) i x y h h2
/-- the places of a ring at which just these words are answered -/
def rlies (l : Int) (st : List Int) (ws : List Wo) : List Int := (rng 1 (l + 1)).filter fun t => decide (rwordsOf l t st = ws)
/-- all unlike rows on a ring, each once -/
def RRows (l : Int) (st : List Int) (D : List (List Wo)) : Prop := D.Nodup ∧ ∀ r, r ∈ D ↔ ∃ t, (1 ≤ t ∧ t ≤ l) ∧ rwordsOf l t st = r
theorem RRows.same {l : Int} {st : List Int} {D D' : List (List Wo)} (h : RRows l st D) (h' : RRows l st D') : D.length = D'.length :=
  ((List.perm_ext_iff_of_nodup h.1 h'.1).mpr fun r => (h.2 r).trans (h'.2 r).symm).length_eq
theorem fw_range {l x y : Int} (h1 : 1 ≤ x) (h2 : x ≤ l) (h3 : 1 ≤ y) (h4 : y ≤ l) : 0 ≤ fw l x y ∧ fw l x y < l := by
  unfold fw
  split <;> omega
theorem step_on {l h o : Int} (h1 : 1 ≤ h) (h2 : h ≤ l) (h3 : 1 ≤ o) (h4 : o ≤ l) (ne : ¬ h = o) : 1 ≤ 1 + (h - 1 + 1) % l ∧ 1 + (h - 1 + 1) % l ≤ l ∧ fw l (1 + (h - 1 + 1) % l) o = fw l h o - 1 := by
  have e : (h - 1 + 1) % l = if h = l then 0 else h := by
    split
    · rename_i z
      rw [show h - 1 + 1 = l by omega, Int.emod_self]
    · rw [show h - 1 + 1 = h by omega]
      exact Int.emod_eq_of_lt (by omega) (by omega)
  rw [e]
  unfold fw
  repeat' split
  all_goals omega
theorem step_back {l h o : Int} (h1 : 1 ≤ h) (h2 : h ≤ l) (h3 : 1 ≤ o) (h4 : o ≤ l) (ne : ¬ h = o) : 1 ≤ 1 + (h - 1 + -1) % l ∧ 1 + (h - 1 + -1) % l ≤ l ∧ fw l o (1 + (h - 1 + -1) % l) = fw l o h - 1 := by
  have e : (h - 1 + -1) % l = if h = 1 then l - 1 else h - 2 := by
    split
    · rename_i z
      rw [Int.emod_eq_add_self_emod, show h - 1 + -1 + l = l - 1 by omega]
      exact Int.emod_eq_of_lt (by omega) (by omega)
    · rw [show h - 1 + -1 = h - 2 by omega]
      exact Int.emod_eq_of_lt (by omega) (by omega)
  rw [e]
  unfold fw
  repeat' split
  all_goals omega
def sp_far_round (K : PySem.W.Frag) : Sp := fun vs H Q _ => ∃ l x y : Int, vs = [.int l, .int x, .int y] ∧ (1 ≤ x ∧ x ≤ l) ∧ (1 ≤ y ∧ y ≤ l) ∧ Q (.int (rd l x y)) H
abbrev N_far_round : List Str := ["length", "one", "other", "along"]
def t_far_round (K : PySem.W.Frag) : TS := (tSeq (tAsg (tCB rAbs (tCons (tOp (rI0 fun i j => .int (i - j)) (tVar 1) (tVar 2)) tNil)) (gName 3))
  (tRet (tCB rMin2 (tCons (tVar 3) (tCons (tOp (rI0 fun i j => .int (i - j)) (tVar 0) (tVar 3)) tNil)))))
theorem pure_far_round {K : PySem.W.Frag} {vs : List V} {H : Hp} {Q : VK} {E : XK} (h : sp_far_round K vs H Q E) : t_far_round K { nx := fun _ H' => Q .non H', rt := Q } (start N_far_round vs) H := by
  obtain ⟨l, x, y, rfl, hx, hy, q⟩ := h
  refine ⟨_, rfl, _, rfl, x, y, rfl, rfl, _, rfl, _, rfl, _, rfl, _, rfl, l, _, rfl, rfl, _, _, rfl, ?_⟩
  have e : (if l - (if x - y < 0 then -(x - y) else x - y) < (if x - y < 0 then -(x - y) else x - y) then l - (if x - y < 0 then -(x - y) else x - y) else (if x - y < 0 then -(x - y) else x - y)) = rd l x y := by
    unfold rd fw
    repeat' split
    all_goals omega
  dsimp only at *
  rw [e]
  exact q
theorem len_far_round {K : PySem.W.Frag} {vs : List V} {H : Hp} {Q : VK} {E : XK} (h : sp_far_round K vs H Q E) : vs.length = 3 := by
  obtain ⟨l, x, y, rfl, _⟩ := h
  rfl
def fwords : List Int → List Wo
  | e :: l :: r => word e l :: fwords (l :: r)
  | _ => []
theorem fwords_len : ∀ ns : List Int, (fwords ns).length = ns.length - 1
  | [] => rfl
  | [_] => rfl
  | x :: y :: r => by
    show (fwords (y :: r)).length + 1 = (y :: r).length + 1 - 1
    rw [fwords_len (y :: r)]
    simp
theorem fwords_get : ∀ (ns : List Int) (i : Nat) (x y : Int), ns[i]? = some x → ns[i + 1]? = some y → (fwords ns)[i]? = some (word x y)
  | [], _, _, _, h, _ => by simp at h
  | [_], 0, _, _, _, h => by simp at h
  | [_], i + 1, _, _, h, _ => by simp at h
  | a :: b :: r, 0, x, y, h, h2 => by
    have e1 : a = x := Option.some.inj h
    have e2 : b = y := Option.some.inj h2
    rw [← e1, ← e2]
    rfl
  | a :: b :: r, i + 1, x, y, h, h2 => fwords_get (b :: r) i x y h h2
theorem fwords_rd (l t : Int) : ∀ st : List Int, fwords (st.map (rd l t)) = rwordsOf l t st
  | [] => rfl
  | [_] => rfl
  | x :: y :: r => congrArg (word (rd l t x) (rd l t y) :: ·) (fwords_rd l t (y :: r))
def sp_row_round (K : PySem.W.Frag) : Sp := fun vs H Q _ => ∃ (l t : Int) (s : Addr) (st : List Int), vs = [.int l, .int t, .ref s] ∧ (1 ≤ t ∧ t ≤ l) ∧ SqL K H s (st.map V.int) ∧ Places l st ∧ st.length ≤ 1000 ∧ ∀ p H', H p = none → Ex H H' → H' p = some (.lst ((rwordsOf l t st).map vW)) → Q (.ref p) H'
abbrev N_row_round : List Str := ["length", "thing", "stands", "far", "stand", "before", "after"]
def t_row_round (K : PySem.W.Frag) : TS := (tSeq (tAsg (tLc (iList K (tVar 2)) (gName 4) tYes (tCall (sp_far_round K) [] E0 (tCons (tVar 0) (tCons (tVar 1) (tCons (tVar 4) tNil)))) [4]) (gName 3))
  (tRet (tLc (iZip K (tCons (tVar 3) (tCons (tSl (rSlL K) (tVar 3) (tPart (tC (.int 1))) tNoPart) tNil))) (gTup K 2 (gCons (gName 5) (gCons (gName 6) gNil))) tYes (tCall (sp_word_for K) [] E0 (tCons (tVar 5) (tCons (tVar 6) tNil))) [5, 6])))
theorem row_zip {K : PySem.W.Frag} {H : Hp} {Q : VK} {l t : Int} {s a : Addr} {ns : List Int} (hS : SqL K H a (ns.map V.int)) (hlen : ns.length ≤ 1000) (q : ∀ p H', H p = none → Ex H H' → H' p = some (.lst ((fwords ns).map vW)) → Q (.ref p) H') :
    tLc (iZip K (tCons (tVar 3) (tCons (tSl (rSlL K) (tVar 3) (tPart (tC (.int 1))) tNoPart) tNil))) (gTup K 2 (gCons (gName 5) (gCons (gName 6) gNil))) tYes (tCall (sp_word_for K) [] E0 (tCons (tVar 5) (tCons (tVar 6) tNil))) [5, 6] [some (.int l), some (.int t), some (.ref s), some (.ref a), none, none, none] H Q := by
  refine ⟨.ref a, rfl, .ref a, rfl, 1, rfl, a, ns.map V.int, rfl, hS, fun c nc => ?_⟩
  have s1 : Ex H (upd H c (.lst (cutV (ns.map V.int) (some 1) none))) := Ex.new nc
  refine ⟨a, c, ns.map V.int, _, rfl, ex_l s1 hS, .inl (.inl upd_same), fun D hD => ?_⟩
  have hD0 : H D = none := fresh_back s1 hD
  have s2 : Ex (upd H c (.lst (cutV (ns.map V.int) (some 1) none))) (upd (upd H c (.lst (cutV (ns.map V.int) (some 1) none))) D (.lst [])) := Ex.new hD
  have ncD : c ≠ D := fun e => by
    rw [← e, upd_same] at hD
    cases hD
  refine ⟨fun i m H3 => i + m = ns.length - 1 ∧ Ex H H3 ∧ H3 c = some (.lst ((ns.drop 1).map V.int)) ∧ H3 D = some (.lst (((fwords ns).take i).map vW)),
    ⟨ns.length - 1, by omega, s1.trans s2, ?_, ?_⟩, fun i m H3 hW => ?_⟩
  · rw [upd_ne ncD, upd_same, cut1, List.map_drop]
  · rw [upd_same]
    rfl
  · obtain ⟨em, sm, ec, eo⟩ := hW
    have hA : SqL K H3 a (ns.map V.int) := ex_l sm hS
    have hC : SqL K H3 c ((ns.drop 1).map V.int) := .inl (.inl ec)
    by_cases hi : i < ns.length - 1
    · have h1 : i < ns.length := by omega
      have h2 : i + 1 < ns.length := by omega
      have g1 : (ns.map V.int)[i]? = some (.int ns[i]) := by
        rw [List.getElem?_map, List.getElem?_eq_getElem h1]
        rfl
      have g2 : ((ns.drop 1).map V.int)[i]? = some (.int ns[i + 1]) := by
        rw [List.getElem?_map, List.getElem?_drop, Nat.add_comm 1 i, List.getElem?_eq_getElem h2]
        rfl
      have gd : (fwords ns)[i]? = some (word ns[i] ns[i + 1]) := fwords_get ns i _ _ (List.getElem?_eq_getElem h1) (List.getElem?_eq_getElem h2)
      refine .inr ⟨⟨_, _, _, _, hA, hC, g1, g2⟩, fun H' => Ex H H' ∧ H' c = some (.lst ((ns.drop 1).map V.int)) ∧ H' D = some (.lst (((fwords ns).take (i + 1)).map vW)), fun H' hN => ?_, fun x H' hy => ?_⟩
      · obtain ⟨sm', ec', eo'⟩ := hN
        exact ⟨m - 1, by omega, by omega, sm', ec', eo'⟩
      · obtain ⟨T, x1, x2, rfl, nT, rfl, f1, f2⟩ := hy
        have ex1 : x1 = .int ns[i] := Option.some.inj ((f1 _ hA).symm.trans g1)
        have ex2 : x2 = .int ns[i + 1] := Option.some.inj ((f2 _ hC).symm.trans g2)
        subst ex1 ex2
        have nTo : D ≠ T := ne_of_none eo nT
        have nTc : c ≠ T := ne_of_none ec nT
        have smT : Ex H3 (upd H3 T (.tup [.int ns[i], .int ns[i + 1]])) := Ex.new nT
        refine ⟨T, [.int ns[i], .int ns[i + 1]], rfl, .inl (.inl upd_same), rfl, _, [.int ns[i + 1]], rfl, _, [], rfl, rfl, rfl, ?_⟩
        dsimp only [tYes]
        rw [if_pos rfl]
        refine ⟨_, rfl, _, rfl, ns[i], ns[i + 1], rfl, ?_⟩
        have eoT : (upd H3 T (.tup [.int ns[i], .int ns[i + 1]])) D = some (.lst (((fwords ns).take i).map vW)) := smT _ _ eo
        refine ⟨_, eoT, ?_, (sm.trans smT).mut hD0, ?_, ?_⟩
        · rw [List.length_map, List.length_take]
          exact Nat.lt_of_le_of_lt (Nat.min_le_left _ _) (small1000 (by omega))
        · rw [upd_ne ncD]
          exact smT _ _ ec
        · rw [upd_same, List.take_add_one, gd, List.map_append]
          rfl
    · refine .inl ⟨⟨_, _, hA, hC, .inr ?_⟩, ?_⟩
      · rw [List.length_map, List.length_drop]
        omega
      · have ei : (fwords ns).take i = fwords ns := List.take_of_length_le (by
          rw [fwords_len]
          omega)
        rw [ei] at eo
        exact q D H3 hD0 sm eo
theorem pure_row_round {K : PySem.W.Frag} {vs : List V} {H : Hp} {Q : VK} {E : XK} (h : sp_row_round K vs H Q E) : t_row_round K { nx := fun _ H' => Q .non H', rt := Q } (start N_row_round vs) H := by
  obtain ⟨l, t, s, st, rfl, ht, hS, hP, hlen, q⟩ := h
  have hc : Evl.EvL (tLc (iList K (tVar 2)) (gName 4) tYes (tCall (sp_far_round K) [] E0 (tCons (tVar 0) (tCons (tVar 1) (tCons (tVar 4) tNil)))) [4]) (start N_row_round [.int l, .int t, .ref s]) H (st.map fun x => V.int (rd l t x)) := by
    refine el_map (K := K) (ns := st) (fun x => V.int (rd l t x)) (Evl.ev_var rfl) hS (by omega) (fun _ => rfl) (fun n H4 e4 hn => ?_)
    intro H5 e5 Q5 q5
    exact ⟨_, rfl, _, rfl, _, rfl, l, t, n, rfl, ht, hP n hn, q5 H5 (Ex.refl H5)⟩
  dsimp only [t_row_round, tSeq, tAsg]
  refine hc H (Ex.refl H) _ fun c H1 nc e1 h1 => ?_
  have e2 : (st.map fun x => V.int (rd l t x)) = (st.map (rd l t)).map V.int := by
    rw [List.map_map]
    rfl
  rw [e2] at h1
  refine row_zip (SqL.of h1) (by rw [List.length_map]; exact hlen) fun p H2 np e3 h3 => ?_
  rw [fwords_rd] at h3
  exact q p H2 (fresh_back e1 np) (e1.trans e3) h3
theorem len_row_round {K : PySem.W.Frag} {vs : List V} {H : Hp} {Q : VK} {E : XK} (h : sp_row_round K vs H Q E) : vs.length = 3 := by
  obtain ⟨l, t, s, st, rfl, _⟩ := h
  rfl
def sp_can_lie_round (K : PySem.W.Frag) : Sp := fun vs H Q _ => ∃ (l : Int) (s a : Addr) (st : List Int) (ws : List Wo), vs = [.int l, .ref s, .ref a] ∧ 1 ≤ l ∧ l ≤ 60 ∧ H s = some (.lst (st.map V.int)) ∧ st.length ≤ 40 ∧ Places l st ∧ H a = some (.lst (ws.map vW)) ∧ ws.length = st.length - 1 ∧
  ∀ p H', H p = none → Ex H H' → H' p = some (.tup ((rlies l st ws).map V.int)) → Q (.ref p) H'
abbrev N_can_lie_round : List Str := ["length", "stands", "answers", "place"]
def t_can_lie_round (K : PySem.W.Frag) : TS := (tSeq (tDrop (tCall (sp_check_length K) [] E0 (tCons (tVar 0) tNil)))
  (tSeq (tDrop (tCall (sp_check_stands K) [] E0 (tCons (tVar 1) (tCons (tVar 0) tNil))))
  (tSeq (tDrop (tCall (sp_check_answers K) [] E0 (tCons (tVar 2) (tCons (tVar 1) tNil))))
  (tRet (tCB (rTupleOf K) (tCons (tLc (iRng2 (tCons (tC (.int 1)) (tCons (tOp (rI0 fun i j => .int (i + j)) (tVar 0) (tC (.int 1))) tNil))) (gName 3) (tTest (tOp (rEqD K) (tCall (sp_row_round K) [] E0 (tCons (tVar 0) (tCons (tVar 3) (tCons (tVar 1) tNil)))) (tVar 2))) (tVar 3) [3]) tNil))))))
theorem pure_can_lie_round {K : PySem.W.Frag} {vs : List V} {H : Hp} {Q : VK} {E : XK} (h : sp_can_lie_round K vs H Q E) : t_can_lie_round K { nx := fun _ H' => Q .non H', rt := Q } (start N_can_lie_round vs) H := by
  obtain ⟨l, s, a, st, ws, rfl, h1, h2, hs, hl, hp, ha, hw, q⟩ := h
  refine ⟨_, rfl, l, rfl, h1, h2, ?_⟩
  refine ⟨_, rfl, _, rfl, s, st, l, rfl, hs, hl, hp, fun H1 e1 => ?_⟩
  refine ⟨_, rfl, _, rfl, a, s, ws, st, rfl, e1 _ _ ha, SqL.of (e1 _ _ hs), hw, by omega, fun H2 e2 => ?_⟩
  have hs2 := e2 _ _ (e1 _ _ hs)
  have ha2 := e2 _ _ (e1 _ _ ha)
  have hc : Evl.EvL (tLc (iRng2 (tCons (tC (.int 1)) (tCons (tOp (rI0 fun i j => .int (i + j)) (tVar 0) (tC (.int 1))) tNil))) (gName 3) (tTest (tOp (rEqD K) (tCall (sp_row_round K) [] E0 (tCons (tVar 0) (tCons (tVar 3) (tCons (tVar 1) tNil)))) (tVar 2))) (tVar 3) [3]) (start N_can_lie_round [.int l, .ref s, .ref a]) H2 (((rng 1 (l + 1)).filter fun t => decide (rwordsOf l t st = ws)).map V.int) := by
    refine el_rng (fun t => decide (rwordsOf l t st = ws)) V.int (Evl.ea_cons Evl.ev_c (Evl.ea_cons (Evl.ev_op (Evl.ev_var rfl) Evl.ev_c Evl.rv_I0) Evl.ea_nil)) (by omega) (fun _ => rfl) (fun n H3 e3 hn1 hn2 => ?_) (fun n H3 e3 _ _ _ => Evl.ev_var rfl)
    intro H4 e4 Q4 q4
    refine ⟨_, rfl, _, rfl, _, rfl, l, n, s, st, rfl, ⟨by omega, by omega⟩, SqL.of ((e3.trans e4) _ _ hs2), hp, by omega, fun p H5 np e5 hp5 => ?_⟩
    refine ⟨_, rfl, ?_⟩
    exact eqWW (SqL.of hp5) (SqL.of (((e3.trans e4).trans e5) _ _ ha2)) ⟨_, rfl, q4 H5 e5⟩
  dsimp only [tRet, tCB, tCons]
  refine hc H2 (Ex.refl H2) _ fun p H3 np e3 h3 => ?_
  refine ⟨p, _, rfl, .inl ⟨SqL.of h3, fun u nu => ?_⟩⟩
  exact q u _ (fresh_back ((e1.trans e2).trans e3) nu) (((e1.trans e2).trans e3).trans (Ex.new nu)) upd_same
theorem len_can_lie_round {K : PySem.W.Frag} {vs : List V} {H : Hp} {Q : VK} {E : XK} (h : sp_can_lie_round K vs H Q E) : vs.length = 3 := by
  obtain ⟨l, s, a, st, ws, rfl, _⟩ := h
  rfl
/-! ### paths: stretches, mirrors -/
theorem rng_nil {lo hi : Int} (h : hi ≤ lo) : rng lo hi = [] := by
  unfold rng
  have e : (hi - lo).toNat = 0 := by omega
  rw [e]
  rfl
theorem rng_cons {lo hi : Int} (h : lo < hi) : rng lo hi = lo :: rng (lo + 1) hi := by
  unfold rng
  have e : (hi - lo).toNat = (hi - (lo + 1)).toNat + 1 := by omega
  rw [e, List.range_succ_eq_map, List.map_cons, List.map_map]
  congr 1
  · exact Int.add_zero lo
  · refine List.map_congr_left fun k _ => ?_
    show lo + ((k + 1 : Nat) : Int) = lo + 1 + (k : Int)
    omega
theorem rng_snoc {lo hi : Int} (h : lo ≤ hi) : rng lo (hi + 1) = rng lo hi ++ [hi] := by
  unfold rng
  have e : (hi + 1 - lo).toNat = (hi - lo).toNat + 1 := by omega
  rw [e, List.range_succ, List.map_append]
  congr 1
  show [lo + (((hi - lo).toNat : Nat) : Int)] = [hi]
  congr 1
  omega
/-- what a convex wish leaves of a stretch is a stretch -/
theorem rng_convex {p : Int → Bool} (hp : ∀ x y z, x < y → y < z → p x = true → p z = true → p y = true) : ∀ (n : Nat) (lo hi : Int), (hi - lo).toNat = n → ∃ a b, (rng lo hi).filter p = rng a b
  | 0, lo, hi, hn => ⟨0, 0, by rw [rng_nil (by omega), rng_nil (by omega)]; rfl⟩
  | n + 1, lo, hi, hn => by
    have hlt : lo < hi := by omega
    obtain ⟨a, b, e⟩ := rng_convex hp n (lo + 1) hi (by omega)
    rw [rng_cons hlt]
    cases hl : p lo with
    | false =>
      rw [List.filter_cons_of_neg (by rw [hl]; decide)]
      exact ⟨a, b, e⟩
    | true =>
      rw [List.filter_cons_of_pos hl, e]
      by_cases hab : a < b
      · have ha : a ∈ (rng (lo + 1) hi).filter p := by
          rw [e]
          exact mem_rng.mpr ⟨by omega, hab⟩
        obtain ⟨m1, m2⟩ := List.mem_filter.mp ha
        have m3 := mem_rng.mp m1
        have q : p (lo + 1) = true := by
          by_cases z : a = lo + 1
          · rw [← z]
            exact m2
          · exact hp lo (lo + 1) a (by omega) (by omega) hl m2
        have m4 : lo + 1 ∈ rng a b := by
          rw [← e]
          exact List.mem_filter.mpr ⟨mem_rng.mpr ⟨by omega, by omega⟩, q⟩
        have m5 := mem_rng.mp m4
        have z : a = lo + 1 := by omega
        exact ⟨lo, b, by rw [rng_cons (show lo < b by omega), z]⟩
      · rw [rng_nil (by omega : b ≤ a)]
        exact ⟨lo, lo + 1, by rw [rng_cons (by omega), rng_nil (by omega)]⟩
theorem wordsOf_cons2 (t a b : Int) (r : List Int) : wordsOf t (a :: b :: r) = mv t a b :: wordsOf t (b :: r) := rfl
theorem wordsOf_takeS (t : Int) : ∀ (st : List Int) (i : Nat), (wordsOf t st).take i = wordsOf t (st.take (i + 1))
  | [], i => by simp [wordsOf]
  | [a], i => by
    rw [List.take_of_length_le (show ([a] : List Int).length ≤ i + 1 by simp)]
    show ([] : List Wo).take i = []
    rw [List.take_nil]
  | a :: b :: r, 0 => rfl
  | a :: b :: r, i + 1 => by
    rw [wordsOf_cons2, List.take_succ_cons, wordsOf_takeS t (b :: r) i]
    rfl
theorem wordsOf_one (t : Int) {st : List Int} (h : st.length ≤ 1) : wordsOf t st = [] := by
  match st, h with
  | [], _ => rfl
  | [_], _ => rfl
/-- one stand more -/
theorem wordsOf_step (t : Int) (st : List Int) (i : Nat) (h : i + 1 < st.length) : wordsOf t (st.take (i + 2)) = wordsOf t (st.take (i + 1)) ++ [mv t st[i] st[i + 1]] := by
  rw [← wordsOf_takeS, ← wordsOf_takeS, List.take_add_one, wordsOf_get t st i _ _ (List.getElem?_eq_getElem (by omega)) (List.getElem?_eq_getElem h)]
  rfl
theorem lies_step (l t0 : Int) (st : List Int) (i : Nat) (h : i + 1 < st.length) :
    lies l (st.take (i + 2)) ((wordsOf t0 st).take (i + 1)) = (lies l (st.take (i + 1)) ((wordsOf t0 st).take i)).filter fun t => decide (mv t st[i] st[i + 1] = mv t0 st[i] st[i + 1]) := by
  unfold lies
  rw [List.filter_filter]
  refine List.filter_congr fun t _ => ?_
  rw [wordsOf_takeS, wordsOf_takeS, wordsOf_step t st i h, wordsOf_step t0 st i h]
  have e : (wordsOf t (st.take (i + 1)) ++ [mv t st[i] st[i + 1]] = wordsOf t0 (st.take (i + 1)) ++ [mv t0 st[i] st[i + 1]]) ↔ (mv t st[i] st[i + 1] = mv t0 st[i] st[i + 1] ∧ wordsOf t (st.take (i + 1)) = wordsOf t0 (st.take (i + 1))) := by
    constructor
    · intro h2
      obtain ⟨h3, h4⟩ := List.append_inj' h2 rfl
      exact ⟨by simpa using h4, h3⟩
    · rintro ⟨h3, h4⟩
      rw [h3, h4]
  rw [← Bool.decide_and]
  exact decide_eq_decide.mpr e
theorem ab_cases (i : Int) : (0 ≤ i ∧ ab i = i) ∨ (i < 0 ∧ ab i = -i) := by
  unfold ab
  split
  · exact .inr ⟨by omega, rfl⟩
  · exact .inl ⟨by omega, rfl⟩
theorem mv_cases (t b n : Int) : (mv t b n = .warm ∧ ab (t - n) < ab (t - b)) ∨ (mv t b n = .cold ∧ ab (t - b) < ab (t - n)) ∨ (mv t b n = .same ∧ ab (t - b) = ab (t - n)) := by
  unfold mv word
  split
  · exact .inl ⟨rfl, by assumption⟩
  · split
    · exact .inr (.inl ⟨rfl, by assumption⟩)
    · exact .inr (.inr ⟨rfl, by omega⟩)
theorem mv_side (t b n : Int) : (mv t b n = .warm ∧ ((b < n ∧ b + n < 2 * t) ∨ (n < b ∧ 2 * t < b + n))) ∨ (mv t b n = .cold ∧ ((b < n ∧ 2 * t < b + n) ∨ (n < b ∧ b + n < 2 * t))) ∨ (mv t b n = .same ∧ (b = n ∨ 2 * t = b + n)) := by
  have h1 := ab_cases (t - b)
  have h2 := ab_cases (t - n)
  rcases mv_cases t b n with ⟨e, h⟩ | ⟨e, h⟩ | ⟨e, h⟩
  · exact .inl ⟨e, by omega⟩
  · exact .inr (.inl ⟨e, by omega⟩)
  · exact .inr (.inr ⟨e, by omega⟩)
theorem mv_warm {t b n : Int} : mv t b n = .warm ↔ (b < n ∧ b + n < 2 * t) ∨ (n < b ∧ 2 * t < b + n) := by
  rcases mv_side t b n with ⟨e, h⟩ | ⟨e, h⟩ | ⟨e, h⟩
  · exact ⟨fun _ => h, fun _ => e⟩
  · exact ⟨fun z => (by rw [e] at z; cases z), fun z => (by omega)⟩
  · exact ⟨fun z => (by rw [e] at z; cases z), fun z => (by omega)⟩
theorem mv_cold {t b n : Int} : mv t b n = .cold ↔ (b < n ∧ 2 * t < b + n) ∨ (n < b ∧ b + n < 2 * t) := by
  rcases mv_side t b n with ⟨e, h⟩ | ⟨e, h⟩ | ⟨e, h⟩
  · exact ⟨fun z => (by rw [e] at z; cases z), fun z => (by omega)⟩
  · exact ⟨fun _ => h, fun _ => e⟩
  · exact ⟨fun z => (by rw [e] at z; cases z), fun z => (by omega)⟩
theorem mv_same {t b n : Int} : mv t b n = .same ↔ b = n ∨ 2 * t = b + n := by
  rcases mv_side t b n with ⟨e, h⟩ | ⟨e, h⟩ | ⟨e, h⟩
  · exact ⟨fun z => (by rw [e] at z; cases z), fun z => (by omega)⟩
  · exact ⟨fun z => (by rw [e] at z; cases z), fun z => (by omega)⟩
  · exact ⟨fun _ => h, fun _ => e⟩
theorem mv_convex (w : Wo) (b n x y z : Int) (h1 : x < y) (h2 : y < z) (hx : mv x b n = w) (hz : mv z b n = w) : mv y b n = w := by
  cases w with
  | warm =>
    have := mv_warm.mp hx
    have := mv_warm.mp hz
    exact mv_warm.mpr (by omega)
  | cold =>
    have := mv_cold.mp hx
    have := mv_cold.mp hz
    exact mv_cold.mpr (by omega)
  | same =>
    have := mv_same.mp hx
    have := mv_same.mp hz
    exact mv_same.mpr (by omega)
theorem wordsOf_convex (x y z : Int) (h1 : x < y) (h2 : y < z) : ∀ (st : List Int) (ws : List Wo), wordsOf x st = ws → wordsOf z st = ws → wordsOf y st = ws
  | [], ws, hx, _ => hx
  | [_], ws, hx, _ => hx
  | a :: b :: r, ws, hx, hz => by
    rw [wordsOf_cons2] at hx hz ⊢
    cases ws with
    | nil => cases hx
    | cons w ws =>
      obtain ⟨p1, p2⟩ := List.cons.inj hx
      obtain ⟨q1, q2⟩ := List.cons.inj hz
      rw [mv_convex w a b x y z h1 h2 p1 q1, wordsOf_convex x y z h1 h2 (b :: r) ws p2 q2]
theorem lies_stretch (l : Int) (st : List Int) (ws : List Wo) : ∃ a b, lies l st ws = rng a b :=
  rng_convex (fun x y z h1 h2 hx hz => decide_eq_true (wordsOf_convex x y z h1 h2 st ws (of_decide_eq_true hx) (of_decide_eq_true hz))) _ 1 (l + 1) rfl
theorem mem_lies {l t : Int} {st : List Int} {ws : List Wo} : t ∈ lies l st ws ↔ (1 ≤ t ∧ t ≤ l) ∧ wordsOf t st = ws := by
  unfold lies
  rw [List.mem_filter, mem_rng, decide_eq_true_iff]
  constructor
  · rintro ⟨⟨h1, h2⟩, h3⟩
    exact ⟨⟨h1, by omega⟩, h3⟩
  · rintro ⟨⟨h1, h2⟩, h3⟩
    exact ⟨⟨h1, by omega⟩, h3⟩
theorem lies_all (l : Int) {st : List Int} (h : st.length ≤ 1) : lies l st [] = rng 1 (l + 1) := by
  unfold lies
  exact List.filter_eq_self.mpr fun t _ => decide_eq_true (wordsOf_one t h)
theorem mv_mirror (c t e l : Int) : mv (c - t) (c - e) (c - l) = mv t e l := by
  unfold mv
  have h1 : ab (c - t - (c - e)) = ab (t - e) := by
    unfold ab
    split <;> split <;> omega
  have h2 : ab (c - t - (c - l)) = ab (t - l) := by
    unfold ab
    split <;> split <;> omega
  rw [h1, h2]
theorem wordsOf_mirror (c t : Int) : ∀ st : List Int, wordsOf (c - t) (st.map fun p => c - p) = wordsOf t st
  | [] => rfl
  | [_] => rfl
  | a :: b :: r => by
    show mv (c - t) (c - a) (c - b) :: wordsOf (c - t) ((b :: r).map fun p => c - p) = _
    rw [mv_mirror, wordsOf_mirror c t (b :: r)]
    rfl
theorem rng_mirror : ∀ (n : Nat) (lo hi c : Int), (hi - lo).toNat = n → ((rng lo hi).reverse).map (fun x => c - x) = rng (c - hi + 1) (c - lo + 1)
  | 0, lo, hi, c, hn => by
    rw [rng_nil (by omega), rng_nil (by omega)]
    rfl
  | n + 1, lo, hi, c, hn => by
    rw [rng_cons (by omega), List.reverse_cons, List.map_append, rng_mirror n (lo + 1) hi c (by omega)]
    have e : c - (lo + 1) + 1 = c - lo := by omega
    rw [e, rng_snoc (by omega)]
    rfl
theorem lies_mirror (l : Int) (st : List Int) (ws : List Wo) : lies l (st.map fun p => l + 1 - p) ws = ((lies l st ws).reverse).map fun x => l + 1 - x := by
  have e : rng 1 (l + 1) = ((rng 1 (l + 1)).reverse).map fun x => l + 1 - x := by
    rw [rng_mirror _ 1 (l + 1) (l + 1) rfl]
    congr 1 <;> omega
  unfold lies
  rw [← List.filter_reverse]
  conv => lhs; rw [e]
  rw [List.filter_map]
  congr 1
  refine List.filter_congr fun t _ => ?_
  show decide (wordsOf (l + 1 - t) (st.map fun p => l + 1 - p) = ws) = decide (wordsOf t st = ws)
  rw [wordsOf_mirror]
def turn : Wo → Wo
  | .warm => .cold
  | .cold => .warm
  | .same => .same
theorem mv_turn (t e l : Int) : mv t l e = turn (mv t e l) := by
  unfold mv word
  by_cases h1 : ab (t - l) < ab (t - e)
  · rw [if_neg (by omega), if_pos h1, if_pos h1]
    rfl
  · by_cases h2 : ab (t - e) < ab (t - l)
    · rw [if_pos h2, if_neg h1, if_pos h2]
      rfl
    · rw [if_neg h2, if_neg h1, if_neg h1, if_neg h2]
      rfl
theorem wordsOf_snoc (t : Int) : ∀ (xs : List Int) (y x : Int), wordsOf t (xs ++ [y, x]) = wordsOf t (xs ++ [y]) ++ [mv t y x]
  | [], y, x => rfl
  | [a], y, x => rfl
  | a :: b :: r, y, x => by
    show mv t a b :: wordsOf t (b :: r ++ [y, x]) = (mv t a b :: wordsOf t (b :: r ++ [y])) ++ [mv t y x]
    rw [wordsOf_snoc t (b :: r) y x]
    rfl
theorem wordsOf_back (t : Int) : ∀ st : List Int, (wordsOf t st.reverse).reverse = (wordsOf t st).map turn
  | [] => rfl
  | [_] => rfl
  | a :: b :: r => by
    have e : (a :: b :: r).reverse = r.reverse ++ [b, a] := by simp
    have e2 : r.reverse ++ [b] = (b :: r).reverse := by simp
    rw [e, wordsOf_snoc, e2, List.reverse_append, wordsOf_back t (b :: r), wordsOf_cons2, List.map_cons, ← mv_turn]
    rfl
theorem in_ints (t : Int) (ns : List Int) : inV (V.int t) (ns.map V.int) = decide (t ∈ ns) := by
  unfold inV
  rw [List.any_map]
  induction ns with
  | nil => rfl
  | cons n r ih =>
    rw [List.any_cons, ih]
    show ((n == t) || decide (t ∈ r)) = decide (t ∈ n :: r)
    by_cases h1 : n = t
    · subst h1
      simp
    · have h2 : ¬ t = n := fun e => h1 e.symm
      simp [h1, h2]
theorem flat_ints (ns : List Int) : (ns.map V.int).all flatV = true := by
  rw [List.all_map, List.all_eq_true]
  intro n _
  rfl
theorem cut_to (xs : List V) (k : Nat) : cutV xs none (some (k : Int)) = xs.take k := by
  unfold cutV
  rw [HT.sIx_none, HT.sIx_nat, List.drop_zero, Nat.sub_zero]
  by_cases h : k ≤ xs.length
  · rw [Nat.min_eq_left h]
  · rw [Nat.min_eq_right (by omega), List.take_of_length_le (Nat.le_refl _), List.take_of_length_le (by omega)]
/-! ### rows of answers as tuples -/
def keyW (ws : List Wo) : List Key := ws.map fun x => Sum.inr x.str
theorem keyW_map (ws : List Wo) : (keyW ws).map kV = ws.map vW := by
  unfold keyW
  rw [List.map_map]
  rfl
theorem keyW_inj : ∀ {x y : List Wo}, keyW x = keyW y → x = y
  | [], [], _ => rfl
  | [], _ :: _, h => by cases h
  | _ :: _, [], h => by cases h
  | a :: x, b :: y, h => by
    obtain ⟨h1, h2⟩ := List.cons.inj h
    rw [Wo.str_inj (Sum.inr.inj h1), keyW_inj h2]
theorem eqUU {K : PySem.W.Frag} {H : Hp} {a b : Addr} {ns ms : List Wo} {Q : VK} (h1 : SqT K H a (ns.map vW)) (h2 : SqT K H b (ms.map vW)) (q : Q (.bl (decide (ns = ms))) H) : rEqD K (.ref a) (.ref b) H Q := by
  refine ⟨_, _, .tup h1 (dpW ns), .tup h2 (dpW ms), shaped_t (shW ns), shaped_t (shW ms), ?_⟩
  show Q (.bl (PyData.eqvAll (ns.map fun x => PyData.str x.str) (ms.map fun x => PyData.str x.str))) H
  rw [eqvW]
  exact q
/-- no two neighbours are alike | the first two that are -/
def NoPair (l : Int) (st : List Int) : Prop := ∀ q, 1 ≤ q → q < l → wordsOf q st ≠ wordsOf (q + 1) st
def PairAt (l : Int) (st : List Int) (p : Int) : Prop := 1 ≤ p ∧ p < l ∧ wordsOf p st = wordsOf (p + 1) st ∧ ∀ q, 1 ≤ q → q < p → wordsOf q st ≠ wordsOf (q + 1) st
/-- all unlike rows, each once -/
def Rows (l : Int) (st : List Int) (D : List (List Wo)) : Prop := D.Nodup ∧ ∀ r, r ∈ D ↔ ∃ t, (1 ≤ t ∧ t ≤ l) ∧ wordsOf t st = r
theorem Rows.same {l : Int} {st : List Int} {D D' : List (List Wo)} (h : Rows l st D) (h' : Rows l st D') : D.length = D'.length :=
  ((List.perm_ext_iff_of_nodup h.1 h'.1).mpr fun r => (h.2 r).trans (h'.2 r).symm).length_eq
theorem near_of {x y : Int} {st : List Int} (h : x < y) (e : wordsOf x st = wordsOf y st) : wordsOf x st = wordsOf (x + 1) st := by
  by_cases z : y = x + 1
  · rw [← z]
    exact e
  · exact (wordsOf_convex x (x + 1) y (by omega) (by omega) st _ rfl e.symm).symm
/-! ### len(set(xs)), xs a list of tuples of texts (and ints): the table's own words are the library's, what stands in it is told here -/
abbrev Tk := List Key
abbrev tH (P : Program) (w : World) (k : Tk) : Int := tupleKeyHash (mixKind P w) k
abbrev IsTu (P : Program) (w : World) (h : Heap) (k : Tk) (b : Addr) : Prop := IsTupleKey (mixKind P w) h k b
def Flat (v : Value) : Prop := (∃ i t, v = Value.int i t) ∨ ∃ x t, v = Value.str x t
theorem flat_of {P : Program} {w : World} : ∀ {k : Tk} {us : List Value}, PySem.ItemsAre (mixKind P w) k us → ∀ u ∈ us, Flat u
  | _, _, .nil, u, hu => nomatch hu
  | _, _, .cons h1 h2, u, hu => by
    rcases List.mem_cons.mp hu with e | hu
    · rw [e]
      rcases keyIs_shape h1 with ⟨i, t, _, z⟩ | ⟨x, t, _, z⟩
      · exact .inl ⟨i, t, z⟩
      · exact .inr ⟨x, t, z⟩
    · exact flat_of h2 u hu
theorem Flat.noClass {v : Value} (f : Flat v) (n : Nat) : ofAClassStatement n v = pure false := by
  rcases f with ⟨i, t, rfl⟩ | ⟨x, t, rfl⟩ <;> cases n <;> rfl
theorem Flat.byVal {v : Value} (f : Flat v) (n : Nat) : ∃ b, hashByValue n v = pure b := by
  rcases f with ⟨i, t, rfl⟩ | ⟨x, t, rfl⟩
  · exact ⟨true, by cases n <;> rfl⟩
  · exact ⟨false, by cases n <;> rfl⟩
theorem vals_items {P : Program} {w : World} : ∀ {k : Tk} {us : List Value}, Vals (k.map kV) us → PySem.ItemsAre (mixKind P w) k us
  | [], _, .nil => .nil
  | .inl i :: k, _, .cons r t => by
    obtain ⟨tk, rfl⟩ := r
    exact .cons (keyIs_int i tk) (vals_items t)
  | .inr x :: k, _, .cons r t => by
    obtain ⟨tk, rfl⟩ := r
    exact .cons (keyIs_str x tk) (vals_items t)
section
variable {P : Program} {w : World} {A : Around} {E : Value → Shared → Prop} {s : Shared}
theorem tu_noClass {k : Tk} {b : Addr} {Q : Bool → Shared → Prop} (hk : IsTu P w s.heap k b) (q : Q false s) : wpAny (model P w) A (ofAClassStatement 8 (.ref b)) Q E s := by
  have ty := hk.typeIs
  obtain ⟨ob, us, n, g1, _, g3, g4⟩ := hk
  unfold ofAClassStatement
  refine wpAny_bind (wpAny_typeOf ty ?_)
  dsimp only
  have z : (("tuple" : String) == "tuple") = true := by decide
  simp only [z, if_true, Bool.not_true, Bool.false_eq_true, if_false]
  try refine wpAny_bind (wpAny_pure ?_)
  try simp only [Bool.not_true, Bool.false_eq_true, if_false]
  show wpAny _ _ (seqItems? (.ref b) >>= _) _ _ s
  refine wpAny_bind (wpAny_seqItems g1 g3 ?_)
  dsimp only
  refine wpAny_bind ?_
  show wpAny _ _ (forIn us _ _) _ _ s
  rw [← Array.forIn_toList]
  refine wpAny_forIn_list _ (fun left r s' => r.1 = none ∧ s' = s ∧ ∀ u ∈ left, Flat u) _ ?_ ?_ _ _ ⟨rfl, rfl, flat_of g4⟩
  · rintro u left r s' ⟨_, rfl, fl⟩
    rw [(fl u List.mem_cons_self).noClass]
    refine wpAny_bind (wpAny_pure ?_)
    simp only [Bool.false_eq_true, if_false]
    exact wpAny_pure ⟨rfl, rfl, fun y hy => fl y (List.mem_cons_of_mem _ hy)⟩
  · rintro ⟨r1, r2⟩ s' ⟨hr, rfl, _⟩
    simp only at hr
    subst hr
    exact wpAny_pure q
theorem tu_byVal {k : Tk} {b : Addr} {Q : Bool → Shared → Prop} (hk : IsTu P w s.heap k b) (q : ∀ c, Q c s) : wpAny (model P w) A (hashByValue 8 (.ref b)) Q E s := by
  have ty := hk.typeIs
  obtain ⟨ob, us, n, g1, _, g3, g4⟩ := hk
  unfold hashByValue
  refine wpAny_bind (wpAny_specialOf ty F.slot_tuple_hash.lookup ?_)
  show wpAny _ _ (seqItems? (.ref b) >>= _) _ _ s
  refine wpAny_bind (wpAny_seqItems g1 g3 ?_)
  refine wpAny_bind ?_
  show wpAny _ _ (forIn us _ _) _ _ s
  rw [← Array.forIn_toList]
  refine wpAny_forIn_list _ (fun left r s' => r.1 = none ∧ s' = s ∧ ∀ u ∈ left, Flat u) _ ?_ ?_ _ _ ⟨rfl, rfl, flat_of g4⟩
  · rintro u left r s' ⟨_, rfl, fl⟩
    obtain ⟨c, ec⟩ := (fl u List.mem_cons_self).byVal 7
    rw [ec]
    refine wpAny_bind (wpAny_pure ?_)
    cases c with
    | true =>
      simp only [Bool.not_true, Bool.false_eq_true, if_false]
      exact wpAny_pure ⟨rfl, rfl, fun y hy => fl y (List.mem_cons_of_mem _ hy)⟩
    | false =>
      simp only [Bool.not_false, if_true]
      exact wpAny_pure (wpAny_pure (q _))
  · rintro ⟨r1, r2⟩ s' ⟨hr, rfl, _⟩
    simp only at hr
    subst hr
    exact wpAny_pure (q _)
theorem tu_seen {k : Tk} {b : Addr} {Q : Bool → Shared → Prop} (hk : IsTu P w s.heap k b) {ys : List Value} (hy : ∀ y ∈ ys, ∃ k' c, y = Value.ref c ∧ IsTu P w s.heap k' c) (q : Q false s) :
    wpAny (model P w) A (searchCouldBeSeen (.ref b) ys) Q E s := by
  unfold searchCouldBeSeen
  refine wpAny_bind ?_
  refine wpAny_forIn_list _ (fun left r s' => r.1 = none ∧ s' = s ∧ ∀ y ∈ left, ∃ k' c, y = Value.ref c ∧ IsTu P w s.heap k' c) _ ?_ ?_ _ _ ⟨rfl, rfl, hy⟩
  · rintro y left r s' ⟨_, rfl, al⟩
    obtain ⟨k', c, rfl, hc⟩ := al y List.mem_cons_self
    have al' : ∀ z ∈ left, ∃ k' c, z = Value.ref c ∧ IsTu P w s'.heap k' c := fun z hz => al z (List.mem_cons_of_mem _ hz)
    dsimp only
    by_cases hv : (b == c || (carriedByValue (.ref b) && carriedByValue (.ref c))) = true
    · exact wp_if_pos hv (wpAny_pure ⟨rfl, rfl, al'⟩)
    · refine wp_if_neg hv (wpAny_bind (wpAny_eqIsQuiet_tuple hk ?_))
      simp only [Bool.not_true, Bool.false_eq_true, if_false]
      refine wpAny_bind (wpAny_eqIsQuiet_tuple hc ?_)
      simp only [Bool.not_true, Bool.false_eq_true, if_false]
      refine wpAny_bind (tu_noClass hk ?_)
      simp only [Bool.false_eq_true, if_false]
      refine wpAny_bind (tu_noClass hc ?_)
      simp only [Bool.false_eq_true, if_false]
      exact wpAny_pure ⟨rfl, rfl, al'⟩
  · rintro ⟨r1, r2⟩ s' ⟨hr, rfl, _⟩
    simp only at hr
    subst hr
    exact wpAny_pure q
end
/-- at a a set stands that has got the tuples L -/
structure Sx (P : Program) (w : World) (h : Heap) (a : Addr) (L : List (Addr × Tk)) (es : Array (Int × Value)) (ep : Nat) (t : SetTable) : Prop where
  ob : ∃ o, h.get? a = some o ∧ o.ExactSet ∧ o.data = .set es ep t
  en : es.toList = L.map fun p => (tH P w p.2, Value.ref p.1)
  tab : TabOk t (L.map fun p => tH P w p.2)
  nd : (L.map (·.2)).Nodup
  tu : ∀ p ∈ L, IsTu P w h p.2 p.1
  room : L.length * 5 < t.mask * 3
section
variable {P : Program} {w : World} {A : Around} {E : Value → Shared → Prop} {s : Shared} {h : Heap} {a : Addr} {L : List (Addr × Tk)} {es : Array (Int × Value)} {ep : Nat} {t : SetTable}
theorem Sx.sz (R : Sx P w h a L es ep t) : es.size = L.length := by
  have q := congrArg List.length R.en
  rwa [Array.length_toList, List.length_map] at q
theorem Sx.pl (R : Sx P w h a L es ep t) : t.place.toList.length = L.length := by
  have q := R.tab.sz
  rwa [List.length_map, ← Array.length_toList] at q
theorem Sx.fits (R : Sx P w h a L es ep t) : t.fits es.size = true := by
  have q1 := R.pl
  have q2 := R.sz
  have q3 := R.room
  rw [Array.length_toList] at q1
  unfold SetTable.fits SetTable.fill
  rw [R.tab.dm, Bool.and_eq_true, beq_iff_eq, decide_eq_true_eq]
  exact ⟨q1.trans q2.symm, by show t.place.size + 0 ≤ t.mask; omega⟩
theorem Sx.at (R : Sx P w h a L es ep t) {i : Nat} {p : Addr × Tk} (e : L[i]? = some p) : es[i]? = some (tH P w p.2, Value.ref p.1) := by
  rw [← Array.getElem?_toList, R.en, List.getElem?_map, e]
  rfl
theorem Sx.odd (R : Sx P w h a L es ep t) : ¬ t.gaveWay = true := by
  unfold SetTable.gaveWay
  rw [mask_odd R.tab.mok]
  decide
theorem nth_dummy (m : Nat) : ∀ (n : Nat) (p : SetTable.Probe), p.dummy = none → (nth m p n).dummy = none
  | 0, _, z => z
  | n + 1, p, z => nth_dummy m n (adv m p) (by unfold adv; split <;> exact z)
/-- the c-th probe of the way of a hash -/
abbrev pr (t : SetTable) (x : Int) (c : Nat) : SetTable.Probe := nth t.mask (runAt t.mask (SetTable.bits x % (t.mask + 1)) (SetTable.bits x)) c
/-- looked for: there, or the first empty slot of its way -/
theorem sx_seek (R : Sx P w s.heap a L es ep t) {x : Addr} {k : Tk} (hx : IsTu P w s.heap k x) (hu : A.units < cLine) {F : Nat} (f1 : F < 10 * SetTable.turns t.mask) (f2 : (pr t (tH P w k) F).j ∉ t.place.toList)
    (f3 : ∀ c, c < F → (pr t (tH P w k) c).j ∈ t.place.toList) {Q : SetFound → Shared → Prop} (yes : k ∈ L.map (·.2) → Q (.there none) s) (no : k ∉ L.map (·.2) → Q (.free (pr t (tH P w k) F).j false) s) :
    ∀ (n c : Nat) (st : Option SetTable.Probe), st.getD (t.probeStart (tH P w k)) = pr t (tH P w k) c → c ≤ F → F - c < n →
      (∀ (i : Nat) p, L[i]? = some p → p.2 = k → ∃ c', c ≤ c' ∧ c' < F ∧ t.place.toList[i]? = some (pr t (tH P w k) c').j) → wpAny (model P w) A (setSearchFrom a (.ref x) (tH P w k) true n st) Q E s := by
  intro n
  induction n with
  | zero => exact fun c st _ _ z _ => absurd z (Nat.not_lt_zero _)
  | succ n ih =>
    intro c st e0 hc hn am
    obtain ⟨o, o1, o2, o3⟩ := R.ob
    have go : ∀ q, nth t.mask (pr t (tH P w k) c) q = pr t (tH P w k) (c + q) := fun q => (nth_add t.mask c _ q).symm
    have hAt : ∀ (i : Nat) p, L[i]? = some p → (es[i]?.map (·.1)).getD 0 = tH P w p.2 := fun i p e => by
      rw [R.at e]
      rfl
    have met := go_spec t R.tab.ris R.tab.dm (fun i => (es[i]?.map (·.1)).getD 0) (tH P w k) (10 * SetTable.turns t.mask) (F - c) (pr t (tH P w k) c) (nth_dummy t.mask c _ rfl) (by omega)
      (fun q hq => by rw [go]; exact f3 _ (by omega)) (by rw [go, show c + (F - c) = F by omega]; exact f2)
    rw [setSearchFrom_succ]
    refine wpAny_bind (wpAny_setState_of o1 o3 R.fits ?_)
    dsimp only
    refine wp_if_neg R.odd ?_
    try refine wpAny_bind (wpAny_pure ?_)
    rw [e0]
    rcases met with ⟨q, i, m1, m2, m3, m4, m5⟩ | ⟨m4, m5⟩
    · rw [go] at m2
      have m5' : t.probe (fun i => (es[i]?.map (·.1)).getD 0) (tH P w k) (pr t (tH P w k) c) = some (.candidate (pr t (tH P w k) (c + q)).j i (pr t (tH P w k) (c + (q + 1)))) := by
        rw [← go q, ← go (q + 1)]
        exact m5
      rw [m5']
      dsimp only
      have il : i < L.length := by
        rw [← R.pl]
        exact (List.getElem?_eq_some_iff.mp m2).1
      obtain ⟨p, ep1⟩ : ∃ p, L[i]? = some p := ⟨_, List.getElem?_eq_getElem il⟩
      have pm : p ∈ L := List.mem_of_getElem? ep1
      have sl : t.slot (pr t (tH P w k) (c + q)).j = .live i := slot_live R.tab.ris m2
      have rest : wpAny (model P w) A (searchRest a (.ref x) (tH P w k) true n es t (pr t (tH P w k) (c + q)).j i (pr t (tH P w k) (c + (q + 1)))) Q E s := by
        unfold searchRest
        rw [R.at ep1]
        dsimp only
        refine wpAny_bind (wpAny_holding (wpAny_eqBool_tuple hu (R.tu p pm) hx ?_))
        refine wpAny_bind (wpAny_setState_of o1 o3 R.fits ?_)
        dsimp only
        by_cases same : p.2 = k
        · exact wp_if_pos (by simp [same]) (wpAny_pure (yes (List.mem_map.mpr ⟨p, pm, same⟩)))
        · refine wp_if_neg (by simp [same]) ?_
          try refine wpAny_bind (wpAny_pure ?_)
          rw [sameMem]
          dsimp only
          simp only [if_true, sl, R.at ep1]
          refine wpAny_bind (wpAny_isSame_ref_self (wpAny_bind (wpAny_pure ?_)))
          simp only [if_true]
          refine wp_if_neg (by simp [same]) (ih (c + (q + 1)) _ rfl (by omega) (by omega) fun i2 p2 e2 k2 => ?_)
          obtain ⟨c', b1, b2, b3⟩ := am i2 p2 e2 k2
          refine ⟨c', ?_, b2, b3⟩
          have n1 : ¬ c' < c + q := fun z => by
            refine m4 (c' - c) i2 (by omega) (by rw [go, show c + (c' - c) = c' by omega]; exact b3) ?_
            rw [hAt i2 p2 e2, k2]
          have n2 : c' ≠ c + q := fun z => by
            rw [z] at b3
            have s2 := slot_live R.tab.ris b3
            rw [sl] at s2
            injection s2 with s2
            rw [← s2, ep1] at e2
            exact same ((congrArg Prod.snd (Option.some.inj e2)).trans k2)
          omega
      by_cases hl : t.led = true
      · refine wp_if_neg (by simp [hl]) ?_
        try refine wpAny_bind (wpAny_pure ?_)
        exact rest
      · refine wp_if_pos (by simp [hl]) (wpAny_bind (tu_seen hx (fun y hy => ?_) ?_))
        · obtain ⟨e, he, rfl⟩ := List.mem_map.mp hy
          have he2 : e ∈ es.toList := by
            have z : e ∈ es ∧ e.1 = tH P w k := by simpa using he
            simpa using z.1
          rw [R.en] at he2
          obtain ⟨p2, hp2, rfl⟩ := List.mem_map.mp he2
          exact ⟨p2.2, p2.1, rfl, R.tu p2 hp2⟩
        · refine wp_if_neg (by decide) ?_
          try refine wpAny_bind (wpAny_pure ?_)
          exact rest
    · have m5' : t.probe (fun i => (es[i]?.map (·.1)).getD 0) (tH P w k) (pr t (tH P w k) c) = some (.empty (pr t (tH P w k) F).j none) := by
        have z := go (F - c)
        rw [show c + (F - c) = F by omega] at z
        rw [← z]
        exact m5
      rw [m5']
      dsimp only
      refine wpAny_pure (no fun hm => ?_)
      obtain ⟨p2, hp2, k2⟩ := List.mem_map.mp hm
      obtain ⟨i2, z1, z2⟩ := List.getElem_of_mem hp2
      have e2 : L[i2]? = some p2 := by rw [List.getElem?_eq_getElem z1, z2]
      obtain ⟨c', b1, b2, b3⟩ := am i2 p2 e2 k2
      refine m4 (c' - c) i2 (by omega) (by rw [go, show c + (c' - c) = c' by omega]; exact b3) ?_
      rw [hAt i2 p2 e2, k2]
theorem sx_look (R : Sx P w s.heap a L es ep t) {x : Addr} {k : Tk} (hx : IsTu P w s.heap k x) (hu : A.units < cLine) {Q : SetFound → Shared → Prop} (yes : k ∈ L.map (·.2) → Q (.there none) s)
    (no : ∀ F, k ∉ L.map (·.2) → (pr t (tH P w k) F).j ∉ t.place.toList → (∀ c, c < F → (pr t (tH P w k) c).j ∈ t.place.toList) → Q (.free (pr t (tH P w k) F).j false) s) :
    wpAny (model P w) A (setSearch a (.ref x) (tH P w k) true) Q E s := by
  have rm := R.room
  obtain ⟨F, f1, f2, f3⟩ := R.tab.first (by rw [List.length_map]; omega) (tH P w k)
  have f4 : F < 100000 := by
    have z : 10 * SetTable.turns t.mask ≤ 1420 := by
      unfold SetTable.turns
      rcases R.tab.mok with e | e | e <;> omega
    omega
  unfold setSearch
  refine sx_seek R hx hu f1 f2 f3 yes (fun z => no F z f2 f3) 100000 0 none rfl (Nat.zero_le _) (by omega) fun i p e k2 => ?_
  have il : i < t.place.toList.length := by
    rw [R.pl]
    exact (List.getElem?_eq_some_iff.mp e).1
  obtain ⟨c, c1, c2⟩ := R.tab.before (i := i) f2 (by rw [List.getElem?_map, e, ← k2]; rfl) (List.getElem?_eq_getElem il)
  exact ⟨c, Nat.zero_le _, c1, (List.getElem?_eq_getElem il).trans (congrArg some c2.symm)⟩
end
/-! ### a table laid anew; one tuple more -/
theorem fm_all {α : Type} (L : List α) : (List.range L.length).filterMap (fun i => L[i]?) = L := by
  have z := PySem.W.krv_all L.toArray
  rw [List.size_toArray] at z
  simpa using z
theorem order_hash {P : Program} {w : World} {L : List (Addr × Tk)} {es : Array (Int × Value)} (en : es.toList = L.map fun p => (tH P w p.2, Value.ref p.1)) : ∀ l : List Nat, (∀ i ∈ l, i < L.length) →
    l.filterMap (fun i => es[i]?) = (l.filterMap fun i => L[i]?).map (fun p => (tH P w p.2, Value.ref p.1)) ∧ (l.filterMap fun i => L[i]?).map (fun p => tH P w p.2) = l.map fun i => (es.map (·.1)).getD i 0
  | [], _ => ⟨rfl, rfl⟩
  | i :: l, hl => by
    have hi := hl i List.mem_cons_self
    obtain ⟨z1, z2⟩ := order_hash en l fun j hj => hl j (List.mem_cons_of_mem _ hj)
    have e1 : L[i]? = some L[i] := List.getElem?_eq_getElem hi
    have e2 : es[i]? = some (tH P w L[i].2, Value.ref L[i].1) := by
      rw [← Array.getElem?_toList, en, List.getElem?_map, e1]
      rfl
    have e3 : (es.map (·.1)).getD i 0 = tH P w L[i].2 := by
      have e4 : (es.map (·.1))[i]? = some (tH P w L[i].2) := by
        rw [Array.getElem?_map, e2]
        rfl
      simp [Array.getD_eq_getD_getElem?, e4]
    constructor
    · rw [List.filterMap_cons_some e2, List.filterMap_cons_some (f := fun i => L[i]?) e1, z1]
      rfl
    · rw [List.filterMap_cons_some (f := fun i => L[i]?) e1, List.map_cons, List.map_cons, z2, e3]
theorem TabOk.plainer {t : SetTable} {hs : List Int} (T : TabOk t hs) (b : Bool) : TabOk { t with plain := b } hs := ⟨T.ris, T.dm, T.sz, T.mok, T.bd, T.reach⟩
section
variable {P : Program} {w : World} {A : Around} {E : Value → Shared → Prop} {s : Shared} {h : Heap} {a : Addr} {L : List (Addr × Tk)} {es : Array (Int × Value)} {ep : Nat} {t : SetTable}
theorem tu_apart {h' : Heap} {k : Tk} {b : Addr} {o : Obj} (hb : IsTu P w h k b) (ho : h.get? a = some o) (hd : o.data = .set es ep t) (sb : Heap.SameBut a h h') : IsTu P w h' k b := by
  obtain ⟨ob, us, n, g1, g2, g3, g4⟩ := hb
  refine ⟨ob, us, n, (sb.2 b fun z => ?_).trans g1, g2, g3, g4⟩
  subst z
  rw [g1] at ho
  rw [Option.some.inj ho, hd] at g3
  cases g3
theorem sx_relay {o : Obj} (o1 : s.heap.get? a = some o) (o2 : o.ExactSet) (o3 : o.data = .set es ep t) (en : es.toList = L.map fun p => (tH P w p.2, Value.ref p.1)) (tz : t.place.size = L.length) (td : t.dummies = #[]) (tm : L.length ≤ t.mask)
    (nd : (L.map (·.2)).Nodup) (tu : ∀ p ∈ L, IsTu P w s.heap p.2 p.1) {want M : Nat} (m1 : SetTable.sizeAbove want - 1 = M) (m2 : MaskOk M) (m3 : SetTable.sizeAbove want ≤ 128) (m4 : L.length * 5 < M * 3) {Q : Unit → Shared → Prop}
    (q : ∀ h' L' es' ep' t', Heap.SameBut a s.heap h' → Sx P w h' a L' es' ep' t' → L'.Perm L → Q () { s with heap := h' }) : wpAny (model P w) A (setRelay a want) Q E s := by
  have ez : es.size = L.length := by
    have z := congrArg List.length en
    rwa [Array.length_toList, List.length_map] at z
  have fit : t.fits es.size = true := by
    unfold SetTable.fits SetTable.fill
    rw [td, Bool.and_eq_true, beq_iff_eq, decide_eq_true_eq]
    exact ⟨tz.trans ez.symm, by show t.place.size + 0 ≤ t.mask; omega⟩
  obtain ⟨t', ord, r1, r2, r3, r4, _, _, _⟩ := relaid_ok t (hs := es.map (·.1)) (wanted := want) m1 m2 (by rw [Array.size_map, ez]; omega)
  rw [Array.size_map, ez] at r2
  obtain ⟨z1, z2⟩ := order_hash en ord.toList fun i hi => List.mem_range.mp (r2.mem_iff.mp hi)
  have pm : (ord.toList.filterMap fun i => L[i]?).Perm L := by
    have z := r2.filterMap fun i => L[i]?
    rwa [fm_all] at z
  have en2 : (ord.filterMap (es[·]?)).toList = (ord.toList.filterMap fun i => L[i]?).map fun p => (tH P w p.2, Value.ref p.1) := by
    first
      | (rw [Array.toList_filterMap]; exact z1)
      | simpa using z1
  rw [← z2] at r3
  generalize ord.toList.filterMap (fun i => L[i]?) = L2 at pm en2 r3
  have ez2 : (ord.filterMap (es[·]?)).size = es.size := by
    have z := congrArg List.length en2
    rw [Array.length_toList, List.length_map, pm.length_eq] at z
    rw [z, ez]
  rw [setRelay_eq]
  refine wpAny_bind (wpAny_setState_of o1 o3 fit ?_)
  dsimp only
  refine wp_if_neg (by rw [sizeLine_eq]; omega) ?_
  try refine wpAny_bind (wpAny_pure ?_)
  rw [r1]
  dsimp only
  refine wpAny_bind (wp_if_neg (by rw [ez2]; simp) ?_)
  try refine wpAny_bind (wpAny_pure ?_)
  refine wpAny_pure ?_
  dsimp only
  refine wpAny_storeSet_of o1 o3 ?_ (by rw [ez2, ez, sizeLine_eq]; have z : MaskOk M := m2; rcases z with z | z | z <;> omega)
  have sb : Heap.SameBut a s.heap (s.heap.update a (Obj.putSet (ord.filterMap (es[·]?)) t')) := Heap.SameBut.update ..
  refine q _ L2 _ (ep + 1) t' sb ⟨⟨_, store_at o1 o3, ⟨o2.1, o2.2.1, o2.2.2⟩, rfl⟩, en2, r3, (pm.map (·.2)).nodup_iff.mpr nd, fun p hp => tu_apart (tu p (pm.mem_iff.mp hp)) o1 o3 sb, by rw [pm.length_eq, r4]; exact m4⟩ pm
theorem sx_add (R : Sx P w s.heap a L es ep t) {x : Addr} {k : Tk} (hx : IsTu P w s.heap k x) (hu : A.units < cLine) (few : L.length + 1 < 64) {Q : Bool → Shared → Prop}
    (q : ∀ b h' L' es' ep' t', Heap.SameBut a s.heap h' → Sx P w h' a L' es' ep' t' → (k ∈ L.map (·.2) → L' = L) → (k ∉ L.map (·.2) → L'.Perm ((x, k) :: L)) → Q b { s with heap := h' }) :
    wpAny (model P w) A (setAddHashed a (.ref x) (tH P w k)) Q E s := by
  obtain ⟨o, o1, o2, o3⟩ := R.ob
  have ez := R.sz
  have rm := R.room
  unfold setAddHashed
  refine wpAny_holding ?_
  rw [show (100000 : Nat) = 99999 + 1 from rfl, setAddHashedIn_succ]
  refine wpAny_bind (wpAny_setState_of o1 o3 R.fits ?_)
  dsimp only
  refine wp_if_neg (by simp [byScan, Value.scannable]) ?_
  try refine wpAny_bind (wpAny_pure ?_)
  refine wpAny_bind (sx_look R hx hu (fun hm => ?_) fun F hm f2 f3 => ?_)
  · exact wpAny_pure (q false s.heap L es ep t (Heap.SameBut.refl a s.heap) R (fun _ => rfl) fun z => absurd hm z)
  · dsimp only
    refine wpAny_bind (wpAny_setState_of o1 o3 R.fits ?_)
    dsimp only
    obtain ⟨q1, q2, q3, q4, _, _, _, _, q9⟩ := R.tab.put f2 f3
    have en1 : (SetTable.insertAt es (SetTable.below t.place (pr t (tH P w k) F).j) (tH P w k, Value.ref x)).toList = (L.take (SetTable.below t.place (pr t (tH P w k) F).j) ++ (x, k) :: L.drop (SetTable.below t.place (pr t (tH P w k) F).j)).map fun p => (tH P w p.2, Value.ref p.1) := by
      rw [SetTable.toList_insertAt, R.en, List.map_append, List.map_cons, List.map_take, List.map_drop]
    have pm := put_perm L (SetTable.below t.place (pr t (tH P w k) F).j) (x, k)
    have hh : (L.take (SetTable.below t.place (pr t (tH P w k) F).j) ++ (x, k) :: L.drop (SetTable.below t.place (pr t (tH P w k) F).j)).map (fun p => tH P w p.2) = (L.map fun p => tH P w p.2).take (SetTable.below t.place (pr t (tH P w k) F).j) ++ tH P w k :: (L.map fun p => tH P w p.2).drop (SetTable.below t.place (pr t (tH P w k) F).j) := by
      rw [List.map_append, List.map_cons, List.map_take, List.map_drop]
    rw [← hh] at q3
    generalize hpt : t.put (pr t (tH P w k) F).j = pt at q1 q3 q4 q9 ⊢
    obtain ⟨t1, j⟩ := pt
    dsimp only at q1 q3 q4 q9 ⊢
    subst q1
    generalize SetTable.insertAt es (SetTable.below t.place (pr t (tH P w k) F).j) (tH P w k, Value.ref x) = es1 at en1 ⊢
    generalize L.take (SetTable.below t.place (pr t (tH P w k) F).j) ++ (x, k) :: L.drop (SetTable.below t.place (pr t (tH P w k) F).j) = L1 at en1 pm q3
    have l1 : L1.length = L.length + 1 := pm.length_eq
    have nd1 : (L1.map (·.2)).Nodup := (pm.map (·.2)).nodup_iff.mpr (List.nodup_cons.mpr ⟨hm, R.nd⟩)
    have ez1 : es1.size = L.length + 1 := by
      have z := congrArg List.length en1
      rwa [Array.length_toList, List.length_map, l1] at z
    have fin : ∀ c : Bool, wpAny (model P w) A (do
        storeSet a es1 (if c then t1 else { t1 with plain := false })
        if !false && (if c then t1 else { t1 with plain := false }).tooFull then setRelay a (SetTable.grown (es.size + 1))
        return true) Q E s := by
      intro c
      have T2 : TabOk (if c = true then t1 else { t1 with plain := false }) (L1.map fun p => tH P w p.2) := by
        cases c
        · exact TabOk.plainer q3 false
        · exact q3
      have mk2 : (if c = true then t1 else { t1 with plain := false }).mask = t.mask := by
        cases c
        · exact q4
        · exact q4
      have fl2 : (if c = true then t1 else { t1 with plain := false }).fill = L.length + 1 := by
        rw [List.length_map] at q9
        cases c
        · exact q9
        · exact q9
      generalize (if c = true then t1 else { t1 with plain := false }) = t2 at T2 mk2 fl2 ⊢
      refine wpAny_bind (wpAny_storeSet_of o1 o3 ?_ (by rw [ez1, sizeLine_eq]; omega))
      have sb : Heap.SameBut a s.heap (s.heap.update a (Obj.putSet es1 t2)) := Heap.SameBut.update ..
      have p1 := store_at (es' := es1) (t' := t2) o1 o3
      generalize s.heap.update a (Obj.putSet es1 t2) = h1 at sb p1 ⊢
      have tu1 : ∀ p ∈ L1, IsTu P w h1 p.2 p.1 := fun p hp => by
        rcases List.mem_cons.mp (pm.mem_iff.mp hp) with e | hp
        · rw [e]
          exact tu_apart hx o1 o3 sb
        · exact tu_apart (R.tu p hp) o1 o3 sb
      have full : t2.tooFull = true ↔ (L.length + 1) * 5 ≥ t.mask * 3 := by
        unfold SetTable.tooFull
        rw [decide_eq_true_eq, fl2, mk2]
      by_cases hf : t2.tooFull = true
      · have hf2 := full.mp hf
        have two : (t.mask = 7 ∧ L.length = 4) ∨ (t.mask = 31 ∧ L.length = 18) := by
          rcases R.tab.mok with e | e | e
          · exact .inl ⟨e, by omega⟩
          · exact .inr ⟨e, by omega⟩
          · omega
        have lay : ∀ M, SetTable.sizeAbove (SetTable.grown (es.size + 1)) - 1 = M → MaskOk M → SetTable.sizeAbove (SetTable.grown (es.size + 1)) ≤ 128 → (L.length + 1) * 5 < M * 3 →
            wpAny (model P w) A (setRelay a (SetTable.grown (es.size + 1))) (fun _ s' => wpAny (model P w) A (pure true) Q E s') E { s with heap := h1 } := fun M z1 z2 z3 z4 =>
          sx_relay (s := { s with heap := h1 }) p1 ⟨o2.1, o2.2.1, o2.2.2⟩ rfl en1 (by rw [T2.sz, List.length_map]) T2.dm (by rw [l1, mk2]; rcases two with ⟨e, e2⟩ | ⟨e, e2⟩ <;> omega) nd1 tu1 z1 z2 z3 (by rw [l1]; exact z4)
            fun h2 L2 es2 ep2 t2 sb2 R2 pm2 => wpAny_pure (q true h2 L2 es2 ep2 t2 (sb.trans sb2) R2 (fun z => absurd z hm) fun _ => pm2.trans pm)
        first
          | (refine wpAny_bind ?_; refine wp_if_pos (by simp [hf]) ?_)
          | (refine wp_if_pos (by simp [hf]) ?_; refine wpAny_bind ?_)
        rcases two with ⟨_, e2⟩ | ⟨_, e2⟩
        · exact lay 31 (by rw [ez, e2, size_20]) (.inr (.inl rfl)) (by rw [ez, e2, size_20]; decide) (by omega)
        · exact lay 127 (by rw [ez, e2, size_76]) (.inr (.inr rfl)) (by rw [ez, e2, size_76]; decide) (by omega)
      · have hf2 : ¬ (L.length + 1) * 5 ≥ t.mask * 3 := fun z => hf (full.mpr z)
        first
          | refine wp_if_neg (by simp [hf]) ?_
          | (refine wpAny_bind ?_; refine wp_if_neg (by simp [hf]) ?_; refine wpAny_pure ?_)
        exact wpAny_pure (q true h1 L1 es1 (ep + 1) t2 sb ⟨⟨_, p1, ⟨o2.1, o2.2.1, o2.2.2⟩, rfl⟩, en1, T2, nd1, tu1, by rw [l1, mk2]; omega⟩ (fun z => absurd z hm) fun _ => pm)
    by_cases hp : t1.plain = true
    · first
        | (refine wpAny_bind ?_; refine wp_if_pos hp ?_; refine tu_byVal hx fun c => ?_)
        | refine wp_if_pos hp (wpAny_bind (tu_byVal hx fun c => ?_))
      exact fin c
    · first
        | (refine wpAny_bind ?_; refine wp_if_neg hp ?_; refine wpAny_pure ?_)
        | (refine wp_if_neg hp ?_; try refine wpAny_bind (wpAny_pure ?_))
      exact fin true
end
/-! ### set(xs), len of it -/
/-- what the set has got of the first i tuples -/
structure Has (ks : List (Addr × Tk)) (i : Nat) (L : List (Addr × Tk)) : Prop where
  sub : ∀ p ∈ L, p ∈ ks.take i
  all : ∀ p ∈ ks.take i, p.2 ∈ L.map (·.2)
  le : L.length ≤ i
theorem Has.next {ks L L' : List (Addr × Tk)} {i : Nat} {x : Addr × Tk} (g : Has ks i L) (e : ks[i]? = some x) (c1 : x.2 ∈ L.map (·.2) → L' = L) (c2 : x.2 ∉ L.map (·.2) → L'.Perm (x :: L)) : Has ks (i + 1) L' := by
  have tk : ks.take (i + 1) = ks.take i ++ [x] := by
    rw [List.take_add_one, e]
    rfl
  by_cases hm : x.2 ∈ L.map (·.2)
  · rw [c1 hm]
    refine ⟨fun p hp => by rw [tk]; exact List.mem_append_left _ (g.sub p hp), fun p hp => ?_, Nat.le_succ_of_le g.le⟩
    rw [tk] at hp
    rcases List.mem_append.mp hp with z | z
    · exact g.all p z
    · rw [List.mem_singleton.mp z]
      exact hm
  · have pm := c2 hm
    refine ⟨fun p hp => ?_, fun p hp => ?_, by rw [pm.length_eq]; exact Nat.succ_le_succ g.le⟩
    · rw [tk]
      rcases List.mem_cons.mp (pm.mem_iff.mp hp) with z | z
      · rw [z]
        exact List.mem_append_right _ (List.mem_singleton.mpr rfl)
      · exact List.mem_append_left _ (g.sub p z)
    · rw [tk] at hp
      refine (pm.map (·.2)).mem_iff.mpr ?_
      rcases List.mem_append.mp hp with z | z
      · exact List.mem_cons_of_mem _ (g.all p z)
      · rw [List.mem_singleton.mp z]
        exact List.mem_cons_self
section
variable {P : Program} {w : World} {A : Around} {E : Value → Shared → Prop} {s : Shared}
theorem tu_keep {h h' : Heap} {k : Tk} {b : Addr} (x : IsTu P w h k b) (kp : ∀ c o, h.get? c = some o → h'.get? c = some o) : IsTu P w h' k b := by
  obtain ⟨ob, us, n, g1, g2⟩ := x
  exact ⟨ob, us, n, kp b ob g1, g2⟩
theorem Sx.keep {h h' : Heap} {a : Addr} {L : List (Addr × Tk)} {es : Array (Int × Value)} {ep : Nat} {t : SetTable} (R : Sx P w h a L es ep t) (ka : ∀ o, h.get? a = some o → h'.get? a = some o) (tu : ∀ p ∈ L, IsTu P w h' p.2 p.1) : Sx P w h' a L es ep t := by
  obtain ⟨o, o1, o2⟩ := R.ob
  exact ⟨⟨o, ka o o1, o2⟩, R.en, R.tab, R.nd, tu, R.room⟩
theorem sx_empty {h : Heap} {a : Addr} {led : Bool} (e : h.get? a = some { cls := .type "set", dict := none, data := .set #[] 0 (.fresh 0 0 led) }) : Sx P w h a [] #[] 0 (.fresh 0 0 led) :=
  ⟨⟨_, e, ⟨rfl, rfl, rfl⟩, rfl⟩, rfl, ⟨List.Pairwise.nil, rfl, rfl, .inl rfl, fun x hx => (nomatch hx), fun i z j hi => (by simp at hi)⟩, List.nodup_nil, fun p hp => (nomatch hp), (by show 0 * 5 < 7 * 3; decide)⟩
/-- the loop that adds them, one behind another -/
theorem sx_loop {I : Addr} {fp wr : List Addr} {G : Array GenState → Array GenState → Prop} {n : Nat} {Pv : Nat → Value → Prop} {St : Nat → Shared → Prop} {R : Result → Shared → Prop} (W : WalksS P w A.in1 I fp wr G n Pv St)
    (S : Addr) (nS : S ∉ fp) (ks : List (Addr × Tk)) (en : n = ks.length) (few : ks.length < 64) (val : ∀ i v, Pv i v → ∃ p, ks[i]? = some p ∧ v = .ref p.1) (h0 : Heap) (tu0 : ∀ p ∈ ks, IsTu P w h0 p.2 p.1) (S0 : h0.get? S = none)
    (w0 : ∀ b ∈ wr, h0.get? b = none) (hu : A.in1.units < cLine)
    (fin : ∀ s' L es ep t, (∀ b o, h0.get? b = some o → s'.heap.get? b = some o) → Sx P w s'.heap S L es ep t → Has ks n L → G s.gens s'.gens → s'.drawn = s.drawn → s'.os = s.os → R (.ok (.ret .none)) s') :
    ∀ (m i : Nat) (s1 : Shared), i + m = n → St i s1 → (∀ b o, h0.get? b = some o → s1.heap.get? b = some o) → (∃ L es ep t, Sx P w s1.heap S L es ep t ∧ Has ks i L) → G s.gens s1.gens → s1.drawn = s.drawn → s1.os = s.os →
      codeAny (model P w) A (.builtin "set.update.loop" ⟨[.ref S, .ref I], []⟩) R s1 := by
  have nSw : S ∉ wr := fun z => nS (W.sub _ z)
  have stay : ∀ {s1 s2 : Shared}, Moved wr G s1 s2 → (∀ b o, h0.get? b = some o → s1.heap.get? b = some o) → ∀ b o, h0.get? b = some o → s2.heap.get? b = some o := fun mv kp b o e =>
    mv.heap b o (fun z => by rw [w0 b z] at e; cases e) (kp b o e)
  intro m
  induction m with
  | zero =>
    rintro i s1 hi st kp ⟨L, es, ep, t, X, g⟩ g1 g2 g3
    obtain rfl : i = n := by omega
    refine codeAny_builtin F.entry_set_update_loop ?_
    rw [Around.under_plainId F.plain_set_update_loop _]
    show wpAny _ A.in1 (pyNext (.ref I) >>= _) _ _ s1
    refine wpAny_bind (W.done s1 _ _ st fun s2 mv => ?_)
    have kp2 := stay mv kp
    have sub : ∀ p ∈ L, IsTu P w s2.heap p.2 p.1 := fun p hp => tu_keep (tu0 p (List.mem_of_mem_take (g.sub p hp))) kp2
    show wpAny _ A.in1 (ret Value.none) _ _ s2
    exact wpAny_pure (fin s2 L es ep t kp2 (X.keep (fun o e => mv.heap S o nSw e) sub) g (W.gtrans _ _ _ g1 mv.gens) (mv.drawn.trans g2) (mv.os.trans g3))
  | succ m ih =>
    rintro i s1 hi st kp ⟨L, es, ep, t, X, g⟩ g1 g2 g3
    refine codeAny_builtin F.entry_set_update_loop ?_
    rw [Around.under_plainId F.plain_set_update_loop _]
    show wpAny _ A.in1 (pyNext (.ref I) >>= _) _ _ s1
    refine wpAny_bind (W.item i s1 _ _ (by omega) st fun v s2 hv st2 mv => ?_)
    obtain ⟨p, ep1, rfl⟩ := val i v hv
    have kp2 := stay mv kp
    have X2 : Sx P w s2.heap S L es ep t := X.keep (fun o e => mv.heap S o nSw e) fun r hr => tu_keep (tu0 r (List.mem_of_mem_take (g.sub r hr))) kp2
    have hx : IsTu P w s2.heap p.2 p.1 := tu_keep (tu0 p (List.mem_of_getElem? ep1)) kp2
    show wpAny _ A.in1 (holding [Value.ref p.1] (setAdd S (.ref p.1)) >>= _) _ _ s2
    refine wpAny_bind (wpAny_holding ?_)
    unfold setAdd
    refine wpAny_holding (wpAny_bind (wpAny_pyHash_tuple hu hx ?_))
    refine sx_add (s := { s2 with toks := s2.toks + (p.2.length + 1) }) X2 hx hu (by have := g.le; omega) fun b h3 L3 es3 ep3 t3 sb X3 c1 c2 => ?_
    have kp3 : ∀ b o, h0.get? b = some o → h3.get? b = some o := fun b o e => (sb.2 b fun z => by rw [z, S0] at e; cases e).trans (kp2 b o e)
    refine wpAny_pure ⟨plainId_quiet F.plain_set_update_loop _, ih (i + 1) _ (by omega) (W.frame _ s2 _ _ st2 (Nat.le_add_right _ _) fun b hb o e => ?_) kp3 ⟨L3, es3, ep3, t3, X3, g.next ep1 c1 c2⟩ (W.gtrans _ _ _ g1 mv.gens) (mv.drawn.trans g2) (mv.os.trans g3)⟩
    rw [sb.2 b fun z => nS (z ▸ hb)]
    exact e
set_option maxHeartbeats 3200000 in
theorem call_set_tu {l : Addr} {us : Array Value} (ks : List (Addr × Tk)) {Q : Value → Shared → Prop} (hh : A.handled = none) (hl : s.heap.IsList l us) (hit : us.toList = ks.map fun p => Value.ref p.1) (tu : ∀ p ∈ ks, IsTu P w s.heap p.2 p.1) (few : ks.length < 64) (hu : A.units + 3 < cLine)
    (q : ∀ (h' : Heap) (tk : Nat) L es ep t, Sx P w h' s.heap.objs.size L es ep t → Has ks ks.length L → (∀ b o, s.heap.get? b = some o → h'.get? b = some o) → Q (.ref s.heap.objs.size) { s with heap := h', toks := tk }) :
    wpAny (model P w) A (call (.type "set") [.ref l]) Q E s := by
  have uz : us.size = ks.length := by
    have z := congrArg List.length hit
    rwa [Array.length_toList, List.length_map] at z
  obtain ⟨c, tl, hmro⟩ := F.called_set.mro
  have hmade := F.called_set.made
  have hsub := F.called_set.sub
  refine wpAny_call (codeAny_of_tree ?_)
  show wpAny _ _ (callAny (.type "set") _) _ _ _
  refine wpAny_pure ⟨Code.quiet_builtin _ (by decide +kernel), codeAny_builtin F.entry_type_call ?_⟩
  rw [Around.under_plain (weight_type_call_type "set" [.ref l] []) rfl]
  have a1 := F.called_set.notType
  have a2 := F.called_set.canCreate
  have a3 := F.typeCall_set_1 (.ref l)
  repeat (any_goals (first | assumption | wp_step))
  refine codeAny_mono (code_set_led1 (.ref l) (E := E) (Q₁ := fun v s1 => v = .ref s.heap.objs.size ∧ s1 = { s with heap := s.heap.push { cls := .type "set", dict := none, data := .set #[] 0 (.fresh 0 0 (!w.params.followText "set-order")) } }) ⟨rfl, rfl⟩) fun r s1 hr => ?_
  match r, hr with
  | .error e, hr => exact hr
  | .ok (.ret v), hr =>
    obtain ⟨rfl, rfl⟩ := hr
    have n1 : (s.heap.push { cls := .type "set", dict := none, data := .set #[] 0 (.fresh 0 0 (!w.params.followText "set-order")) }).get? s.heap.objs.size = some { cls := .type "set", dict := none, data := .set #[] 0 (.fresh 0 0 (!w.params.followText "set-order")) } := Heap.get?_push_size _ rfl
    have n2 : Shared.TypeIs { s with heap := s.heap.push { cls := .type "set", dict := none, data := .set #[] 0 (.fresh 0 0 (!w.params.followText "set-order")) } } (.ref s.heap.objs.size) "set" := ⟨_, n1, rfl⟩
    have b1 := F.called_set.init.lookup
    have b2 := F.called_set.init.bind (.ref s.heap.objs.size)
    repeat (any_goals (first | assumption | wp_step))
    refine codeAny_mono (codeAny_call_builtin (R := wants (fun r s2 => r = .none ∧ ∃ h' tk L es ep t, s2 = { s with heap := h', toks := tk } ∧ Sx P w h' s.heap.objs.size L es ep t ∧ Has ks ks.length L ∧ (∀ b o, s.heap.get? b = some o → h'.get? b = some o)) E) F.called_set.init.plain F.entry_set_init (check_set_init_1 n2 ?_)) fun r2 s2 hr2 => ?_
    · obtain ⟨ol, l1, l2, nl, l3⟩ := hl
      obtain ⟨ocls, odict, odata, oslots⟩ := ol
      simp only at l2 l3
      subst l2; subst l3
      have l4 : (s.heap.push { cls := .type "set", dict := none, data := .set #[] 0 (.fresh 0 0 (!w.params.followText "set-order")) }).get? l = some { cls := .type "list", dict := odict, data := .seq us nl, slots := oslots } := Heap.get?_push_of_some _ l1
      have c1 := F.sub_list_set
      have c2 := F.sub_list_frozenset
      have c3 : (Value.type "list" == Value.type "dict") = false := by decide
      have l5 : (s.heap.push { cls := .type "set", dict := none, data := .set #[] 0 (.fresh 0 0 (!w.params.followText "set-order")) }).IsList l us := ⟨_, l4, rfl, nl, rfl⟩
      unfold Builtin.«set.__init__» noKeywords Builtin.Frozenset.updateFrom
      generalize hPI : pyIter = PI
      wp_walk
      subst hPI
      refine wpAny_pyIter_list l5 (wpAny_bind (wpAny_runValue ?_))
      have lt : l < s.heap.objs.size := Heap.lt_size l1
      have hh3 : A.in1.in1.in1.handled = none := by simp [hh]
      have ne : l ≠ (s.heap.push { cls := .type "set", dict := none, data := .set #[] 0 (.fresh 0 0 (!w.params.followText "set-order")) }).objs.size := by
        rw [Heap.size_push]
        exact Nat.ne_of_lt (Nat.lt_succ_of_lt lt)
      have nf : s.heap.objs.size ∉ [(s.heap.push { cls := .type "set", dict := none, data := .set #[] 0 (.fresh 0 0 (!w.params.followText "set-order")) }).objs.size, l] := by
        rw [Heap.size_push]
        simp only [List.mem_cons, List.mem_singleton, List.not_mem_nil, or_false, not_or]
        exact ⟨Nat.ne_of_lt (Nat.lt_succ_self _), Nat.ne_of_gt lt⟩
      have val : ∀ (i : Nat) (v : Value), us[i]? = some v → ∃ p, ks[i]? = some p ∧ v = .ref p.1 := fun i v hv => by
        have z : us.toList[i]? = some v := by
          rw [Array.getElem?_toList]
          exact hv
        rw [hit, List.getElem?_map] at z
        cases y : ks[i]? with
        | none => rw [y] at z; cases z
        | some p =>
          rw [y] at z
          exact ⟨p, rfl, (Option.some.inj z).symm⟩
      have off : ∀ b, s.heap.objs.size ≤ b → s.heap.get? b = none := fun b hb => by
        cases y : s.heap.get? b with
        | none => rfl
        | some o => exact absurd (Nat.lt_of_lt_of_le (Heap.lt_size y) hb) (Nat.lt_irrefl _)
      refine sx_loop (s := s) ((Walks.list hh3 _ l ne us).toS) s.heap.objs.size nf ks uz few val s.heap tu (off _ (Nat.le_refl _)) (fun b hb => off b (by
          rw [List.mem_singleton.mp hb, Heap.size_push]
          omega)) hu (fun s3 L es ep t kp X g e1 e2 e3 => ?_) us.size 0 _ (Nat.zero_add _) ⟨⟨_, Heap.get?_push_size _ rfl, rfl, rfl⟩, l5.push _⟩ (fun b o e => Heap.get?_push_of_some _ (Heap.get?_push_of_some _ e)) ⟨[], #[], 0, _, sx_empty (Heap.get?_push_of_some _ n1), ⟨fun p hp => (nomatch hp), fun p hp => (by simp at hp), Nat.le_refl _⟩⟩ rfl rfl rfl
      obtain ⟨h3, gs, dr, tk, os⟩ := s3
      have y1 : gs = s.gens := e1
      have y2 : dr = s.drawn := e2
      have y3 : os = s.os := e3
      subst y1; subst y2; subst y3
      show wpAny _ _ _ _ _ _
      refine wpAny_pure ?_
      show wpAny _ _ (ret Value.none) _ _ _
      rw [uz] at g
      exact wpAny_pure ⟨rfl, h3, tk, L, es, ep, t, rfl, X, g, kp⟩
    · match r2, hr2 with
      | .error e, hr2 => exact hr2
      | .ok (.ret v2), hr2 =>
        obtain ⟨rfl, h3, tk, L, es, ep, t, rfl, X, g, kp⟩ := hr2
        repeat (any_goals (first | assumption | wp_step))
        exact q _ _ _ _ _ _ X g kp
end
theorem refs_vals : ∀ {ks : List (Addr × Tk)} {us : List Value}, Vals (ks.map fun p => V.ref p.1) us → us = ks.map fun p => Value.ref p.1
  | [], _, .nil => rfl
  | p :: ks, _, .cons r t => by
    cases r
    rw [refs_vals t]
    rfl
/-- len(set(xs)): as many as there are unlike ones -/
def tLenSetW (K : PySem.W.Frag) (ta : TE) : TE := fun σ H Q => ta σ H fun x H1 => ∃ (l : Addr) (ks : List (Addr × Tk)), x = .ref l ∧ SqL K H1 l (ks.map fun p => V.ref p.1) ∧ (∀ p ∈ ks, SqT K H1 p.1 (p.2.map kV)) ∧ ks.length < 64 ∧
  ∀ D : List Tk, D.Nodup → (∀ k, k ∈ D ↔ k ∈ ks.map (·.2)) → Q (.int (D.length : Nat)) H1
theorem pe_lenSetW {X : Cx} {a : Expr} {ta : TE} {p p2 q pos : Pos} (hc : X.calm = true) (hu : X.A.units + 64 < cLine) (hg : Gl X "len") (hm : X.mg "len" = none) (hg2 : Gl X "set") (hm2 : X.mg "set" = none) (ha : PE X a ta)
    (na : starEach [a] X.env = (false, eval a X.env) :: starEach [] X.env := by rfl) : PE X (.Call (.Name "len" p) [.Call (.Name "set" p2) [a] [] q] [] pos) (tLenSetW X.K ta) := by
  refine ⟨fun pins s σ H Q I h => Call_ (ld_blt I hg hm boot_len (PyProof.Rows.callWith_builtin1 (PyProof.Rows.args_cons ?_ rfl) rfl rfl))⟩
  refine Call_ (ld_blt I hg2 hm2 boot_set (PyProof.Rows.callWith_type1 (PyProof.Rows.args_cons (thn (ha.run pins s σ H _ I h) fun v s1 ⟨x, H1, I1, r1, q1⟩ => PyProof.Rows.args_nil ?_) na) na rfl))
  obtain ⟨l, ks, rfl, hq, ht, few, q1⟩ := q1
  cases r1
  obtain ⟨us, rv, pl, _⟩ := I1.list hq
  have tu : ∀ p ∈ ks, IsTu X.prog X.w s1.heap p.2 p.1 := fun p hp => by
    obtain ⟨its, rt, ⟨o, g1, g2, n, g3⟩, _⟩ := I1.tuple (ht p hp)
    exact ⟨o, its.toArray, n, g1, g2, g3, by simpa using vals_items rt⟩
  refine call_set_tu ks (I1.ok.hd hc) pl.isList (by simpa using refs_vals rv) tu few (by omega) fun h' tk L es ep t R g kp => ?_
  refine PyProof.Rows.args_nil ?_
  have I2 : Inv X pins σ H1 { s1 with heap := h', toks := tk } := I1.kept kp
  obtain ⟨o, o1, o2, o3⟩ := R.ob
  have ez := R.sz
  have le := g.le
  refine call_len_set o1 o2 o3 R.fits (by rw [ez]; omega) ⟨.int ((L.map (·.2)).length : Nat), H1, I2.tok _, ⟨_, by rw [ez, List.length_map]⟩, q1 _ R.nd fun k => ⟨fun hk => ?_, fun hk => ?_⟩⟩
  · obtain ⟨p, hp, rfl⟩ := List.mem_map.mp hk
    exact List.mem_map.mpr ⟨p, List.mem_of_mem_take (g.sub p hp), rfl⟩
  · obtain ⟨p, hp, rfl⟩ := List.mem_map.mp hk
    exact g.all p (by rw [List.take_length]; exact hp)
def sp_how_many_round (K : PySem.W.Frag) : Sp := fun vs H Q _ => ∃ (l : Int) (s : Addr) (st : List Int), vs = [.int l, .ref s] ∧ 1 ≤ l ∧ l ≤ 60 ∧ H s = some (.lst (st.map V.int)) ∧ st.length ≤ 40 ∧ Places l st ∧
  ∀ H' (D : List (List Wo)), Ex H H' → RRows l st D → Q (.int (D.length : Nat)) H'
abbrev N_how_many_round : List Str := ["length", "stands", "rows", "place"]
def t_how_many_round (K : PySem.W.Frag) : TS := (tSeq (tDrop (tCall (sp_check_length K) [] E0 (tCons (tVar 0) tNil)))
  (tSeq (tDrop (tCall (sp_check_stands K) [] E0 (tCons (tVar 1) (tCons (tVar 0) tNil))))
  (tSeq (tAsg (tLc (iRng2 (tCons (tC (.int 1)) (tCons (tOp (rI0 fun i j => .int (i + j)) (tVar 0) (tC (.int 1))) tNil))) (gName 3) tYes (tCB (rTupleOf K) (tCons (tCall (sp_row_round K) [] E0 (tCons (tVar 0) (tCons (tVar 3) (tCons (tVar 1) tNil)))) tNil)) [3]) (gName 2))
  (tRet (tLenSetW K (tVar 2))))))
/-- at as stand the rows of answers on the ring, place by place, as tuples -/
def RRowsAt (H : Hp) (l : Int) (st : List Int) (as : List Addr) : Prop := ∀ (i : Nat) (a : Addr), as[i]? = some a → H a = some (.tup ((rwordsOf l (1 + (i : Int)) st).map vW))
theorem unkeyR : ∀ (D : List Tk), (∀ k ∈ D, ∃ ws, keyW ws = k) → ∃ E : List (List Wo), E.map keyW = D
  | [], _ => ⟨[], rfl⟩
  | k :: D, h => by
    obtain ⟨ws, rfl⟩ := h k List.mem_cons_self
    obtain ⟨E, rfl⟩ := unkeyR D fun k hk => h k (List.mem_cons_of_mem _ hk)
    exact ⟨ws :: E, rfl⟩
theorem pure_how_many_round {K : PySem.W.Frag} {vs : List V} {H : Hp} {Q : VK} {E : XK} (h : sp_how_many_round K vs H Q E) : t_how_many_round K { nx := fun _ H' => Q .non H', rt := Q } (start N_how_many_round vs) H := by
  obtain ⟨l, s, st, rfl, h1, h2, hs, hl, hp, q⟩ := h
  refine ⟨_, rfl, l, rfl, h1, h2, ?_⟩
  refine ⟨_, rfl, _, rfl, s, st, l, rfl, hs, hl, hp, fun H1 e1 => ?_⟩
  refine ⟨_, rfl, l, 1, rfl, rfl, 1, l + 1, rfl, ⟨by decide, by decide, by omega, by omega⟩, fun D hD => ?_⟩
  have hs1 := e1 _ _ hs
  refine lc_range (lo := 1) (n := (l + 1 - 1).toNat) (fun i H' => ∃ as : List Addr, as.length = i ∧ Ex H1 H' ∧ H' D = some (.lst (as.map V.ref)) ∧ RRowsAt H' l st as)
    ⟨[], rfl, Ex.new hD, upd_same, fun i a ha => (by simp at ha)⟩ (fun i H' hi p => ?_) (fun H' p => ?_)
  · obtain ⟨as, hal, he, hd, hr⟩ := p
    refine ⟨rfl, ?_⟩
    dsimp only [tYes]
    rw [if_pos rfl]
    refine ⟨_, rfl, _, rfl, _, rfl, l, 1 + (i : Int), s, st, rfl, ⟨by omega, by omega⟩, SqL.of (he _ _ hs1), hp, by omega, fun r H2 nr e2 h2 => ?_⟩
    refine ⟨r, _, rfl, .inl ⟨SqL.of h2, fun u nu => ?_⟩⟩
    have e3 : Ex H2 (upd H2 u (.tup ((rwordsOf l (1 + (i : Int)) st).map vW))) := Ex.new nu
    have hd3 := e3 _ _ (e2 _ _ hd)
    refine ⟨_, hd3, ?_, as ++ [u], ?_, ((he.trans e2).trans e3).mut hD, ?_, ?_⟩
    · rw [List.length_map, hal]
      exact small1000 (by omega)
    · rw [List.length_append, hal]
      rfl
    · rw [upd_same, List.map_append]
      rfl
    · intro j a ha
      have hta : (upd H2 u (.tup ((rwordsOf l (1 + (i : Int)) st).map vW))) a = some (.tup ((rwordsOf l (1 + (j : Int)) st).map vW)) := by
        by_cases hj : j < as.length
        · rw [List.getElem?_append_left hj] at ha
          exact (e2.trans e3) _ _ (hr j a ha)
        · rw [List.getElem?_append_right (by omega)] at ha
          have hj2 : j - as.length = 0 := by
            have := (List.getElem?_eq_some_iff.mp ha).1
            simp at this
            omega
          rw [hj2] at ha
          have ea : u = a := Option.some.inj ha
          have ej : j = i := by omega
          rw [← ea, ej, upd_same]
      have nD : a ≠ D := ne_of hta hd3 (by intro z; cases z)
      rw [upd_ne nD]
      exact hta
  · obtain ⟨as, hal0, he, hd, hr⟩ := p
    have hal : (as.length : Int) = l := by omega
    have eks : (as.zipIdx.map fun z => (z.1, keyW (rwordsOf l (1 + (z.2 : Int)) st))).map (fun p => V.ref p.1) = as.map V.ref := by
      rw [List.map_map]
      show as.zipIdx.map (V.ref ∘ Prod.fst) = as.map V.ref
      rw [← List.map_map, List.zipIdx_map_fst]
    refine ⟨_, rfl, D, as.zipIdx.map fun z => (z.1, keyW (rwordsOf l (1 + (z.2 : Int)) st)), rfl, ?_, fun z hz => ?_, ?_, fun D2 hD2 hm => ?_⟩
    · rw [eks]
      exact SqL.of hd
    · obtain ⟨y, hy, rfl⟩ := List.mem_map.mp hz
      obtain ⟨a, i⟩ := y
      have ha : as[i]? = some a := List.mk_mem_zipIdx_iff_getElem?.mp hy
      show SqT K H' a ((keyW (rwordsOf l (1 + (i : Int)) st)).map kV)
      rw [keyW_map]
      exact SqT.of (hr i a ha)
    · rw [List.length_map, List.length_zipIdx]
      omega
    · have hmem : ∀ k, k ∈ D2 ↔ ∃ t, (1 ≤ t ∧ t ≤ l) ∧ keyW (rwordsOf l t st) = k := fun k => by
        rw [hm k, List.map_map, List.mem_map]
        constructor
        · rintro ⟨⟨a, i⟩, hy, rfl⟩
          have ha : as[i]? = some a := List.mk_mem_zipIdx_iff_getElem?.mp hy
          have hi := (List.getElem?_eq_some_iff.mp ha).1
          exact ⟨1 + (i : Int), ⟨by omega, by omega⟩, rfl⟩
        · rintro ⟨t, ⟨ht1, ht2⟩, rfl⟩
          have hi : (t - 1).toNat < as.length := by omega
          refine ⟨(as[(t - 1).toNat], (t - 1).toNat), List.mk_mem_zipIdx_iff_getElem?.mpr (List.getElem?_eq_getElem hi), ?_⟩
          show keyW (rwordsOf l (1 + (((t - 1).toNat : Nat) : Int)) st) = keyW (rwordsOf l t st)
          rw [show 1 + (((t - 1).toNat : Nat) : Int) = t by omega]
      obtain ⟨D3, rfl⟩ := unkeyR D2 fun k hk => by
        obtain ⟨t, _, e⟩ := (hmem k).mp hk
        exact ⟨_, e⟩
      rw [List.length_map]
      refine q H' D3 (e1.trans he) ⟨nodup_of_map hD2, fun r => ?_⟩
      have e : r ∈ D3 ↔ keyW r ∈ D3.map keyW := by
        constructor
        · exact fun z => List.mem_map.mpr ⟨r, z, rfl⟩
        · intro z
          obtain ⟨r2, z1, z2⟩ := List.mem_map.mp z
          rw [← keyW_inj z2]
          exact z1
      rw [e, hmem]
      constructor
      · rintro ⟨t, z1, z2⟩
        exact ⟨t, z1, keyW_inj z2⟩
      · rintro ⟨t, z1, z2⟩
        exact ⟨t, z1, by rw [z2]⟩
theorem len_how_many_round {K : PySem.W.Frag} {vs : List V} {H : Hp} {Q : VK} {E : XK} (h : sp_how_many_round K vs H Q E) : vs.length = 2 := by
  obtain ⟨l, s, st, rfl, _⟩ := h
  rfl
def sp__law_cell_at (K : PySem.W.Frag) : Sp := fun vs H Q _ => ∃ (a : Addr) (ns : List Int) (k : Int), vs = [.ref a, .int k] ∧ SqL K H a (ns.map V.int) ∧ 0 ≤ k ∧ ∀ v : Int, Q (.int v) H
abbrev N__law_cell_at : List Str := ["script", "k"]
def t__law_cell_at (K : PySem.W.Frag) : TS := (tSeq (tIfS (tTest (tOp (rI0 fun i j => .bl (decide (i < j))) (tVar 1) (tCB (rLenQ K) (tCons (tVar 0) tNil)))) (tRet (tOp (rIxL K) (tVar 0) (tVar 1))) tNext)
  (tRet (tC (.int 0))))
theorem pure__law_cell_at {K : PySem.W.Frag} {vs : List V} {H : Hp} {Q : VK} {E : XK} (h : sp__law_cell_at K vs H Q E) : t__law_cell_at K { nx := fun _ H' => Q .non H', rt := Q } (start N__law_cell_at vs) H := by
  obtain ⟨a, ns, k, rfl, hS, hk, q⟩ := h
  refine ⟨_, rfl, _, rfl, a, _, rfl, .inl hS, _, _, rfl, rfl, _, rfl, ite2 (fun e => ?_) (fun _ => ?_)⟩
  · have e1 := of_decide_eq_true e
    rw [List.length_map] at e1
    obtain ⟨j, rfl⟩ := Int.eq_ofNat_of_zero_le hk
    have hj : j < ns.length := by omega
    refine ⟨_, rfl, _, rfl, a, _, _, .int ns[j], rfl, rfl, hS, atI_nat ?_, q _⟩
    rw [List.getElem?_map, List.getElem?_eq_getElem hj]
    rfl
  · exact q 0
theorem len__law_cell_at {K : PySem.W.Frag} {vs : List V} {H : Hp} {Q : VK} {E : XK} (h : sp__law_cell_at K vs H Q E) : vs.length = 2 := by
  obtain ⟨a, ns, k, rfl, _⟩ := h
  rfl
def sp__law_draws (K : PySem.W.Frag) : Sp := fun vs H Q _ => ∃ c : Int, vs = [.int c, .int 400, .int 1000] ∧ ∀ p H' (ds : List Int), H p = none → Ex H H' → H' p = some (.lst (ds.map V.int)) → ds.length = 400 → Q (.ref p) H'
abbrev N__law_draws : List Str := ["cell", "many", "size", "found", "rest", "stirred", "k"]
def t__law_draws (K : PySem.W.Frag) : TS := (tSeq (tAsg (tLst tNil) (gName 3))
  (tSeq (tAsg (tOp (rI CMul fun i j => .int (i * j)) (tVar 0) (tCB rInt1 (tCons (tOp (rI0 fun i j => .bl (decide (j ≤ i))) (tVar 0) (tOp (rI CPow fun i j => .int (i ^ j.toNat)) (tC (.int 10)) (tC (.int 18)))) tNil))) (gName 4))
  (tSeq (tAsg (tOp (rI (fun _ j => 0 < j) fun i j => .int (i % j)) (tVar 0) (tC (.int 2305843009213693951))) (gName 5))
  (tSeq (tFor (iRng1 (tCons (tOp (rI0 fun i j => .int (i + j)) (tVar 1) (tC (.int 3))) tNil)) (gName 6) (tSeq (tAsg (tOp (rI (fun _ j => 0 < j) fun i j => .int (i % j)) (tOp (rI0 fun i j => .int (i + j)) (tOp (rI0 fun i j => .int (i + j)) (tOp (rI0 fun i j => .int (i + j)) (tOp (rI CMul fun i j => .int (i * j)) (tVar 5) (tVar 5)) (tOp (rI CMul fun i j => .int (i * j)) (tC (.int 48271)) (tVar 5))) (tVar 6)) (tC (.int 1))) (tC (.int 2305843009213693951))) (gName 5))
  (tIfS (tAnd (tTest (tOp (rI0 fun i j => .bl (decide (j < i))) (tVar 6) (tC (.int 2)))) (tTest (tOp (rI0 fun i j => .bl (decide (j < i))) (tVar 4) (tC (.int 0))))) (tSeq (tDrop (tBM K "list" rAppend (tVar 3) (tCons (tOp (rI (fun _ j => 0 < j) fun i j => .int (i % j)) (tVar 4) (tVar 2)) tNil)))
  (tAsg (tOp (rI CDiv fun i j => .int (i / j)) (tVar 4) (tVar 2)) (gName 4))) (tIfS (tTest (tOp (rI0 fun i j => .bl (decide (j < i))) (tVar 6) (tC (.int 2)))) (tDrop (tBM K "list" rAppend (tVar 3) (tCons (tOp (rI (fun _ j => 0 < j) fun i j => .int (i % j)) (tOp (rI CDiv fun i j => .int (i / j)) (tVar 5) (tC (.int 4096))) (tVar 2)) tNil))) tNext))))
  (tRet (tVar 3))))))
theorem pure__law_draws {K : PySem.W.Frag} {vs : List V} {H : Hp} {Q : VK} {E : XK} (h : sp__law_draws K vs H Q E) : t__law_draws K { nx := fun _ H' => Q .non H', rt := Q } (start N__law_draws vs) H := by
  obtain ⟨c, rfl, q⟩ := h
  refine ⟨Nat.zero_le _, fun f nf => ?_⟩
  refine ⟨_, rfl, _, rfl, 10, 18, rfl, rfl, ⟨by decide, by decide, by decide⟩, _, _, rfl, rfl, .inr ⟨_, rfl, ?_⟩⟩
  refine ⟨_, _, rfl, rfl, .inr ?_, ?_⟩
  · by_cases hc : decide ((10 : Int) ^ Int.toNat 18 ≤ c) = true
    · rw [if_pos hc]
      exact ⟨by decide, by decide⟩
    · rw [if_neg hc]
      exact ⟨by decide, by decide⟩
  refine ⟨_, rfl, _, _, rfl, rfl, (by decide : (0 : Int) < 2305843009213693951), ?_⟩
  refine ⟨_, rfl, _, _, rfl, rfl, 403, rfl, by decide, by decide, ?_⟩
  refine for_range (lo := 0) (n := (403 : Int).toNat) (fun i σ H' => ∃ (r s : Int) (ds : List Int) (kv : Option V), σ = [some (.int c), some (.int 400), some (.int 1000), some (.ref f), some (.int r), some (.int s), kv] ∧ 0 ≤ s ∧ s < 2305843009213693951 ∧ Ex H H' ∧ H' f = some (.lst (ds.map V.int)) ∧ ds.length = i - 3)
    ⟨_, _, [], none, rfl, Int.emod_nonneg _ (by decide), Int.emod_lt_of_pos _ (by decide), Ex.new nf, upd_same, rfl⟩ ?_ ?_
  · rintro i σ H' hi ⟨r, s, ds, kv, rfl, h0, h1, he, hf, hl⟩
    have hi2 : i < 403 := hi
    have bs : -(2 ^ 64) < s ∧ s < 2 ^ 64 := ⟨by omega, by omega⟩
    refine ⟨_, rfl, _, rfl, s, s, rfl, rfl, .inl bs, _, rfl, 48271, s, rfl, rfl, .inl ⟨by decide, by decide⟩, _, _, rfl, rfl, _, rfl, _, _, rfl, rfl, _, _, rfl, rfl, _, _, rfl, rfl, (by decide : (0 : Int) < 2305843009213693951), ?_⟩
    have s0 : 0 ≤ (s * s + 48271 * s + (0 + (i : Int)) + 1) % 2305843009213693951 := Int.emod_nonneg _ (by decide)
    have s1 : (s * s + 48271 * s + (0 + (i : Int)) + 1) % 2305843009213693951 < 2305843009213693951 := Int.emod_lt_of_pos _ (by decide)
    have hsz : (ds.map V.int).length < sizeLine := by
      rw [List.length_map]
      exact small1000 (by omega)
    refine ⟨_, rfl, _, _, rfl, rfl, _, rfl, ite2 (fun e => ?_) (fun e => ?_)⟩
    · have e1 : (2 : Int) < 0 + (i : Int) := of_decide_eq_true e
      refine ⟨_, rfl, _, _, rfl, rfl, _, rfl, ite2 (fun e2 => ?_) (fun e2 => ?_)⟩
      · refine ⟨_, rfl, .inl ⟨rfl, _, SqL.of hf⟩, _, rfl, _, rfl, _, _, rfl, rfl, (by decide : (0 : Int) < 1000), f, _, _, rfl, rfl, hf, hsz, ?_⟩
        refine ⟨_, rfl, _, rfl, _, _, rfl, rfl, ⟨by decide, by decide⟩, ?_⟩
        refine ⟨_, _, ds ++ [r % 1000], _, rfl, s0, s1, he.mut nf, ?_, ?_⟩
        · rw [upd_same, List.map_append]
          rfl
        · rw [List.length_append, hl]
          show i - 3 + 1 = i + 1 - 3
          omega
      · refine ⟨_, rfl, _, _, rfl, rfl, _, rfl, ite2 (fun e3 => ?_) (fun e3 => absurd e e3)⟩
        refine ⟨_, rfl, .inl ⟨rfl, _, SqL.of hf⟩, _, rfl, _, _, rfl, rfl, ⟨by decide, by decide⟩, _, rfl, _, _, rfl, rfl, (by decide : (0 : Int) < 1000), f, _, _, rfl, rfl, hf, hsz, ?_⟩
        refine ⟨_, _, ds ++ [(s * s + 48271 * s + (0 + (i : Int)) + 1) % 2305843009213693951 / 4096 % 1000], _, rfl, s0, s1, he.mut nf, ?_, ?_⟩
        · rw [upd_same, List.map_append]
          rfl
        · rw [List.length_append, hl]
          show i - 3 + 1 = i + 1 - 3
          omega
    · have e1 : ¬ (2 : Int) < 0 + (i : Int) := fun z => e (decide_eq_true z)
      dsimp only
      rw [if_neg Bool.false_ne_true]
      refine ⟨_, rfl, _, _, rfl, rfl, _, rfl, ite2 (fun e3 => absurd e3 e) (fun e3 => ?_)⟩
      refine ⟨r, _, ds, _, rfl, s0, s1, he, hf, ?_⟩
      omega
  · rintro σ H' ⟨r, s, ds, kv, rfl, h0, h1, he, hf, hl⟩
    exact ⟨_, rfl, q f H' ds nf he hf (hl.trans rfl)⟩
theorem len__law_draws {K : PySem.W.Frag} {vs : List V} {H : Hp} {Q : VK} {E : XK} (h : sp__law_draws K vs H Q E) : vs.length = 3 := by
  obtain ⟨c, rfl, _⟩ := h
  rfl
def sp__law_bag (K : PySem.W.Frag) : Sp := fun vs H Q _ => ∃ (a : Addr) (ns : List Int) (k : Int), vs = [.ref a, .int k] ∧ SqL K H a (ns.map V.int) ∧ 0 ≤ k ∧ ∀ p H', H p = none → Ex H H' → Bag1 H' p → Q (.ref p) H'
abbrev N__law_bag : List Str := ["script", "k"]
def t__law_bag (K : PySem.W.Frag) : TS := (tRet (tLst (tCons (tCall (sp__law_draws K) [] E0 (tCons (tCall (sp__law_cell_at K) [] E0 (tCons (tVar 0) (tCons (tVar 1) tNil))) (tCons (tC (.int 400)) (tCons (tC (.int 1000)) tNil)))) (tCons (tC (.int 0)) tNil))))
theorem pure__law_bag {K : PySem.W.Frag} {vs : List V} {H : Hp} {Q : VK} {E : XK} (h : sp__law_bag K vs H Q E) : t__law_bag K { nx := fun _ H' => Q .non H', rt := Q } (start N__law_bag vs) H := by
  obtain ⟨a, ns, k, rfl, hS, hk, q⟩ := h
  refine ⟨_, rfl, _, rfl, a, ns, k, rfl, hS, hk, fun v => ?_⟩
  refine ⟨v, rfl, fun d H1 ds nd e1 hd hl => ?_⟩
  refine ⟨by show 2 ≤ sizeLine; decide, fun p np => ?_⟩
  refine q p _ (fresh_back e1 np) (e1.trans (Ex.new np)) ⟨d, 0, ds, upd_same, ?_, hl⟩
  rw [upd_ne (ne_of_none hd np)]
  exact hd
theorem len__law_bag {K : PySem.W.Frag} {vs : List V} {H : Hp} {Q : VK} {E : XK} (h : sp__law_bag K vs H Q E) : vs.length = 2 := by
  obtain ⟨a, ns, k, rfl, _⟩ := h
  rfl
def sp__law_bags (K : PySem.W.Frag) : Sp := fun vs H Q _ => ∃ (a : Addr) (ns : List Int) (m : Int), vs = [.ref a, .int m] ∧ SqL K H a (ns.map V.int) ∧ 0 ≤ m ∧ m ≤ 63 ∧ ∀ p H' (bs : List Addr), H p = none → Ex H H' → H' p = some (.lst (bs.map V.ref)) → Bags bs H' → (∀ b ∈ bs, H b = none) → Q (.ref p) H'
abbrev N__law_bags : List Str := ["script", "limit", "k"]
def t__law_bags (K : PySem.W.Frag) : TS := (tRet (tLc (iRng1 (tCons (tCB rMax2 (tCons (tC (.int 1)) (tCons (tCB rMin2 (tCons (tVar 1) (tCons (tCB (rLenQ K) (tCons (tVar 0) tNil)) tNil))) tNil))) tNil)) (gName 2) tYes (tCall (sp__law_bag K) [] E0 (tCons (tVar 0) (tCons (tVar 2) tNil))) [2]))
theorem pure__law_bags {K : PySem.W.Frag} {vs : List V} {H : Hp} {Q : VK} {E : XK} (h : sp__law_bags K vs H Q E) : t__law_bags K { nx := fun _ H' => Q .non H', rt := Q } (start N__law_bags vs) H := by
  obtain ⟨a, ns, m, rfl, hS, h0, h1, q⟩ := h
  refine ⟨_, rfl, _, rfl, a, _, rfl, .inl hS, m, _, rfl, 1, _, rfl, _, rfl, ?_, ?_, fun D hD => ?_⟩
  · split <;> split <;> omega
  · split <;> split <;> omega
  generalize hn : (if (if ((List.map V.int ns).length : Int) < m then ((List.map V.int ns).length : Int) else m) > 1 then (if ((List.map V.int ns).length : Int) < m then ((List.map V.int ns).length : Int) else m) else 1) = n
  have n63 : n ≤ 63 := by
    rw [← hn]
    split <;> split <;> omega
  have hDl : ∀ {H' : Hp} {b : Addr} {bs : List Addr}, Bag1 H' b → H' D = some (.lst (bs.map V.ref)) → b ≠ D := fun {H' b bs} ⟨d, c, ds, h1, _⟩ h2 e => by
    subst e
    rw [h1] at h2
    have e2 := HO.lst.inj (Option.some.inj h2)
    match bs, e2 with
    | [_, _], e2 => simp at e2
  refine lc_range (lo := 0) (n := n.toNat) (fun i H' => ∃ bs : List Addr, bs.length = i ∧ Ex H H' ∧ H' D = some (.lst (bs.map V.ref)) ∧ Bags bs H' ∧ ∀ b ∈ bs, H b = none)
    ⟨[], rfl, Ex.new hD, upd_same, fun _ hb => (nomatch hb), fun _ hb => (nomatch hb)⟩ (fun i H' hi p => ?_) (fun H' p => ?_)
  · obtain ⟨bs, hl, he, hd, hb, hf⟩ := p
    refine ⟨rfl, ?_⟩
    dsimp only [tYes]
    rw [if_pos rfl]
    refine ⟨_, rfl, _, rfl, a, ns, _, rfl, ex_l he hS, by omega, fun b H2 nb e2 hB => ?_⟩
    have nbD : b ≠ D := hDl hB (e2 _ _ hd)
    refine ⟨_, e2 _ _ hd, ?_, bs ++ [b], ?_, (he.trans e2).mut hD, ?_, ?_, ?_⟩
    · rw [List.length_map, hl]
      exact small1000 (by omega)
    · rw [List.length_append, hl]
      rfl
    · rw [upd_same, List.map_append]
      rfl
    · have hB2 : Bags (bs ++ [b]) H2 := fun x hx => by
        rcases List.mem_append.mp hx with z | z
        · exact (hb x z).ex e2
        · rw [List.mem_singleton.mp z]
          exact hB
      refine hB2.mut (fun z => ?_) (fun d ds h2 h3 e => ?_)
      · exact hDl (hB2 D z) (e2 _ _ hd) rfl
      · subst e
        rw [e2 _ _ hd] at h2
        have e3 := HO.lst.inj (Option.some.inj h2)
        match bs, ds, e3, hl with
        | [], ds, e3, _ =>
          have e4 : ds = [] := by simpa using e3.symm
          rw [e4] at h3
          cases h3
        | _ :: _, _ :: _, e3, _ => simp at e3
        | _ :: _, [], e3, _ => simp at e3
    · intro x hx
      rcases List.mem_append.mp hx with z | z
      · exact hf x z
      · rw [List.mem_singleton.mp z]
        exact fresh_back he nb
  · obtain ⟨bs, hl, he, hd, hb, hf⟩ := p
    exact q D H' bs hD he hd hb hf
theorem len__law_bags {K : PySem.W.Frag} {vs : List V} {H : Hp} {Q : VK} {E : XK} (h : sp__law_bags K vs H Q E) : vs.length = 2 := by
  obtain ⟨a, ns, m, rfl, _⟩ := h
  rfl
def sp__law_take (K : PySem.W.Frag) : Sp := fun vs H Q _ => ∃ (bs : List Addr) (b : Addr) (m : Int), vs = [.ref b, .int m] ∧ b ∈ bs ∧ Bags bs H ∧ 0 < m ∧ ∀ r H', 0 ≤ r → r < m → Kp bs H H' → Bags bs H' → Q (.int r) H'
abbrev N__law_take : List Str := ["bag", "many"]
def t__law_take (K : PySem.W.Frag) : TS := (tSeq (tAsg (tOp (rI0 fun i j => .int (i + j)) (tOp (rIxL K) (tVar 0) (tC (.int 1))) (tC (.int 1))) (gSub (tVar 0) (tC (.int 1)) rSetL))
  (tRet (tOp (rI (fun _ j => 0 < j) fun i j => .int (i % j)) (tOp (rIxL K) (tOp (rIxL K) (tVar 0) (tC (.int 0))) (tOp (rI (fun _ j => 0 < j) fun i j => .int (i % j)) (tOp (rIxL K) (tVar 0) (tC (.int 1))) (tCB (rLenQ K) (tCons (tOp (rIxL K) (tVar 0) (tC (.int 0))) tNil)))) (tVar 1))))
theorem pure__law_take {K : PySem.W.Frag} {vs : List V} {H : Hp} {Q : VK} {E : XK} (h : sp__law_take K vs H Q E) : t__law_take K { nx := fun _ H' => Q .non H', rt := Q } (start N__law_take vs) H := by
  obtain ⟨bs, b, m, rfl, hb, hB, hm, q⟩ := h
  obtain ⟨d, c, ds, h1, h2, h3⟩ := hB b hb
  have ndb : d ≠ b := fun e => by
    rw [e, h1] at h2
    have e2 := congrArg List.length (HO.lst.inj (Option.some.inj h2))
    rw [List.length_map, h3] at e2
    cases e2
  refine ⟨_, rfl, b, _, 1, .int c, rfl, rfl, SqL.of h1, rfl, c, 1, rfl, rfl, _, rfl, b, _, 1, 1, rfl, rfl, h1, rfl, ?_⟩
  have g1 : upd H b (.lst [.ref d, .int (c + 1)]) b = some (.lst [.ref d, .int (c + 1)]) := upd_same
  have g2 : upd H b (.lst [.ref d, .int (c + 1)]) d = some (.lst (ds.map V.int)) := by
    rw [upd_ne ndb]
    exact h2
  have hj0 : 0 ≤ (c + 1) % 400 := Int.emod_nonneg _ (by decide)
  have hj1 : (c + 1) % 400 < 400 := Int.emod_lt_of_pos _ (by decide)
  obtain ⟨j, ej⟩ := Int.eq_ofNat_of_zero_le hj0
  have hj : j < ds.length := by omega
  have el : ((ds.map V.int).length : Int) = 400 := by
    rw [List.length_map, h3]
    rfl
  refine ⟨_, rfl, b, _, 0, .ref d, rfl, rfl, SqL.of g1, rfl, _, rfl, b, _, 1, .int (c + 1), rfl, rfl, SqL.of g1, rfl, _, rfl, b, _, 0, .ref d, rfl, rfl, SqL.of g1, rfl, d, _, rfl, .inl (SqL.of g2), c + 1, _, rfl, rfl, ?_, ?_⟩
  · show (0 : Int) < ((ds.map V.int).length : Int)
    rw [el]
    decide
  refine ⟨d, ds.map V.int, _, .int ds[j], rfl, rfl, SqL.of g2, ?_, _, rfl, ds[j], m, rfl, rfl, hm, ?_⟩
  · rw [el, ej]
    refine atI_nat ?_
    rw [List.getElem?_map, List.getElem?_eq_getElem hj]
    rfl
  · refine q _ _ (Int.emod_nonneg _ (by omega)) (Int.emod_lt_of_pos _ hm) (fun a o na ha => ?_) (fun b' hb' => ?_)
    · have nab : a ≠ b := fun e => na (e ▸ hb)
      rw [upd_ne nab]
      exact ha
    · by_cases e : b' = b
      · subst e
        exact ⟨d, c + 1, ds, upd_same, g2, h3⟩
      · obtain ⟨d', c', ds', k1, k2, k3⟩ := hB b' hb'
        have nd' : d' ≠ b := fun z => by
          rw [z, h1] at k2
          have e2 := congrArg List.length (HO.lst.inj (Option.some.inj k2))
          rw [List.length_map, k3] at e2
          cases e2
        exact ⟨d', c', ds', by rw [upd_ne e]; exact k1, by rw [upd_ne nd']; exact k2, k3⟩
theorem len__law_take {K : PySem.W.Frag} {vs : List V} {H : Hp} {Q : VK} {E : XK} (h : sp__law_take K vs H Q E) : vs.length = 2 := by
  obtain ⟨bs, b, m, rfl, _⟩ := h
  rfl
def sp__law_some_stands (K : PySem.W.Frag) : Sp := fun vs H Q _ => ∃ (bs : List Addr) (b : Addr) (l m : Int), vs = [.ref b, .int l, .int m] ∧ b ∈ bs ∧ Bags bs H ∧ 1 ≤ l ∧ 0 ≤ m ∧ m ≤ 100 ∧
  ∀ p H' (ns : List Int), H p = none → Kp bs H H' → Bags bs H' → H' p = some (.lst (ns.map V.int)) → (ns.length : Int) ≤ m → Places l ns → Q (.ref p) H'
abbrev N__law_some_stands : List Str := ["bag", "length", "most", "found", "turn", "place"]
def t__law_some_stands (K : PySem.W.Frag) : TS := (tSeq (tAsg (tLst tNil) (gName 3))
  (tSeq (tFor (iRng1 (tCons (tCall (sp__law_take K) [] E0 (tCons (tVar 0) (tCons (tOp (rI0 fun i j => .int (i + j)) (tVar 2) (tC (.int 1))) tNil))) tNil)) (gName 4) (tSeq (tAsg (tOp (rI0 fun i j => .int (i + j)) (tC (.int 1)) (tCall (sp__law_take K) [] E0 (tCons (tVar 0) (tCons (tVar 1) tNil)))) (gName 5))
  (tSeq (tIfS (tAnd (tTest (tOp (rNeD K) (tVar 3) (tLst tNil))) (tTest (tOp rEq (tCall (sp__law_take K) [] E0 (tCons (tVar 0) (tCons (tC (.int 3)) tNil))) (tC (.int 0))))) (tAsg (tCB rMax2 (tCons (tC (.int 1)) (tCons (tCB rMin2 (tCons (tVar 1) (tCons (tOp (rI0 fun i j => .int (i - j)) (tOp (rI0 fun i j => .int (i + j)) (tOp (rIxL K) (tVar 3) (tUn (rU fun i => .int (-i)) (tC (.int 1)))) (tCall (sp__law_take K) [] E0 (tCons (tVar 0) (tCons (tC (.int 5)) tNil)))) (tC (.int 2))) tNil))) tNil))) (gName 5)) tNext)
  (tDrop (tBM K "list" rAppend (tVar 3) (tCons (tVar 5) tNil))))))
  (tRet (tVar 3))))
theorem places_add {l : Int} {ns : List Int} {n : Int} (h : Places l ns) (h1 : 1 ≤ n) (h2 : n ≤ l) : Places l (ns ++ [n]) := fun x hx => by
  rcases List.mem_append.mp hx with z | z
  · exact h x z
  · rw [List.mem_singleton.mp z]
    exact ⟨h1, h2⟩
theorem pure__law_some_stands {K : PySem.W.Frag} {vs : List V} {H : Hp} {Q : VK} {E : XK} (h : sp__law_some_stands K vs H Q E) : t__law_some_stands K { nx := fun _ H' => Q .non H', rt := Q } (start N__law_some_stands vs) H := by
  obtain ⟨bs, b, l, m, rfl, hb, hB, hl, hm0, hm, q⟩ := h
  refine ⟨Nat.zero_le _, fun f nf => ?_⟩
  have nfb : f ∉ bs := hB.fresh nf
  have B1 : Bags bs (upd H f (.lst [])) := hB.ex (Ex.new nf)
  refine ⟨_, rfl, _, rfl, m, 1, rfl, rfl, bs, b, m + 1, rfl, hb, B1, by omega, fun r H1 hr0 hr1 k1 B1 => ?_⟩
  have hf1 : H1 f = some (.lst []) := k1 f _ nfb upd_same
  have k0 : Kp bs H H1 := (Kp.ex (Ex.new nf)).trans k1
  refine ⟨r, rfl, by omega, by omega, ?_⟩
  refine for_range (lo := 0) (n := r.toNat) (fun i σ H' => ∃ (ns : List Int) (x y : Option V), σ = [some (.ref b), some (.int l), some (.int m), some (.ref f), x, y] ∧ Kp bs H H' ∧ Bags bs H' ∧ H' f = some (.lst (ns.map V.int)) ∧ ns.length = i ∧ Places l ns)
    ⟨[], none, none, rfl, k0, B1, hf1, rfl, fun _ hx => (nomatch hx)⟩ ?_ ?_
  · rintro i σ H2 hi ⟨ns, x, y, rfl, k2, B2, hf2, hlen, hP⟩
    refine ⟨_, rfl, _, rfl, bs, b, l, rfl, hb, B2, by omega, fun p H3 hp0 hp1 k3 B3 => ?_⟩
    have hf3 : H3 f = some (.lst (ns.map V.int)) := k3 f _ nfb hf2
    refine ⟨1, p, rfl, rfl, ?_⟩
    have app : ∀ (pl : Int) (H4 : Hp) (B4 : Bags bs H4) (k4 : Kp bs H H4) (hf4 : H4 f = some (.lst (ns.map V.int))), 1 ≤ pl → pl ≤ l →
        tDrop (tBM K "list" rAppend (tVar 3) (tCons (tVar 5) tNil)) { nx := fun σ H' => ∃ (ns : List Int) (x y : Option V), σ = [some (.ref b), some (.int l), some (.int m), some (.ref f), x, y] ∧ Kp bs H H' ∧ Bags bs H' ∧ H' f = some (.lst (ns.map V.int)) ∧ ns.length = i + 1 ∧ Places l ns, rt := Q, bk := fun _ _ => False, ct := fun _ _ => False }
          [some (.ref b), some (.int l), some (.int m), some (.ref f), some (.int (0 + (i : Int))), some (.int pl)] H4 := by
      intro pl H4 B4 k4 hf4 h1 h2
      refine ⟨_, rfl, .inl ⟨rfl, _, SqL.of hf4⟩, _, rfl, f, _, _, rfl, rfl, hf4, ?_, ns ++ [pl], _, _, rfl, k4.mut nf, ?_, ?_, ?_, places_add hP h1 h2⟩
      · rw [List.length_map]
        exact small1000 (by omega)
      · refine B4.mut nfb fun d ds hd hdl e => ?_
        subst e
        rw [hf4] at hd
        have e2 := congrArg List.length (HO.lst.inj (Option.some.inj hd))
        rw [List.length_map, List.length_map, hdl] at e2
        omega
      · rw [upd_same, List.map_append]
        rfl
      · rw [List.length_append, hlen]
        rfl
    refine ⟨_, rfl, Nat.zero_le _, fun z nz => ?_⟩
    have e3 : Ex H3 (upd H3 z (.lst [])) := Ex.new nz
    have B3z := B3.ex e3
    refine neII (ns := ns) (ms := []) (SqL.of (e3 _ _ hf3)) (SqL.of upd_same) ⟨_, rfl, ite2 (fun hne => ?_) (fun hne => ?_)⟩
    · have nne : ns ≠ [] := fun e => by
        subst e
        cases hne
      refine ⟨_, rfl, bs, b, 3, rfl, hb, B3z, by decide, fun c H4 _ _ k4 B4 => ?_⟩
      have hf4 : H4 f = some (.lst (ns.map V.int)) := k4 f _ nfb (e3 _ _ hf3)
      have kk4 : Kp bs H H4 := ((k2.trans k3).trans (Kp.ex e3)).trans k4
      refine ⟨rfl, _, rfl, ite2 (fun _ => ?_) (fun _ => ?_)⟩
      · have ha : ∃ y : Int, atI (ns.map V.int) (-1) = some (.int y) := by
          refine ⟨ns.getLast nne, ?_⟩
          have ez : ns.map V.int = (ns.dropLast.map V.int) ++ [V.int (ns.getLast nne)] := by
            rw [← List.map_singleton, ← List.map_append, List.dropLast_concat_getLast]
          rw [ez]
          exact atI_last _ _
        obtain ⟨y, ha⟩ := ha
        refine ⟨_, rfl, _, rfl, 1, rfl, f, _, -1, _, rfl, rfl, SqL.of hf4, ha, _, rfl, bs, b, 5, rfl, hb, B4, by decide, fun d H5 _ _ k5 B5 => ?_⟩
        refine ⟨y, d, rfl, rfl, y + d, 2, rfl, rfl, l, y + d - 2, rfl, 1, _, rfl, ?_⟩
        refine app _ H5 B5 (kk4.trans k5) (k5 f _ nfb hf4) ?_ ?_
        · split <;> split <;> omega
        · split <;> split <;> omega
      · exact app _ H4 B4 kk4 hf4 (by omega) (by omega)
    · exact app _ _ B3z ((k2.trans k3).trans (Kp.ex e3)) (e3 _ _ hf3) (by omega) (by omega)
  · rintro σ H2 ⟨ns, x, y, rfl, k2, B2, hf2, hlen, hP⟩
    exact ⟨_, rfl, q f H2 ns nf k2 B2 hf2 (by omega) hP⟩
theorem len__law_some_stands {K : PySem.W.Frag} {vs : List V} {H : Hp} {Q : VK} {E : XK} (h : sp__law_some_stands K vs H Q E) : vs.length = 3 := by
  obtain ⟨bs, b, l, m, rfl, _⟩ := h
  rfl
def sp__law_word (K : PySem.W.Frag) : Sp := fun vs H Q _ => ∃ f n : Int, vs = [.int f, .int n] ∧ Q (vW (word f n)) H
abbrev N__law_word : List Str := ["far", "near"]
def t__law_word (K : PySem.W.Frag) : TS := (tSeq (tIfS (tTest (tOp (rI0 fun i j => .bl (decide (i < j))) (tVar 1) (tVar 0))) (tRet (tC (.str (Str.ofString "warm")))) tNext)
  (tRet (tIf (tTest (tOp (rI0 fun i j => .bl (decide (j < i))) (tVar 1) (tVar 0))) (tC (.str (Str.ofString "cold"))) (tC (.str (Str.ofString "same"))))))
theorem pure__law_word {K : PySem.W.Frag} {vs : List V} {H : Hp} {Q : VK} {E : XK} (h : sp__law_word K vs H Q E) : t__law_word K { nx := fun _ H' => Q .non H', rt := Q } (start N__law_word vs) H := by
  obtain ⟨f, n, rfl, q⟩ := h
  refine ⟨_, rfl, _, rfl, n, f, rfl, rfl, _, rfl, ite2 (fun h1 => ?_) (fun h1 => ?_)⟩
  · have e1 : word f n = .warm := if_pos (of_decide_eq_true h1)
    rw [e1] at q
    exact q
  · have n1 : ¬ n < f := fun z => h1 (decide_eq_true z)
    refine ⟨_, rfl, _, rfl, n, f, rfl, rfl, _, rfl, ite2 (fun h2 => ?_) (fun h2 => ?_)⟩
    · have e2 : word f n = .cold := (if_neg n1).trans (if_pos (of_decide_eq_true h2))
      rw [e2] at q
      exact q
    · have n2 : ¬ f < n := fun z => h2 (decide_eq_true z)
      have e3 : word f n = .same := (if_neg n1).trans (if_neg n2)
      rw [e3] at q
      exact q
theorem len__law_word {K : PySem.W.Frag} {vs : List V} {H : Hp} {Q : VK} {E : XK} (h : sp__law_word K vs H Q E) : vs.length = 2 := by
  obtain ⟨f, n, rfl, _⟩ := h
  rfl
/-! ### rings turned, and seen in a mirror -/
theorem fw_mod {l x y : Int} (h1 : 1 ≤ x) (h2 : x ≤ l) (h3 : 1 ≤ y) (h4 : y ≤ l) : (y - x) % l = fw l x y := by
  unfold fw
  split
  · exact Int.emod_eq_of_lt (by omega) (by omega)
  · rw [← Int.add_emod_right]
    exact Int.emod_eq_of_lt (by omega) (by omega)
theorem rd_min {l t p : Int} (h1 : 1 ≤ t) (h2 : t ≤ l) (h3 : 1 ≤ p) (h4 : p ≤ l) : (if (p - t) % l < (t - p) % l then (p - t) % l else (t - p) % l) = rd l t p := by
  rw [fw_mod h1 h2 h3 h4, fw_mod h3 h4 h1 h2]
  unfold rd
  split <;> split <;> omega
def tn (l b x : Int) : Int := 1 + (x - 1 + b) % l
theorem tn_range {l : Int} (b x : Int) (h : 1 ≤ l) : 1 ≤ tn l b x ∧ tn l b x ≤ l := by
  unfold tn
  have h1 := Int.emod_nonneg (x - 1 + b) (show l ≠ 0 by omega)
  have h2 := Int.emod_lt_of_pos (x - 1 + b) (show 0 < l by omega)
  omega
theorem fw_tn {l b x y : Int} (h1 : 1 ≤ x) (h2 : x ≤ l) (h3 : 1 ≤ y) (h4 : y ≤ l) : fw l (tn l b x) (tn l b y) = fw l x y := by
  have hl : 1 ≤ l := by omega
  obtain ⟨a1, a2⟩ := tn_range b x hl
  obtain ⟨a3, a4⟩ := tn_range b y hl
  rw [← fw_mod a1 a2 a3 a4, ← fw_mod h1 h2 h3 h4]
  unfold tn
  rw [show 1 + (y - 1 + b) % l - (1 + (x - 1 + b) % l) = (y - 1 + b) % l - (x - 1 + b) % l by omega, ← Int.sub_emod]
  congr 1
  omega
theorem rd_tn {l b x y : Int} (h1 : 1 ≤ x) (h2 : x ≤ l) (h3 : 1 ≤ y) (h4 : y ≤ l) : rd l (tn l b x) (tn l b y) = rd l x y := by
  unfold rd
  rw [fw_tn h1 h2 h3 h4, fw_tn h3 h4 h1 h2]
theorem rwords_tn {l b t : Int} (h1 : 1 ≤ t) (h2 : t ≤ l) : ∀ {st : List Int}, Places l st → rwordsOf l (tn l b t) (st.map (tn l b)) = rwordsOf l t st
  | [], _ => rfl
  | [_], _ => rfl
  | x :: y :: r, hP => by
    have hx := hP x List.mem_cons_self
    have hy := hP y (List.mem_cons_of_mem _ List.mem_cons_self)
    show word (rd l (tn l b t) (tn l b x)) (rd l (tn l b t) (tn l b y)) :: rwordsOf l (tn l b t) ((y :: r).map (tn l b)) = _
    rw [rd_tn h1 h2 hx.1 hx.2, rd_tn h1 h2 hy.1 hy.2, rwords_tn h1 h2 fun n hn => hP n (List.mem_cons_of_mem _ hn)]
    rfl
theorem tn_back {l b x : Int} (h1 : 1 ≤ x) (h2 : x ≤ l) : tn l b (tn l (-b) x) = x := by
  unfold tn
  rw [show 1 + (x - 1 + -b) % l - 1 + b = (x - 1 + -b) % l + b by omega, Int.emod_add_emod, show x - 1 + -b + b = x - 1 by omega, Int.emod_eq_of_lt (by omega) (by omega)]
  omega
theorem tn_inj {l b x y : Int} (h1 : 1 ≤ x) (h2 : x ≤ l) (h3 : 1 ≤ y) (h4 : y ≤ l) (e : tn l b x = tn l b y) : x = y := by
  have h := fw_tn (b := b) h1 h2 h3 h4
  have h' := fw_tn (b := b) h3 h4 h1 h2
  rw [e] at h h'
  have z : fw l (tn l b y) (tn l b y) = 0 := by
    unfold fw
    split <;> omega
  rw [z] at h h'
  unfold fw at h h'
  split at h <;> split at h' <;> omega
theorem mem_rlies {l t : Int} {st : List Int} {ws : List Wo} : t ∈ rlies l st ws ↔ (1 ≤ t ∧ t ≤ l) ∧ rwordsOf l t st = ws := by
  unfold rlies
  rw [List.mem_filter, mem_rng, decide_eq_true_iff]
  constructor
  · rintro ⟨⟨h1, h2⟩, h3⟩
    exact ⟨⟨h1, by omega⟩, h3⟩
  · rintro ⟨⟨h1, h2⟩, h3⟩
    exact ⟨⟨h1, by omega⟩, h3⟩
theorem rng_up (lo hi : Int) : (rng lo hi).Pairwise (· < ·) := by
  unfold rng
  rw [List.pairwise_map]
  exact List.pairwise_lt_range.imp fun {a b : Nat} (h : a < b) => (by omega : lo + (a : Int) < lo + (b : Int))
theorem rlies_lt (l : Int) (st : List Int) (ws : List Wo) : (rlies l st ws).Pairwise (· < ·) := (rng_up 1 (l + 1)).filter _
theorem rlies_nodup (l : Int) (st : List Int) (ws : List Wo) : (rlies l st ws).Nodup := (rlies_lt l st ws).imp fun {a b} (h : a < b) => (by omega : a ≠ b)
theorem rlies_len (l : Int) (st : List Int) (ws : List Wo) : (rlies l st ws).length ≤ l.toNat := by
  unfold rlies
  refine Nat.le_trans (List.length_filter_le _ _) ?_
  rw [rng_len]
  omega
theorem nodup_map_on {f : Int → Int} : ∀ {l : List Int}, (∀ x ∈ l, ∀ y ∈ l, f x = f y → x = y) → l.Nodup → (l.map f).Nodup
  | [], _, _ => List.nodup_nil
  | a :: r, hf, h => by
    obtain ⟨h1, h2⟩ := List.nodup_cons.mp h
    rw [List.map_cons, List.nodup_cons]
    refine ⟨fun z => ?_, nodup_map_on (fun x hx y hy => hf x (List.mem_cons_of_mem _ hx) y (List.mem_cons_of_mem _ hy)) h2⟩
    obtain ⟨x, hx, e⟩ := List.mem_map.mp z
    exact h1 (hf x (List.mem_cons_of_mem _ hx) a List.mem_cons_self e ▸ hx)
theorem rlies_turned {l b : Int} {st : List Int} {ws : List Wo} (hP : Places l st) : (rlies l (st.map (tn l b)) ws).Perm ((rlies l st ws).map (tn l b)) := by
  refine (List.perm_ext_iff_of_nodup (rlies_nodup _ _ _) (nodup_map_on (fun x hx y hy => ?_) (rlies_nodup _ _ _))).mpr fun t => ?_
  · have h1 := mem_rlies.mp hx
    have h2 := mem_rlies.mp hy
    exact tn_inj h1.1.1 h1.1.2 h2.1.1 h2.1.2
  · rw [mem_rlies, List.mem_map]
    constructor
    · rintro ⟨⟨h1, h2⟩, h3⟩
      obtain ⟨r1, r2⟩ := tn_range (l := l) (-b) t (by omega)
      refine ⟨tn l (-b) t, mem_rlies.mpr ⟨⟨r1, r2⟩, ?_⟩, tn_back h1 h2⟩
      rw [← rwords_tn (b := b) r1 r2 hP, tn_back h1 h2]
      exact h3
    · rintro ⟨x, hx, rfl⟩
      obtain ⟨⟨h1, h2⟩, h3⟩ := mem_rlies.mp hx
      exact ⟨tn_range b x (by omega), by rw [rwords_tn h1 h2 hP]; exact h3⟩
/-- sorted, it is the one -/
theorem rlies_sorted {l b : Int} {st : List Int} {ws : List Wo} {ns : List Int} (hP : Places l st) (h1 : ns.Perm ((rlies l st ws).map (tn l b))) (h2 : ns.Pairwise (· ≤ ·)) : ns = rlies l (st.map (tn l b)) ws :=
  List.Perm.eq_of_pairwise (le := (· ≤ ·)) (fun _ _ _ _ => Int.le_antisymm) h2 ((rlies_lt _ _ _).imp fun {a b} (h : a < b) => (by omega : a ≤ b)) (h1.trans (rlies_turned hP).symm)
theorem rd_mirror {l x y : Int} : rd l (l + 1 - x) (l + 1 - y) = rd l x y := by
  have h1 : fw l (l + 1 - x) (l + 1 - y) = fw l y x := by
    unfold fw
    split <;> split <;> omega
  have h2 : fw l (l + 1 - y) (l + 1 - x) = fw l x y := by
    unfold fw
    split <;> split <;> omega
  unfold rd
  rw [h1, h2]
  split <;> split <;> omega
theorem rwords_mirror (l t : Int) : ∀ st : List Int, rwordsOf l (l + 1 - t) (st.map fun p => l + 1 - p) = rwordsOf l t st
  | [] => rfl
  | [_] => rfl
  | a :: b :: r => by
    show word (rd l (l + 1 - t) (l + 1 - a)) (rd l (l + 1 - t) (l + 1 - b)) :: rwordsOf l (l + 1 - t) ((b :: r).map fun p => l + 1 - p) = _
    rw [rd_mirror, rd_mirror, rwords_mirror l t (b :: r)]
    rfl
theorem rlies_mirror (l : Int) (st : List Int) (ws : List Wo) : rlies l (st.map fun p => l + 1 - p) ws = ((rlies l st ws).reverse).map fun x => l + 1 - x := by
  have e : rng 1 (l + 1) = ((rng 1 (l + 1)).reverse).map fun x => l + 1 - x := by
    rw [rng_mirror _ 1 (l + 1) (l + 1) rfl]
    congr 1 <;> omega
  unfold rlies
  rw [← List.filter_reverse]
  conv => lhs; rw [e]
  rw [List.filter_map]
  congr 1
  refine List.filter_congr fun t _ => ?_
  show decide (rwordsOf l (l + 1 - t) (st.map fun p => l + 1 - p) = ws) = decide (rwordsOf l t st = ws)
  rw [rwords_mirror]
theorem rrows_turned {l b : Int} {st : List Int} {D : List (List Wo)} (hP : Places l st) (h : RRows l st D) : RRows l (st.map (tn l b)) D := by
  refine ⟨h.1, fun r => (h.2 r).trans ⟨?_, ?_⟩⟩
  · rintro ⟨t, ⟨h1, h2⟩, h3⟩
    exact ⟨tn l b t, tn_range b t (by omega), by rw [rwords_tn h1 h2 hP]; exact h3⟩
  · rintro ⟨t, ⟨h1, h2⟩, h3⟩
    obtain ⟨r1, r2⟩ := tn_range (l := l) (-b) t (by omega)
    refine ⟨tn l (-b) t, ⟨r1, r2⟩, ?_⟩
    rw [← rwords_tn (b := b) r1 r2 hP, tn_back h1 h2]
    exact h3
theorem rwords_snoc (l t x : Int) : ∀ st : List Int, (rwordsOf l t (st ++ [x])).take (st.length - 1) = rwordsOf l t st
  | [] => rfl
  | [_] => rfl
  | a :: b :: r => by
    show (word (rd l t a) (rd l t b) :: rwordsOf l t ((b :: r) ++ [x])).take ((b :: r).length - 1 + 1) = _
    rw [List.take_succ_cons, rwords_snoc l t x (b :: r)]
    rfl
theorem nodup_le {α : Type} [DecidableEq α] : ∀ {D D' : List α}, D.Nodup → (∀ r ∈ D, r ∈ D') → D.length ≤ D'.length
  | [], _, _, _ => Nat.zero_le _
  | a :: D, D', h, hs => by
    obtain ⟨h1, h2⟩ := List.nodup_cons.mp h
    have ha := hs a List.mem_cons_self
    have := nodup_le (D := D) (D' := D'.erase a) h2 fun r hr => (List.mem_erase_of_ne (fun (e : r = a) => h1 (e ▸ hr))).mpr (hs r (List.mem_cons_of_mem _ hr))
    rw [List.length_erase_of_mem ha] at this
    have hp := List.length_pos_of_mem ha
    rw [List.length_cons]
    omega
theorem rrows_more {l x : Int} {st : List Int} {D D' : List (List Wo)} (h : RRows l st D) (h' : RRows l (st ++ [x]) D') : D.length ≤ D'.length := by
  rw [← List.length_map (as := D') (f := fun r => r.take (st.length - 1))]
  refine nodup_le h.1 fun r hr => ?_
  obtain ⟨t, ht, e⟩ := (h.2 r).mp hr
  exact List.mem_map.mpr ⟨_, (h'.2 _).mpr ⟨t, ht, rfl⟩, by rw [rwords_snoc]; exact e⟩
def sp__law_words_on (K : PySem.W.Frag) : Sp := fun vs H Q _ => ∃ (l t : Int) (s : Addr) (st : List Int), vs = [.int l, .int t, .ref s] ∧ (1 ≤ t ∧ t ≤ l) ∧ SqL K H s (st.map V.int) ∧ st.length ≤ 1000 ∧ Places l st ∧ ∀ p H', H p = none → Ex H H' → H' p = some (.lst ((rwordsOf l t st).map vW)) → Q (.ref p) H'
abbrev N__law_words_on : List Str := ["length", "thing", "stands", "far", "place"]
def t__law_words_on (K : PySem.W.Frag) : TS := (tSeq (tAsg (tLc (iList K (tVar 2)) (gName 4) tYes (tCB rMin2 (tCons (tOp (rI (fun _ j => 0 < j) fun i j => .int (i % j)) (tOp (rI0 fun i j => .int (i - j)) (tVar 1) (tVar 4)) (tVar 0)) (tCons (tOp (rI (fun _ j => 0 < j) fun i j => .int (i % j)) (tOp (rI0 fun i j => .int (i - j)) (tVar 4) (tVar 1)) (tVar 0)) tNil))) [4]) (gName 3))
  (tRet (tLc (iRng2 (tCons (tC (.int 1)) (tCons (tCB (rLenQ K) (tCons (tVar 3) tNil)) tNil))) (gName 4) tYes (tCall (sp__law_word K) [] E0 (tCons (tOp (rIxL K) (tVar 3) (tOp (rI0 fun i j => .int (i - j)) (tVar 4) (tC (.int 1)))) (tCons (tOp (rIxL K) (tVar 3) (tVar 4)) tNil))) [4])))
theorem ring_words (l t : Int) (st : List Int) : (rng 1 (st.length : Int)).map (fun n => vW (word (rd l t (st.getD (n - 1).toNat 0)) (rd l t (st.getD n.toNat 0)))) = (rwordsOf l t st).map vW := by
  apply List.ext_getElem?
  intro i
  rw [List.getElem?_map, List.getElem?_map]
  by_cases h : i + 1 < st.length
  · have h0 : i < st.length := by omega
    rw [rwordsOf_get l t st i _ _ (List.getElem?_eq_getElem h0) (List.getElem?_eq_getElem h)]
    have er : (rng 1 (st.length : Int))[i]? = some (1 + (i : Int)) := by
      unfold rng
      rw [List.getElem?_map, List.getElem?_range (by omega)]
      rfl
    rw [er]
    show some (vW (word (rd l t (st.getD (1 + (i : Int) - 1).toNat 0)) (rd l t (st.getD (1 + (i : Int)).toNat 0)))) = some (vW (word (rd l t st[i]) (rd l t st[i + 1])))
    rw [show (1 + (i : Int) - 1).toNat = i by omega, show (1 + (i : Int)).toNat = i + 1 by omega, List.getD_eq_getElem?_getD, List.getD_eq_getElem?_getD, List.getElem?_eq_getElem h0, List.getElem?_eq_getElem h]
    rfl
  · rw [List.getElem?_eq_none (by rw [rng_len]; omega), List.getElem?_eq_none (by rw [rwordsOf_len]; omega)]
    rfl
theorem pure__law_words_on {K : PySem.W.Frag} {vs : List V} {H : Hp} {Q : VK} {E : XK} (h : sp__law_words_on K vs H Q E) : t__law_words_on K { nx := fun _ H' => Q .non H', rt := Q } (start N__law_words_on vs) H := by
  obtain ⟨l, t, s, st, rfl, ⟨h1, h2⟩, hS, hl, hP, q⟩ := h
  have hc : Evl.EvL (tLc (iList K (tVar 2)) (gName 4) tYes (tCB rMin2 (tCons (tOp (rI (fun _ j => 0 < j) fun i j => .int (i % j)) (tOp (rI0 fun i j => .int (i - j)) (tVar 1) (tVar 4)) (tVar 0)) (tCons (tOp (rI (fun _ j => 0 < j) fun i j => .int (i % j)) (tOp (rI0 fun i j => .int (i - j)) (tVar 4) (tVar 1)) (tVar 0)) tNil))) [4]) (start N__law_words_on [.int l, .int t, .ref s]) H (st.map fun p => V.int (rd l t p)) := by
    refine el_map (K := K) (a := s) (fun p => V.int (rd l t p)) (Evl.ev_var rfl) hS (by omega) (fun _ => rfl) fun p H1 _ hp => fun H2 _ Q2 q2 => ?_
    have hpl := hP p hp
    have hl0 : (0 : Int) < l := by omega
    refine ⟨_, rfl, _, rfl, t, p, rfl, rfl, _, rfl, _, l, rfl, rfl, hl0, _, rfl, _, rfl, p, t, rfl, rfl, _, rfl, _, l, rfl, rfl, hl0, _, _, rfl, ?_⟩
    show Q2 (V.int (if (p - t) % l < (t - p) % l then (p - t) % l else (t - p) % l)) H2
    rw [rd_min h1 h2 hpl.1 hpl.2]
    exact q2 H2 (Ex.refl H2)
  dsimp only [t__law_words_on, tSeq, tAsg]
  refine hc H (Ex.refl H) _ fun f H1 nf e1 hf => ?_
  have el : ((st.map fun p => V.int (rd l t p)).length : Int) = (st.length : Int) := by rw [List.length_map]
  have gat : ∀ i : Nat, i < st.length → (st.map fun p => V.int (rd l t p))[i]? = some (.int (rd l t (st.getD i 0))) := fun i hi => by
    rw [List.getElem?_map, List.getD_eq_getElem?_getD, List.getElem?_eq_getElem hi]
    rfl
  have hc2 : Evl.EvL (tLc (iRng2 (tCons (tC (.int 1)) (tCons (tCB (rLenQ K) (tCons (tVar 3) tNil)) tNil))) (gName 4) tYes (tCall (sp__law_word K) [] E0 (tCons (tOp (rIxL K) (tVar 3) (tOp (rI0 fun i j => .int (i - j)) (tVar 4) (tC (.int 1)))) (tCons (tOp (rIxL K) (tVar 3) (tVar 4)) tNil))) [4])
      [some (.int l), some (.int t), some (.ref s), some (.ref f), none] H1 (((rng 1 (st.length : Int)).filter fun _ => true).map fun n => vW (word (rd l t (st.getD (n - 1).toNat 0)) (rd l t (st.getD n.toNat 0)))) := by
    refine el_rng (fun _ => true) (fun n => vW (word (rd l t (st.getD (n - 1).toNat 0)) (rd l t (st.getD n.toNat 0)))) ?_ (by omega) (fun _ => rfl) (fun n H2 _ _ _ => yes_ev) (fun n H2 e2 n1 n2 _ => ?_)
    · intro H2 e2 Q2 q2
      refine ⟨_, rfl, f, _, rfl, .inl (SqL.of (e2 _ _ hf)), ?_⟩
      rw [el]
      exact q2 H2 (Ex.refl H2)
    · intro H3 e3 Q3 q3
      have hf3 := (e2.trans e3) _ _ hf
      exact ⟨_, rfl, _, rfl, _, _, rfl, rfl, f, _, _, _, rfl, rfl, SqL.of hf3, at_of (j := (n - 1).toNat) (by omega) (gat _ (by omega)), _, rfl, _, rfl, f, _, _, _, rfl, rfl, SqL.of hf3, at_of (j := n.toNat) (by omega) (gat _ (by omega)), _, _, rfl, q3 H3 (Ex.refl H3)⟩
  refine hc2 H1 (Ex.refl H1) _ fun p H2 np e2 hp => ?_
  refine q p H2 (fresh_back e1 np) (e1.trans e2) ?_
  rw [hp, filter_yes, ring_words]
theorem len__law_words_on {K : PySem.W.Frag} {vs : List V} {H : Hp} {Q : VK} {E : XK} (h : sp__law_words_on K vs H Q E) : vs.length = 3 := by
  obtain ⟨l, t, s, st, rfl, _⟩ := h
  rfl
/-! ### t[::-1] of a tuple -/
theorem back_places (n : Nat) : Builtin.Slice.slicePlaces ((n : Int) - 1) (-1) (-1) = n := by
  unfold Builtin.Slice.slicePlaces
  rw [if_neg (by decide)]
  by_cases h : (n : Int) - 1 > -1
  · rw [if_pos h]
    have e : ((n : Int) - 1 - -1 - 1) / (- -1) + 1 = (n : Int) := by
      rw [show (- -1 : Int) = 1 by decide, Int.ediv_one]
      omega
    rw [e]
    exact Int.toNat_natCast n
  · rw [if_neg h]
    have e : n = 0 := by omega
    rw [e]
    rfl
theorem fm_congr {α β : Type} {f g : α → Option β} : ∀ {l : List α}, (∀ x ∈ l, f x = g x) → l.filterMap f = l.filterMap g
  | [], _ => rfl
  | a :: l, h => by
    rw [List.filterMap_cons, List.filterMap_cons, h a List.mem_cons_self, fm_congr fun x hx => h x (List.mem_cons_of_mem _ hx)]
theorem back_pick (its : List Value) : ((List.range its.length).filterMap fun (m : Nat) => its.toArray[(((its.length : Int) - 1) + (m : Int) * (-1)).toNat]?) = its.reverse := by
  have e : ((List.range its.length).filterMap fun (m : Nat) => its.toArray[(((its.length : Int) - 1) + (m : Int) * (-1)).toNat]?) = ((List.range its.length).map fun m => its.length - 1 - m).filterMap (its.toArray[·]?) := by
    rw [List.filterMap_map]
    refine fm_congr fun m hm => ?_
    have h2 := List.mem_range.mp hm
    have e3 : (((its.length : Int) - 1) + (m : Int) * (-1)).toNat = its.length - 1 - m := by omega
    rw [e3]
    rfl
  have e2 : its.length = its.toArray.size := List.size_toArray.symm
  have h := PySem.W.krv_all its.toArray
  rw [e, PySem.W.krv_range, List.filterMap_reverse]
  rw [← e2] at h
  rw [h]
section
variable {prog : Program} {w : World} {A : Around} {E : Value → Shared → Prop} {s : Shared}
theorem back_applied {sl : Addr} {vl vu vs : Value} {n : Nat} {Q : Int × Int × Nat → Shared → Prop} (hs : s.heap.IsSliceOf sl vl vu vs) (pl : IsPart vl none) (pu : IsPart vu none) (ps : IsPart vs (some (-1)))
    (h : Q ((n : Int) - 1, -1, n) s) : wpAny (model prog w) A (Builtin.Slice.sliceApplied (.ref sl) (pure (n : Int))) Q E s := by
  obtain ⟨ob, g1, _, g3⟩ := id hs
  unfold Builtin.Slice.sliceApplied Builtin.Slice.sliceFields
  refine wpAny_bind (wpAny_bind (wpAny_field g1 g3 (x := vl) rfl (wpAny_bind (wpAny_field g1 g3 (x := vu) rfl (wpAny_bind (wpAny_field g1 g3 (x := vs) rfl (wpAny_pure ?_)))))))
  refine wpAny_bind (HT.slicePart_ ps ?_)
  show wpAny _ _ (if ((-1 : Int) == 0) = true then _ else _) _ _ s
  rw [if_neg (by decide)]
  refine wpAny_bind (HT.slicePart_ pl (wpAny_bind (HT.slicePart_ pu (wpAny_bind (wpAny_pure ?_)))))
  show wpAny _ _ (pure ((n : Int) - 1, (-1 : Int), Builtin.Slice.slicePlaces ((n : Int) - 1) (-1) (-1))) _ _ s
  rw [back_places]
  exact wpAny_pure h
theorem back_item {t sl : Addr} {its : List Value} {vl vu vs : Value} {Q : Value → Shared → Prop} (ht : IsTup s.heap t its.toArray) (hs : s.heap.IsSliceOf sl vl vu vs) (pl : IsPart vl none) (pu : IsPart vu none) (ps : IsPart vs (some (-1)))
    (h : Q (.ref s.heap.objs.size) { s with heap := s.heap.push { cls := .type "tuple", data := .seq its.reverse.toArray } }) (hsz : its.length ≤ sizeLine) : wpAny (model prog w) A (getItem (.ref t) (.ref sl)) Q E s := by
  have hz : sizeOk (.seq its.reverse.toArray) := by
    show its.reverse.toArray.size ≤ sizeLine
    rw [List.size_toArray, List.length_reverse]
    exact hsz
  obtain ⟨ob, g1, g2, g3⟩ := id hs
  have hT : s.TypeIs (.ref sl) "slice" := ⟨ob, g1, g2⟩
  unfold getItem
  try with_reducible refine wpAny_holding ?_
  first | refine wpAny_bind (wpAny_pure ?_) | skip
  refine wpAny_bind (wpAny_sequenceKey ht.typeIs (by decide) ?_)
  refine wpAny_bind (wpAny_callSpecial?_slot (name := Str.ofString "__getitem__") ht.typeIs PyProof.Rows.slot_tuple_getitem (wpAny_call_entry PyProof.Rows.slot_tuple_getitem ht.typeIs entry_tuple_getitem ?_ (args_tuple_getitem _ _)))
  show wpAny _ _ (Builtin.Tuple.tupleItemsOf (.ref t) >>= _) _ _ s
  refine wpAny_bind (tupleItemsOf_ ht ?_)
  refine wpAny_bind (wpAny_typeOf hT ?_)
  rw [if_pos (by decide)]
  refine wpAny_bind (back_applied hs pl pu ps ?_)
  show wpAny _ _ (if (((its.toArray.size : Int) - 1) == 0 && (-1 : Int) == 1 && its.toArray.size == its.toArray.size) = true then _ else _) _ _ s
  have hno : ¬ ((((its.toArray.size : Int) - 1) == 0 && (-1 : Int) == 1 && its.toArray.size == its.toArray.size) = true) := by
    have e1 : ((-1 : Int) == 1) = false := by decide
    rw [e1, Bool.and_false, Bool.false_and]
    exact Bool.false_ne_true
  rw [if_neg hno]
  have ep : ((List.range its.toArray.size).filterMap fun (k : Nat) => its.toArray[(((its.toArray.size : Int) - 1) + (k : Int) * (-1)).toNat]?) = its.reverse := by
    rw [List.size_toArray]
    exact back_pick its
  rw [ep]
  first
    | exact wpAny_bind (m := Builtin.Tuple.tupleExact _) (wpAny_newObj_type (wpAny_pure ⟨_, rfl, wpAny_pure h⟩) hz)
    | exact wpAny_bind (m := Builtin.Tuple.tupleExact _) (wpAny_newObj_type (wpAny_bind (wpAny_pure (wpAny_pure ⟨_, rfl, wpAny_pure h⟩))) hz)
    | exact wpAny_bind (wpAny_bind (m := Builtin.Tuple.tupleExact _) (wpAny_newObj_type (wpAny_pure (wpAny_pure ⟨_, rfl, wpAny_pure h⟩)) hz))
    | exact wpAny_bind (wpAny_bind (m := Builtin.Tuple.tupleExact _) (wpAny_newObj_type (wpAny_pure ⟨_, rfl, wpAny_pure h⟩) hz))
end
def tRevT (K : PySem.W.Frag) (te : TE) : TE := fun σ H Q => te σ H fun x H1 => ∃ a xs, x = .ref a ∧ SqT K H1 a xs ∧ ∀ p, H1 p = none → Q (.ref p) (upd H1 p (.tup xs.reverse))
theorem pe_revT {X : Cx} {e : Expr} {te : TE} {k : Nat} {p1 p2 p3 pos : Pos} (he : PE X e te) : PE X (.Subscript e (.Slice none none (some (.UnaryOp .USub (.Constant (.int 1) k p1) p2)) p3) pos) (tRevT X.K te) := by
  refine ⟨fun pins s σ H Q I h => Subscript_ (thn (he.run pins s σ H _ I h) fun v s1 ⟨x, H1, I1, r1, a, xs, ex, hx, q⟩ => ?_)⟩
  subst ex
  cases r1
  have hm : PO X (some (.UnaryOp .USub (.Constant (.int 1) k p1) p2)) (tPart (tUn (rU fun i => .int (-i)) (tC (.int 1)))) := po_some (pe_un un_neg pe_int)
  refine wpAny_Slice (thn (po_none.run pins s1 σ H1 (fun o H2 => o = none ∧ H2 = H1) I1 ⟨rfl, rfl⟩) fun vl s2 ⟨o1, H2, I2, pl, z1, z2⟩ => ?_)
  subst z1 z2
  refine thn (po_none.run pins s2 σ H2 (fun o H3 => o = none ∧ H3 = H2) I2 ⟨rfl, rfl⟩) fun vu s3 ⟨o2, H3, I3, pu, z3, z4⟩ => ?_
  subst z3 z4
  refine thn (hm.run pins s3 σ H3 (fun o H4 => o = some (-1) ∧ H4 = H3) I3 ⟨1, rfl, -1, rfl, rfl, rfl⟩) fun vs s4 ⟨o3, H4, I4, ps, z5, z6⟩ => ?_
  subst z5 z6
  have J : Inv X pins σ H4 { s4 with heap := s4.heap.push { cls := .type "slice", data := .fields #[vl, vu, vs] } } := I4.kept (t' := s4.toks) fun b ob q => Heap.get?_push_of_some _ q
  obtain ⟨its, r, ht, hz⟩ := J.tuple hx
  show wpAny (model X.prog X.w) X.A (subscriptTail e (.Slice none none (some (.UnaryOp .USub (.Constant (.int 1) k p1) p2)) p3) (.ref a) (.ref s4.heap.objs.size)) (EP X pins σ Q) X.xe { s4 with heap := s4.heap.push { cls := .type "slice", data := .fields #[vl, vu, vs] } }
  refine tail_any (ops := [.ref a, .ref s4.heap.objs.size]) ht.typeIs PyProof.Rows.slot_tuple_getitem.lookup ?_ (by with_unfolding_all rfl)
  refine back_item ht (Heap.IsSliceOf.new _ vl vu vs) pl pu ps ?_ (by rw [← r.length]; exact hz)
  refine ⟨.ref _, _, J.laid (t' := s4.toks) (o := .tup xs.reverse) (fun b ob q => Heap.get?_push_of_some _ q) (Nat.le_refl _) ?_, rfl, q _ (J.hok.fresh (Nat.le_refl _))⟩
  exact ⟨by rw [List.length_reverse]; exact hz, _, r.reverse, IsTup.new _ _⟩
def sp_law (K : PySem.W.Frag) : Sp := fun vs H Q _ => ∃ (a : Addr) (ns : List Int), vs = [.ref a] ∧ SqL K H a (ns.map V.int) ∧ ns.length ≤ 63 ∧ ∀ H', Q (.bl true) H'
abbrev N_law : List Str := ["script", "bag", "length", "by", "stands", "turned", "place", "seen", "left", "rows", "turn", "thing", "words", "some", "one", "due"]
def t_law (K : PySem.W.Frag) : TS := (tSeq (tFor (iList K (tCall (sp__law_bags K) [] E0 (tCons (tVar 0) (tCons (tC (.int 8)) tNil)))) (gName 1) (tSeq (tAsg (tTup (tCons (tOp (rI0 fun i j => .int (i + j)) (tC (.int 1)) (tCall (sp__law_take K) [] E0 (tCons (tVar 1) (tCons (tC (.int 60)) tNil)))) (tCons (tCall (sp__law_take K) [] E0 (tCons (tVar 1) (tCons (tC (.int 60)) tNil))) tNil))) (gTup K 2 (gCons (gName 2) (gCons (gName 3) gNil))))
  (tSeq (tAsg (tCall (sp__law_some_stands K) [] E0 (tCons (tVar 1) (tCons (tVar 2) (tCons (tC (.int 12)) tNil)))) (gName 4))
  (tSeq (tAsg (tLc (iList K (tVar 4)) (gName 6) tYes (tOp (rI0 fun i j => .int (i + j)) (tC (.int 1)) (tOp (rI (fun _ j => 0 < j) fun i j => .int (i % j)) (tOp (rI0 fun i j => .int (i + j)) (tOp (rI0 fun i j => .int (i - j)) (tVar 6) (tC (.int 1))) (tVar 3)) (tVar 2))) [6]) (gName 5))
  (tSeq (tAsg (tLc (iList K (tVar 4)) (gName 6) tYes (tOp (rI0 fun i j => .int (i - j)) (tOp (rI0 fun i j => .int (i + j)) (tVar 2) (tC (.int 1))) (tVar 6)) [6]) (gName 7))
  (tSeq (tAsg (tTup (tCons (tLstRg (tRg2 (tC (.int 1)) (tOp (rI0 fun i j => .int (i + j)) (tVar 2) (tC (.int 1))))) (tCons (tC (.int 0)) tNil))) (gTup K 2 (gCons (gName 8) (gCons (gName 9) gNil))))
  (tSeq (tFor (iRng1 (tCons (tVar 2) tNil)) (gName 10) (tIfS (tTest (tOp (rNeD K) (tVar 8) (tLst tNil))) (tSeq (tAsg (tOp (rIxL K) (tVar 8) (tCall (sp__law_take K) [] E0 (tCons (tVar 1) (tCons (tCB (rLenQ K) (tCons (tVar 8) tNil)) tNil)))) (gName 11))
  (tSeq (tAsg (tCall (sp__law_words_on K) [] E0 (tCons (tVar 2) (tCons (tVar 11) (tCons (tVar 4) tNil)))) (gName 12))
  (tSeq (tAsg (tCall (sp_can_lie_round K) [] E0 (tCons (tVar 2) (tCons (tVar 4) (tCons (tVar 12) tNil)))) (gName 13))
  (tSeq (tIfS (tOr (tTest (tOp (rIn K true) (tVar 11) (tVar 13))) (tTest (tOp (rNeD K) (tLc (iTup K (tVar 13)) (gName 14) (tTest (tOp (rIn K true) (tVar 14) (tVar 8))) (tC (.int 1)) [14]) (tLst tNil)))) (tRet (tC (.bl false))) tNext)
  (tSeq (tAsg (tTup (tCons (tLc (iList K (tVar 8)) (gName 14) (tTest (tOp (rIn K true) (tVar 14) (tVar 13))) (tVar 14) [14]) (tCons (tOp (rI0 fun i j => .int (i + j)) (tVar 9) (tC (.int 1))) tNil))) (gTup K 2 (gCons (gName 8) (gCons (gName 9) gNil))))
  (tSeq (tAsg (tCB (rTupleOf K) (tCons (tCB (rSorted K) (tCons (tLc (iTup K (tVar 13)) (gName 14) tYes (tOp (rI0 fun i j => .int (i + j)) (tC (.int 1)) (tOp (rI (fun _ j => 0 < j) fun i j => .int (i % j)) (tOp (rI0 fun i j => .int (i + j)) (tOp (rI0 fun i j => .int (i - j)) (tVar 14) (tC (.int 1))) (tVar 3)) (tVar 2))) [14]) tNil)) tNil)) (gName 15))
  (tSeq (tIfS (tTest (tOp (rNeD K) (tCall (sp_can_lie_round K) [] E0 (tCons (tVar 2) (tCons (tVar 5) (tCons (tVar 12) tNil)))) (tVar 15))) (tRet (tC (.bl false))) tNext)
  (tIfS (tTest (tOp (rNeD K) (tCall (sp_can_lie_round K) [] E0 (tCons (tVar 2) (tCons (tVar 7) (tCons (tVar 12) tNil)))) (tCB (rTupleOf K) (tCons (tLc (iTup K (tRevT K (tVar 13))) (gName 14) tYes (tOp (rI0 fun i j => .int (i - j)) (tOp (rI0 fun i j => .int (i + j)) (tVar 2) (tC (.int 1))) (tVar 14)) [14]) tNil)))) (tRet (tC (.bl false))) tNext)))))))) tNext))
  (tSeq (tIfS (tOr (tTest (tOp (rNeD K) (tVar 8) (tLst tNil))) (tOr (tTest (tOp rNe (tCall (sp_how_many_round K) [] E0 (tCons (tVar 2) (tCons (tVar 4) tNil))) (tVar 9))) (tTest (tOp rNe (tCall (sp_how_many_round K) [] E0 (tCons (tVar 2) (tCons (tVar 5) tNil))) (tVar 9))))) (tRet (tC (.bl false))) tNext)
  (tIfS (tTest (tOp (rI0 fun i j => .bl (decide (i < j))) (tCall (sp_how_many_round K) [] E0 (tCons (tVar 2) (tCons (tOp rCat (tVar 4) (tLst (tCons (tOp (rI0 fun i j => .int (i + j)) (tC (.int 1)) (tCall (sp__law_take K) [] E0 (tCons (tVar 1) (tCons (tVar 2) tNil)))) tNil))) tNil))) (tVar 9))) (tRet (tC (.bl false))) tNext)))))))))
  (tRet (tC (.bl true))))
theorem rgV_rng (a b : Int) : rgV a b = (rng a b).map V.int := by
  unfold rgV rng
  rw [List.map_map]
  rfl
theorem notInI {K : PySem.W.Frag} {H : Hp} {t : Int} {p : Addr} {ns : List Int} {Q : VK} (h : SqL K H p (ns.map V.int) ∨ SqT K H p (ns.map V.int)) (q : Q (.bl (!decide (t ∈ ns))) H) : rIn K true (.int t) (.ref p) H Q :=
  ⟨p, _, rfl, h, rfl, flat_ints _, by rw [if_pos rfl, in_ints]; exact q⟩
/-- the places whose rows are not yet told -/
def lft (l : Int) (st : List Int) (D : List (List Wo)) : List Int := (rng 1 (l + 1)).filter fun t => !decide (rwordsOf l t st ∈ D)
theorem mem_lft {l t : Int} {st : List Int} {D : List (List Wo)} : t ∈ lft l st D ↔ (1 ≤ t ∧ t ≤ l) ∧ rwordsOf l t st ∉ D := by
  unfold lft
  rw [List.mem_filter, mem_rng]
  by_cases h : rwordsOf l t st ∈ D
  · simp [h]
  · simp [h]
    omega
theorem lft_nil (l : Int) (st : List Int) : lft l st [] = rng 1 (l + 1) := by
  unfold lft
  exact List.filter_eq_self.mpr fun t _ => by simp
theorem lft_more (l : Int) (st : List Int) (D : List (List Wo)) (ws : List Wo) : (lft l st D).filter (fun t => !decide (t ∈ rlies l st ws)) = lft l st (D ++ [ws]) := by
  unfold lft
  rw [List.filter_filter]
  refine List.filter_congr fun t ht => ?_
  have h2 := mem_rng.mp ht
  by_cases h : rwordsOf l t st ∈ D
  · simp [h]
  · by_cases h3 : rwordsOf l t st = ws
    · have : t ∈ rlies l st ws := mem_rlies.mpr ⟨⟨h2.1, by omega⟩, h3⟩
      simp [h3, this]
    · have : t ∉ rlies l st ws := fun z => h3 (mem_rlies.mp z).2
      simp [h, h3, this]
theorem lft_len {l : Int} (hl : 0 ≤ l) (st : List Int) (D : List (List Wo)) : ((lft l st D).length : Int) ≤ l := by
  have : (lft l st D).length ≤ (rng 1 (l + 1)).length := List.length_filter_le _ _
  rw [rng_len] at this
  omega
theorem lft_less {l t : Int} {st : List Int} {D : List (List Wo)} (ht : t ∈ lft l st D) : (lft l st (D ++ [rwordsOf l t st])).length < (lft l st D).length := by
  rw [← lft_more]
  refine Nat.lt_of_le_of_ne (List.length_filter_le _ _) fun z => ?_
  have h := List.length_filter_eq_length_iff.mp z t ht
  have : t ∈ rlies l st (rwordsOf l t st) := mem_rlies.mpr ⟨(mem_lft.mp ht).1, rfl⟩
  simp [this] at h
def PRows (l : Int) (st : List Int) (D : List (List Wo)) : Prop := D.Nodup ∧ ∀ r ∈ D, ∃ t, (1 ≤ t ∧ t ≤ l) ∧ rwordsOf l t st = r
theorem PRows.more {l t : Int} {st : List Int} {D : List (List Wo)} (h : PRows l st D) (ht : t ∈ lft l st D) : PRows l st (D ++ [rwordsOf l t st]) := by
  obtain ⟨h1, h2⟩ := mem_lft.mp ht
  constructor
  · rw [List.nodup_append]
    refine ⟨h.1, by simp, fun x hx y hy e => ?_⟩
    rw [List.mem_singleton.mp hy] at e
    exact h2 (e ▸ hx)
  · intro r hr
    rcases List.mem_append.mp hr with z | z
    · exact h.2 r z
    · exact ⟨t, h1, (List.mem_singleton.mp z).symm⟩
theorem PRows.all {l : Int} {st : List Int} {D : List (List Wo)} (h : PRows l st D) (he : lft l st D = []) : RRows l st D := by
  refine ⟨h.1, fun r => ⟨h.2 r, ?_⟩⟩
  rintro ⟨t, ht, rfl⟩
  by_cases z : rwordsOf l t st ∈ D
  · exact z
  · have : t ∈ lft l st D := mem_lft.mpr ⟨ht, z⟩
    rw [he] at this
    cases this
theorem places_tn {l b : Int} {st : List Int} (hl : 1 ≤ l) : Places l (st.map (tn l b)) := fun n hn => by
  obtain ⟨p, _, rfl⟩ := List.mem_map.mp hn
  exact tn_range b p hl
theorem places_mirror {l : Int} {st : List Int} (h : Places l st) : Places l (st.map fun p => l + 1 - p) := fun n hn => by
  obtain ⟨p, hp, rfl⟩ := List.mem_map.mp hn
  have := h p hp
  omega
theorem pure_law {K : PySem.W.Frag} {vs : List V} {H : Hp} {Q : VK} {E : XK} (h : sp_law K vs H Q E) : t_law K { nx := fun _ H' => Q .non H', rt := Q } (start N_law vs) H := by
  obtain ⟨a, ns, rfl, hS, hlen, q⟩ := h
  refine ⟨_, rfl, a, ns, 8, rfl, hS, by decide, by decide, fun L H1 bs nL e1 hL hB nb => ?_⟩
  refine ⟨L, rfl, ⟨_, SqL.of hL⟩, ?_⟩
  have nLb : L ∉ bs := bags_list hB hL
  refine for_list (K := K) (a := L) (xs := bs.map V.ref) (fun i σ H' => ∃ x1 x2 x3 x4 x5 x6 x7 x8 x9 x10 x11 x12 x13 x14 x15 : Option V, σ = [some (.ref a), x1, x2, x3, x4, x5, x6, x7, x8, x9, x10, x11, x12, x13, x14, x15] ∧ Kp bs H1 H' ∧ Bags bs H')
    ⟨none, none, none, none, none, none, none, none, none, none, none, none, none, none, none, rfl, Kp.refl bs H1, hB⟩ (fun i σ H' _ ⟨_, _, _, _, _, _, _, _, _, _, _, _, _, _, _, _, k, _⟩ => SqL.of (k L _ nLb hL)) ?_ ?_
  · rintro i x σ H2 hx ⟨x1, x2, x3, x4, x5, x6, x7, x8, x9, x10, x11, x12, x13, x14, x15, rfl, k2, B2⟩
    obtain ⟨b, hb, rfl⟩ := ref_at hx
    refine ⟨_, rfl, bs, b, 60, rfl, hb, B2, by decide, fun l0 H3 hl0 hl1 k3 B3 => ⟨1, l0, rfl, rfl, ?_⟩⟩
    refine ⟨_, rfl, bs, b, 60, rfl, hb, B3, by decide, fun by' H4 hb0 hb1 k4 B4 => ?_⟩
    have hl1 : 1 ≤ 1 + l0 := by omega
    have hl60 : 1 + l0 ≤ 60 := by omega
    dsimp only
    generalize 1 + l0 = l at hl1 hl60 ⊢
    refine ⟨by show 2 ≤ sizeLine; decide, fun T nT => ?_⟩
    have e5 : Ex H4 (upd H4 T (.tup [.int l, .int by'])) := Ex.new nT
    refine ⟨T, _, rfl, SqT.of upd_same, rfl, _, _, rfl, _, [], rfl, rfl, ?_⟩
    have B5 := B4.ex e5
    have k15 : Kp bs H1 (upd H4 T (.tup [.int l, .int by'])) := ((k2.trans k3).trans k4).trans (Kp.ex e5)
    generalize upd H4 T (.tup [.int l, .int by']) = H5 at B5 k15 ⊢
    refine ⟨_, rfl, _, rfl, bs, b, l, 12, rfl, hb, B5, hl1, by decide, by decide, fun s H6 st ns6 k6 B6 hs6 hst hP => ?_⟩
    have hst40 : st.length ≤ 40 := by omega
    have nsb : s ∉ bs := B5.fresh ns6
    have hl0' : (0 : Int) < l := by omega
    have htu : Evl.EvL (tLc (iList K (tVar 4)) (gName 6) tYes (tOp (rI0 fun i j => .int (i + j)) (tC (.int 1)) (tOp (rI (fun _ j => 0 < j) fun i j => .int (i % j)) (tOp (rI0 fun i j => .int (i + j)) (tOp (rI0 fun i j => .int (i - j)) (tVar 6) (tC (.int 1))) (tVar 3)) (tVar 2))) [6])
        [some (.ref a), some (.ref b), some (.int l), some (.int by'), some (.ref s), x5, x6, x7, x8, x9, x10, x11, x12, x13, x14, x15] H6 (st.map fun p => V.int (tn l by' p)) :=
      el_map (K := K) (a := s) (fun p => V.int (tn l by' p)) (Evl.ev_var rfl) (SqL.of hs6) (by omega) (fun _ => rfl) fun p H7 _ hp => fun H8 _ Q8 q8 =>
        ⟨_, rfl, p, 1, rfl, rfl, _, rfl, p - 1, by', rfl, rfl, _, rfl, p - 1 + by', l, rfl, rfl, hl0', 1, (p - 1 + by') % l, rfl, rfl, q8 H8 (Ex.refl H8)⟩
    dsimp only [gName, tSeq, tAsg]
    refine htu H6 (Ex.refl H6) _ fun u H7 nu e7 hu => ?_
    have hu7 : H7 u = some (.lst ((st.map (tn l by')).map V.int)) := by
      rw [hu, List.map_map]
      rfl
    have hs7 := e7 _ _ hs6
    have nub : u ∉ bs := B6.fresh nu
    have B7 := B6.ex e7
    have hse : Evl.EvL (tLc (iList K (tVar 4)) (gName 6) tYes (tOp (rI0 fun i j => .int (i - j)) (tOp (rI0 fun i j => .int (i + j)) (tVar 2) (tC (.int 1))) (tVar 6)) [6])
        [some (.ref a), some (.ref b), some (.int l), some (.int by'), some (.ref s), some (.ref u), x6, x7, x8, x9, x10, x11, x12, x13, x14, x15] H7 (st.map fun p => V.int (l + 1 - p)) :=
      el_map (K := K) (a := s) (fun p => V.int (l + 1 - p)) (Evl.ev_var rfl) (SqL.of hs7) (by omega) (fun _ => rfl) fun p H8 _ hp => Evl.ev_op (Evl.ev_op (Evl.ev_var rfl) Evl.ev_c Evl.rv_I0) (Evl.ev_var rfl) Evl.rv_I0
    refine hse H7 (Ex.refl H7) _ fun v H8 nv e8 hv => ?_
    have hv8 : H8 v = some (.lst ((st.map fun p => l + 1 - p).map V.int)) := by
      rw [hv, List.map_map]
      rfl
    have hs8 := e8 _ _ hs7
    have hu8 := e8 _ _ hu7
    have nvb : v ∉ bs := B7.fresh nv
    have B8 := B7.ex e8
    have k18 : Kp bs H1 H8 := ((k15.trans k6).trans (Kp.ex e7)).trans (Kp.ex e8)
    refine ⟨_, rfl, l, 1, rfl, rfl, 1, l + 1, rfl, rfl, RgOk.of_le (by decide) (by omega) (by decide) (by omega), fun g ng => ?_⟩
    have e9 : Ex H8 (upd H8 g (.lst (rgV 1 (l + 1)))) := Ex.new ng
    refine ⟨by show 2 ≤ sizeLine; decide, fun T2 nT2 => ?_⟩
    have e10 : Ex _ (upd (upd H8 g (.lst (rgV 1 (l + 1)))) T2 (.tup [.ref g, .int 0])) := Ex.new nT2
    have hg10 : (upd (upd H8 g (.lst (rgV 1 (l + 1)))) T2 (.tup [.ref g, .int 0])) g = some (.lst ((lft l st []).map V.int)) := by
      rw [e10 _ _ upd_same, rgV_rng, lft_nil]
    refine ⟨T2, _, rfl, SqT.of upd_same, rfl, _, _, rfl, _, [], rfl, rfl, ?_⟩
    have e810 := e9.trans e10
    have ngb : g ∉ bs := B8.fresh ng
    generalize upd (upd H8 g (.lst (rgV 1 (l + 1)))) T2 (.tup [.ref g, .int 0]) = H10 at e810 hg10 ⊢
    refine ⟨_, rfl, l, rfl, by omega, by omega, ?_⟩
    refine for_range (lo := 0) (n := l.toNat) (fun i σ H' => ∃ (y10 y11 y12 y13 y14 y15 : Option V) (g : Addr) (D : List (List Wo)), σ = [some (.ref a), some (.ref b), some (.int l), some (.int by'), some (.ref s), some (.ref u), x6, some (.ref v), some (.ref g), some (.int (D.length : Nat)), y10, y11, y12, y13, y14, y15] ∧ Kp bs H1 H' ∧ Bags bs H' ∧
      H' s = some (.lst (st.map V.int)) ∧ H' u = some (.lst ((st.map (tn l by')).map V.int)) ∧ H' v = some (.lst ((st.map fun p => l + 1 - p).map V.int)) ∧ g ∉ bs ∧ H' g = some (.lst ((lft l st D).map V.int)) ∧ PRows l st D ∧ ((lft l st D).length : Int) + (i : Int) ≤ l)
      ⟨x10, x11, x12, x13, x14, x15, g, [], rfl, k18.trans (Kp.ex e810), B8.ex e810, e810 _ _ hs8, e810 _ _ hu8, e810 _ _ hv8, ngb, hg10, ⟨List.nodup_nil, fun r z => (nomatch z)⟩, by have := lft_len (by omega : 0 ≤ l) st []; omega⟩ ?_ ?_
    · clear hg10 ngb e810 e10 e9 nT2 ng hs8 hu8 hv8 B8 k18 hs7 hu7 B7
      rintro j σ H11 hj ⟨y10, y11, y12, y13, y14, y15, g, D, rfl, k11, B11, hs11, hu11, hv11, ngb, hg11, hD, hlen2⟩
      refine ⟨_, rfl, Nat.zero_le _, fun z nz => ?_⟩
      have e12 : Ex H11 (upd H11 z (.lst [])) := Ex.new nz
      refine neII (ns := lft l st D) (ms := []) (SqL.of (e12 _ _ hg11)) (SqL.of upd_same) ⟨_, rfl, ite2 (fun hne => ?_) (fun hne => ?_)⟩
      · have hne : lft l st D ≠ [] := fun z => by
          rw [z] at hne
          cases hne
        have B12 := B11.ex e12
        have k12 : Kp bs H1 (upd H11 z (.lst [])) := k11.trans (Kp.ex e12)
        have hs12 := e12 _ _ hs11
        have hu12 := e12 _ _ hu11
        have hv12 := e12 _ _ hv11
        have hg12 := e12 _ _ hg11
        generalize upd H11 z (.lst []) = H12 at B12 k12 hs12 hu12 hv12 hg12 ⊢
        have hpos : 0 < (lft l st D).length := List.length_pos_iff.mpr hne
        have el : (((lft l st D).map V.int).length : Int) = ((lft l st D).length : Int) := by rw [List.length_map]
        refine ⟨_, rfl, _, rfl, _, rfl, g, _, rfl, .inl (SqL.of hg12), bs, b, _, rfl, hb, B12, by omega, fun k H13 hk0 hk1 k13 B13 => ?_⟩
        have hs13 := k13 _ _ nsb hs12
        have hu13 := k13 _ _ nub hu12
        have hv13 := k13 _ _ nvb hv12
        have hg13 := k13 _ _ ngb hg12
        have hki : k.toNat < (lft l st D).length := by omega
        have htm : (lft l st D)[k.toNat] ∈ lft l st D := List.getElem_mem hki
        have hat : atI ((lft l st D).map V.int) k = some (.int (lft l st D)[k.toNat]) := at_of (j := k.toNat) (by omega) (by
          rw [List.getElem?_map, List.getElem?_eq_getElem hki]
          rfl)
        generalize (lft l st D)[k.toNat] = t at htm hat
        obtain ⟨htr, htn⟩ := mem_lft.mp htm
        refine ⟨g, _, k, .int t, rfl, rfl, SqL.of hg13, hat, ?_⟩
        refine ⟨_, rfl, _, rfl, _, rfl, l, t, s, st, rfl, htr, SqL.of hs13, by omega, hP, fun w H14 nw e14 hw => ?_⟩
        have hwl : (rwordsOf l t st).length = st.length - 1 := rwordsOf_len _ _ _
        have hs14 := e14 _ _ hs13
        refine ⟨_, rfl, _, rfl, _, rfl, l, s, w, st, rwordsOf l t st, rfl, hl1, hl60, hs14, hst40, hP, hw, hwl, fun m H15 nm e15 hm => ?_⟩
        have e1315 := e14.trans e15
        have hs15 := e1315 _ _ hs13
        have hu15 := e1315 _ _ hu13
        have hv15 := e1315 _ _ hv13
        have hg15 := e1315 _ _ hg13
        have hw15 := e15 _ _ hw
        have hin : t ∈ rlies l st (rwordsOf l t st) := mem_rlies.mpr ⟨htr, rfl⟩
        have hrl : (rlies l st (rwordsOf l t st)).length ≤ 60 := by
          have := rlies_len l st (rwordsOf l t st)
          omega
        refine ⟨_, rfl, _, rfl, notInI (ns := rlies l st (rwordsOf l t st)) (.inr (SqT.of hm)) ⟨_, rfl, ?_⟩⟩
        rw [decide_eq_true hin]
        refine iteF ?_
        have hc1 : Evl.EvL (tLc (iTup K (tVar 13)) (gName 14) (tTest (tOp (rIn K true) (tVar 14) (tVar 8))) (tC (.int 1)) [14])
            [some (.ref a), some (.ref b), some (.int l), some (.int by'), some (.ref s), some (.ref u), x6, some (.ref v), some (.ref g), some (.int (D.length : Nat)), some (.int (0 + (j : Int))), some (.int t), some (.ref w), some (.ref m), y14, y15] H15
            (((rlies l st (rwordsOf l t st)).filter fun x => !decide (x ∈ lft l st D)).map fun _ => V.int 1) :=
          el_tup (K := K) (a := m) (fun x => !decide (x ∈ lft l st D)) (fun _ => V.int 1) (Evl.ev_var rfl) (SqT.of hm) (by omega) (fun _ => rfl) (fun x H3 e3 _ => fun H4 e4 Q4 q4 => ⟨_, rfl, _, rfl, notInI (.inl (SqL.of ((e3.trans e4) _ _ hg15))) ⟨_, rfl, q4 H4 (Ex.refl H4)⟩⟩) (fun x H3 e3 _ _ => Evl.ev_c)
        dsimp only [tTest, tOp]
        refine hc1 H15 (Ex.refl H15) _ fun c1 H16 nc1 e16 hc1' => ?_
        have hsub : (rlies l st (rwordsOf l t st)).filter (fun x => !decide (x ∈ lft l st D)) = [] := by
          refine List.filter_eq_nil_iff.mpr fun x hx => ?_
          obtain ⟨r1, r2⟩ := mem_rlies.mp hx
          have : x ∈ lft l st D := mem_lft.mpr ⟨r1, by rw [r2]; exact htn⟩
          simp [this]
        rw [hsub] at hc1'
        refine ⟨Nat.zero_le _, fun z2 nz2 => ?_⟩
        have e17 : Ex H16 (upd H16 z2 (.lst [])) := Ex.new nz2
        refine neII (ns := []) (ms := []) (SqL.of (e17 _ _ hc1')) (SqL.of upd_same) ⟨_, rfl, ?_⟩
        rw [decide_eq_true rfl]
        refine iteF ?_
        have e1517 := e16.trans e17
        generalize upd H16 z2 (.lst []) = H17 at e1517 ⊢
        have hc2 : Evl.EvL (tLc (iList K (tVar 8)) (gName 14) (tTest (tOp (rIn K true) (tVar 14) (tVar 13))) (tVar 14) [14])
            [some (.ref a), some (.ref b), some (.int l), some (.int by'), some (.ref s), some (.ref u), x6, some (.ref v), some (.ref g), some (.int (D.length : Nat)), some (.int (0 + (j : Int))), some (.int t), some (.ref w), some (.ref m), y14, y15] H17
            (((lft l st D).filter fun x => !decide (x ∈ rlies l st (rwordsOf l t st))).map V.int) :=
          el_lst (K := K) (a := g) (fun x => !decide (x ∈ rlies l st (rwordsOf l t st))) V.int (Evl.ev_var rfl) (SqL.of (e1517 _ _ hg15)) (by omega) (fun _ => rfl) (fun x H3 e3 _ => fun H4 e4 Q4 q4 => ⟨_, rfl, _, rfl, notInI (.inr (SqT.of (((e1517.trans e3).trans e4) _ _ hm))) ⟨_, rfl, q4 H4 (Ex.refl H4)⟩⟩) (fun x H3 e3 _ _ => Evl.ev_var rfl)
        dsimp only [tNext, tSeq, tAsg, tTup, tCons]
        refine hc2 H17 (Ex.refl H17) _ fun g2 H18 ng2 e18 hg2 => ?_
        rw [lft_more] at hg2
        refine ⟨_, rfl, (D.length : Nat), 1, rfl, rfl, by show 2 ≤ sizeLine; decide, fun T3 nT3 => ?_⟩
        have e19 : Ex H18 (upd H18 T3 (.tup [.ref g2, .int ((D.length : Nat) + 1)])) := Ex.new nT3
        refine ⟨T3, _, rfl, SqT.of upd_same, rfl, _, _, rfl, _, [], rfl, rfl, ?_⟩
        have e1519 := (e1517.trans e18).trans e19
        have hg2' := e19 _ _ hg2
        have ng2b : g2 ∉ bs := ((B13.ex e1315).ex e1517).fresh ng2
        generalize upd H18 T3 (.tup [.ref g2, .int ((D.length : Nat) + 1)]) = H19 at e1519 hg2' ⊢
        have hm19 := e1519 _ _ hm
        have hc3 : Evl.EvL (tLc (iTup K (tVar 13)) (gName 14) tYes (tOp (rI0 fun i j => .int (i + j)) (tC (.int 1)) (tOp (rI (fun _ j => 0 < j) fun i j => .int (i % j)) (tOp (rI0 fun i j => .int (i + j)) (tOp (rI0 fun i j => .int (i - j)) (tVar 14) (tC (.int 1))) (tVar 3)) (tVar 2))) [14])
            [some (.ref a), some (.ref b), some (.int l), some (.int by'), some (.ref s), some (.ref u), x6, some (.ref v), some (.ref g2), some (.int ((D.length : Nat) + 1)), some (.int (0 + (j : Int))), some (.int t), some (.ref w), some (.ref m), y14, y15] H19
            (((rlies l st (rwordsOf l t st)).filter fun _ => true).map fun p => V.int (tn l by' p)) :=
          el_tup (K := K) (a := m) (fun _ => true) (fun p => V.int (tn l by' p)) (Evl.ev_var rfl) (SqT.of hm19) (by omega) (fun _ => rfl) (fun _ _ _ _ => yes_ev) (fun p H3 e3 _ _ => fun H8 _ Q8 q8 =>
            ⟨_, rfl, p, 1, rfl, rfl, _, rfl, p - 1, by', rfl, rfl, _, rfl, p - 1 + by', l, rfl, rfl, hl0', 1, (p - 1 + by') % l, rfl, rfl, q8 H8 (Ex.refl H8)⟩)
        dsimp only [tNext, tSeq, tAsg, tCB, tCons]
        refine hc3 H19 (Ex.refl H19) _ fun c3 H20 nc3 e20 hc3' => ?_
        have hc3'' : H20 c3 = some (.lst (((rlies l st (rwordsOf l t st)).map (tn l by')).map V.int)) := by
          rw [hc3', filter_yes, List.map_map]
          rfl
        refine ⟨c3, _, rfl, SqL.of hc3'', by rw [List.length_map]; omega, fun so q1 hperm hsort nq1 => ?_⟩
        have eso := rlies_sorted hP hperm hsort
        subst eso
        have e21 : Ex H20 (upd H20 q1 (.lst ((rlies l (st.map (tn l by')) (rwordsOf l t st)).map V.int))) := Ex.new nq1
        refine ⟨q1, _, rfl, .inl ⟨SqL.of upd_same, fun q2 nq2 => ?_⟩⟩
        have e22 : Ex _ (upd (upd H20 q1 (.lst ((rlies l (st.map (tn l by')) (rwordsOf l t st)).map V.int))) q2 (.tup ((rlies l (st.map (tn l by')) (rwordsOf l t st)).map V.int))) := Ex.new nq2
        have hq2 : (upd (upd H20 q1 (.lst ((rlies l (st.map (tn l by')) (rwordsOf l t st)).map V.int))) q2 (.tup ((rlies l (st.map (tn l by')) (rwordsOf l t st)).map V.int))) q2 = some (.tup ((rlies l (st.map (tn l by')) (rwordsOf l t st)).map V.int)) := upd_same
        have e1522 := ((e1519.trans e20).trans e21).trans e22
        have hg22 := e22 _ _ (e21 _ _ (e20 _ _ hg2'))
        generalize upd (upd H20 q1 (.lst ((rlies l (st.map (tn l by')) (rwordsOf l t st)).map V.int))) q2 (.tup ((rlies l (st.map (tn l by')) (rwordsOf l t st)).map V.int)) = H22 at e1522 hq2 hg22 ⊢
        refine ⟨_, rfl, _, rfl, _, rfl, l, u, w, st.map (tn l by'), rwordsOf l t st, rfl, hl1, hl60, e1522 _ _ hu15, by rw [List.length_map]; exact hst40, places_tn hl1, e1522 _ _ hw15, by rw [List.length_map]; exact hwl, fun v1 H23 nv1 e23 hv1 => ?_⟩
        refine ⟨_, rfl, neTT (SqT.of hv1) (SqT.of (e23 _ _ hq2)) ⟨_, rfl, ?_⟩⟩
        rw [decide_eq_true rfl]
        refine iteF ?_
        have e1523 := e1522.trans e23
        refine ⟨_, rfl, _, rfl, _, rfl, l, v, w, st.map fun p => l + 1 - p, rwordsOf l t st, rfl, hl1, hl60, e1523 _ _ hv15, by rw [List.length_map]; exact hst40, places_mirror hP, e1523 _ _ hw15, by rw [List.length_map]; exact hwl, fun v2 H24 nv2 e24 hv2 => ?_⟩
        have e1524 := e1523.trans e24
        have hm24 := e1524 _ _ hm
        have hrev : Evl.EvL (tLc (iTup K (tRevT K (tVar 13))) (gName 14) tYes (tOp (rI0 fun i j => .int (i - j)) (tOp (rI0 fun i j => .int (i + j)) (tVar 2) (tC (.int 1))) (tVar 14)) [14])
            [some (.ref a), some (.ref b), some (.int l), some (.int by'), some (.ref s), some (.ref u), x6, some (.ref v), some (.ref g2), some (.int ((D.length : Nat) + 1)), some (.int (0 + (j : Int))), some (.int t), some (.ref w), some (.ref m), y14, some (.ref q2)] H24
            (((rlies l st (rwordsOf l t st)).reverse.filter fun _ => true).map fun p => V.int (l + 1 - p)) := by
          refine el_tupU (K := K) (fun _ => true) (fun p => V.int (l + 1 - p)) (ns := (rlies l st (rwordsOf l t st)).reverse) ?_ (by rw [List.length_reverse]; omega) (fun _ => rfl) (fun _ _ _ _ => yes_ev) fun p H3 _ _ _ => Evl.ev_op (Evl.ev_op (Evl.ev_var rfl) Evl.ev_c Evl.rv_I0) (Evl.ev_var rfl) Evl.rv_I0
          intro H3 e3 Q3 q3
          refine ⟨_, rfl, m, _, rfl, SqT.of (e3 _ _ hm24), fun p np => q3 p _ np (Ex.new np) ?_⟩
          rw [upd_same, List.map_reverse]
        try dsimp only [tCB, tCons]
        refine hrev H24 (Ex.refl H24) _ fun c4 H25 nc4 e25 hc4 => ?_
        have hc4' : H25 c4 = some (.lst ((rlies l (st.map fun p => l + 1 - p) (rwordsOf l t st)).map V.int)) := by
          rw [hc4, filter_yes, rlies_mirror, List.map_map]
          rfl
        refine ⟨c4, _, rfl, .inl ⟨SqL.of hc4', fun r nr => ?_⟩⟩
        have e26 : Ex H25 (upd H25 r (.tup ((rlies l (st.map fun p => l + 1 - p) (rwordsOf l t st)).map V.int))) := Ex.new nr
        refine neTT (SqT.of (e26 _ _ (e25 _ _ hv2))) (SqT.of upd_same) ⟨_, rfl, ?_⟩
        rw [decide_eq_true rfl]
        refine iteF ?_
        have e1526 := (e1524.trans e25).trans e26
        have e1326 := e1315.trans e1526
        refine ⟨some (.int (0 + (j : Int))), some (.int t), some (.ref w), some (.ref m), y14, some (.ref q2), g2, D ++ [rwordsOf l t st], ?_, (k12.trans k13).trans (Kp.ex e1326), B13.ex e1326, e1326 _ _ hs13, e1326 _ _ hu13, e1326 _ _ hv13, ng2b, ?_, hD.more htm, ?_⟩
        · rw [List.length_append]
          rfl
        · exact e26 _ _ (e25 _ _ (e24 _ _ (e23 _ _ hg22)))
        · have := lft_less htm
          omega
      · have he : lft l st D = [] := by
          by_cases z : lft l st D = []
          · exact z
          · rw [decide_eq_false z] at hne
            exact absurd rfl hne
        refine ⟨_, _, _, _, _, _, g, D, rfl, k11.trans (Kp.ex e12), B11.ex e12, e12 _ _ hs11, e12 _ _ hu11, e12 _ _ hv11, ngb, e12 _ _ hg11, hD, ?_⟩
        rw [he]
        show (0 : Int) + _ ≤ l
        omega
    · clear hg10 ngb e810 e10 e9 nT2 ng hs8 hu8 hv8 B8 k18 hs7 hu7 B7
      rintro σ H11 ⟨y10, y11, y12, y13, y14, y15, g, D, rfl, k11, B11, hs11, hu11, hv11, ngb, hg11, hD, hlen2⟩
      have he : lft l st D = [] := List.length_eq_zero_iff.mp (by omega)
      have hR := hD.all he
      rw [he] at hg11
      refine ⟨_, rfl, Nat.zero_le _, fun z nz => ?_⟩
      have e12 : Ex H11 (upd H11 z (.lst [])) := Ex.new nz
      refine neII (ns := []) (ms := []) (SqL.of (e12 _ _ hg11)) (SqL.of upd_same) ⟨_, rfl, ?_⟩
      rw [decide_eq_true rfl]
      refine iteF ?_
      generalize upd H11 z (.lst []) = H12 at e12 ⊢
      refine ⟨_, rfl, _, rfl, l, s, st, rfl, hl1, hl60, e12 _ _ hs11, hst40, hP, fun H13 D2 e13 hD2 => ?_⟩
      have e2 : V.int (D2.length : Nat) = V.int (D.length : Nat) := by rw [hD2.same hR]
      refine ⟨_, rfl, rfl, _, rfl, ?_⟩
      rw [decide_eq_true e2]
      refine iteF ?_
      have e1113 := e12.trans e13
      refine ⟨_, rfl, _, rfl, l, u, st.map (tn l by'), rfl, hl1, hl60, e1113 _ _ hu11, by rw [List.length_map]; exact hst40, places_tn hl1, fun H14 D3 e14 hD3 => ?_⟩
      have e3 : V.int (D3.length : Nat) = V.int (D.length : Nat) := by rw [hD3.same (rrows_turned hP hR)]
      refine ⟨_, rfl, rfl, _, rfl, ?_⟩
      rw [decide_eq_true e3]
      refine iteF ?_
      have e1114 := e1113.trans e14
      have B14 := B11.ex e1114
      have hs14 := e1114 _ _ hs11
      refine ⟨_, rfl, _, rfl, _, rfl, _, rfl, bs, b, l, rfl, hb, B14, by omega, fun k H15 hk0 hk1 k15' B15 => ⟨1, k, rfl, rfl, by show 1 ≤ sizeLine; decide, fun c nc => ?_⟩⟩
      have hs15 := k15' _ _ nsb hs14
      have e16 : Ex H15 (upd H15 c (.lst [.int (1 + k)])) := Ex.new nc
      refine ⟨s, c, _, _, rfl, rfl, e16 _ _ hs15, upd_same, ?_, fun d nd => ?_⟩
      · rw [List.length_map]
        exact Nat.le_of_lt (small1000 (by show st.length + 1 ≤ 1000; omega))
      have e17 : Ex _ (upd (upd H15 c (.lst [.int (1 + k)])) d (.lst (st.map V.int ++ [.int (1 + k)]))) := Ex.new nd
      have hd17 : (upd (upd H15 c (.lst [.int (1 + k)])) d (.lst (st.map V.int ++ [.int (1 + k)]))) d = some (.lst ((st ++ [1 + k]).map V.int)) := by
        rw [upd_same, List.map_append]
        rfl
      refine ⟨l, d, st ++ [1 + k], rfl, hl1, hl60, hd17, by rw [List.length_append]; show st.length + 1 ≤ 40; omega, ?_, fun H18 D4 e18 hD4 => ?_⟩
      · intro n hn
        rcases List.mem_append.mp hn with z | z
        · exact hP n z
        · rw [List.mem_singleton.mp z]
          omega
      have hle := rrows_more hR hD4
      refine ⟨_, rfl, _, _, rfl, rfl, _, rfl, ?_⟩
      have hlt : ¬ ((D4.length : Nat) : Int) < ((D.length : Nat) : Int) := by omega
      rw [decide_eq_false hlt]
      have e1518 := (e16.trans e17).trans e18
      exact iteF ⟨_, _, _, _, _, _, _, _, _, _, _, _, _, _, _, rfl, ((k11.trans (Kp.ex e1114)).trans k15').trans (Kp.ex e1518), B15.ex e1518⟩
  · rintro σ H2 ⟨x1, x2, x3, x4, x5, x6, x7, x8, x9, x10, x11, x12, x13, x14, x15, rfl, k2, B2⟩
    exact q _
theorem len_law {K : PySem.W.Frag} {vs : List V} {H : Hp} {Q : VK} {E : XK} (h : sp_law K vs H Q E) : vs.length = 1 := by
  obtain ⟨a, ns, rfl, _⟩ := h
  rfl
def topS (i : Nat) : Stmt := PySem.Challenge.pw_warmcold_k12_whole_rings_turned.main.body.getD i (.Pass ⟨0, 0, 0, 0⟩)
abbrev s_is_whole : Stmt := topS 9
theorem sc_is_whole : FnScope N_is_whole ["value"] (defScope s_is_whole) := ⟨rfl, rfl, rfl, by decide +kernel, rfl, by decide +kernel, by decide +kernel⟩
abbrev s_is_place : Stmt := topS 10
theorem sc_is_place : FnScope N_is_place ["value", "length"] (defScope s_is_place) := ⟨rfl, rfl, rfl, by decide +kernel, rfl, by decide +kernel, by decide +kernel⟩
abbrev s_is_word : Stmt := topS 11
theorem sc_is_word : FnScope N_is_word ["value"] (defScope s_is_word) := ⟨rfl, rfl, rfl, by decide +kernel, rfl, by decide +kernel, by decide +kernel⟩
abbrev s_check_length : Stmt := topS 12
theorem sc_check_length : FnScope N_check_length ["length"] (defScope s_check_length) := ⟨rfl, rfl, rfl, by decide +kernel, rfl, by decide +kernel, by decide +kernel⟩
abbrev s_check_stands : Stmt := topS 13
theorem sc_check_stands : FnScope N_check_stands ["stands", "length"] (defScope s_check_stands) := ⟨rfl, rfl, rfl, by decide +kernel, rfl, by decide +kernel, by decide +kernel⟩
abbrev s_check_answers : Stmt := topS 14
theorem sc_check_answers : FnScope N_check_answers ["answers", "stands"] (defScope s_check_answers) := ⟨rfl, rfl, rfl, by decide +kernel, rfl, by decide +kernel, by decide +kernel⟩
abbrev s_word_for : Stmt := topS 16
theorem sc_word_for : FnScope N_word_for ["before", "after"] (defScope s_word_for) := ⟨rfl, rfl, rfl, by decide +kernel, rfl, by decide +kernel, by decide +kernel⟩
abbrev s_far_round : Stmt := topS 18
theorem sc_far_round : FnScope N_far_round ["length", "one", "other"] (defScope s_far_round) := ⟨rfl, rfl, rfl, by decide +kernel, rfl, by decide +kernel, by decide +kernel⟩
abbrev s_row_round : Stmt := topS 19
theorem sc_row_round : FnScope N_row_round ["length", "thing", "stands"] (defScope s_row_round) := ⟨rfl, rfl, rfl, by decide +kernel, rfl, by decide +kernel, by decide +kernel⟩
abbrev s_can_lie_round : Stmt := topS 20
theorem sc_can_lie_round : FnScope N_can_lie_round ["length", "stands", "answers"] (defScope s_can_lie_round) := ⟨rfl, rfl, rfl, by decide +kernel, rfl, by decide +kernel, by decide +kernel⟩
abbrev s_how_many_round : Stmt := topS 21
theorem sc_how_many_round : FnScope N_how_many_round ["length", "stands"] (defScope s_how_many_round) := ⟨rfl, rfl, rfl, by decide +kernel, rfl, by decide +kernel, by decide +kernel⟩
abbrev s__law_cell_at : Stmt := topS 23
theorem sc__law_cell_at : FnScope N__law_cell_at ["script", "k"] (defScope s__law_cell_at) := ⟨rfl, rfl, rfl, by decide +kernel, rfl, by decide +kernel, by decide +kernel⟩
abbrev s__law_draws : Stmt := topS 24
theorem sc__law_draws : FnScope N__law_draws ["cell", "many", "size"] (defScope s__law_draws) := ⟨rfl, rfl, rfl, by decide +kernel, rfl, by decide +kernel, by decide +kernel⟩
abbrev s__law_bag : Stmt := topS 25
theorem sc__law_bag : FnScope N__law_bag ["script", "k"] (defScope s__law_bag) := ⟨rfl, rfl, rfl, by decide +kernel, rfl, by decide +kernel, by decide +kernel⟩
abbrev s__law_bags : Stmt := topS 26
theorem sc__law_bags : FnScope N__law_bags ["script", "limit"] (defScope s__law_bags) := ⟨rfl, rfl, rfl, by decide +kernel, rfl, by decide +kernel, by decide +kernel⟩
abbrev s__law_take : Stmt := topS 27
theorem sc__law_take : FnScope N__law_take ["bag", "many"] (defScope s__law_take) := ⟨rfl, rfl, rfl, by decide +kernel, rfl, by decide +kernel, by decide +kernel⟩
abbrev s__law_some_stands : Stmt := topS 28
theorem sc__law_some_stands : FnScope N__law_some_stands ["bag", "length", "most"] (defScope s__law_some_stands) := ⟨rfl, rfl, rfl, by decide +kernel, rfl, by decide +kernel, by decide +kernel⟩
abbrev s__law_word : Stmt := topS 29
theorem sc__law_word : FnScope N__law_word ["far", "near"] (defScope s__law_word) := ⟨rfl, rfl, rfl, by decide +kernel, rfl, by decide +kernel, by decide +kernel⟩
abbrev s__law_words_on : Stmt := topS 30
theorem sc__law_words_on : FnScope N__law_words_on ["length", "thing", "stands"] (defScope s__law_words_on) := ⟨rfl, rfl, rfl, by decide +kernel, rfl, by decide +kernel, by decide +kernel⟩
abbrev s_law : Stmt := topS 31
theorem sc_law : FnScope N_law ["script"] (defScope s_law) := ⟨rfl, rfl, rfl, by decide +kernel, rfl, by decide +kernel, by decide +kernel⟩
structure Wd (K : PySem.W.Frag) (mg : Str → Option Value) : Prop where
  z_abs : mg "abs" = none
  z_all : mg "all" = none
  z_bool : mg "bool" = none
  z_int : mg "int" = none
  z_isinstance : mg "isinstance" = none
  z_len : mg "len" = none
  z_list : mg "list" = none
  z_max : mg "max" = none
  z_min : mg "min" = none
  z_range : mg "range" = none
  z_set : mg "set" = none
  z_sorted : mg "sorted" = none
  z_str : mg "str" = none
  z_tuple : mg "tuple" = none
  z_zip : mg "zip" = none
  c_LONGEST_PATH : ∃ t, mg "LONGEST_PATH" = some (.int 60 t)
  c_MOST_STANDS : ∃ t, mg "MOST_STANDS" = some (.int 40 t)
  c_WORDS : mg "WORDS" = some (.ref (He.ga K "WORDS"))
  q_WORDS : ∀ H, SqT K H (He.ga K "WORDS") [.str "warm", .str "cold", .str "same"]
section
variable {P : Program} {w : World} {K : PySem.W.Frag} {mg : Str → Option Value} {base : Heap}
theorem ok_is_whole {f : Addr} {fd : FuncData} (F : FnP K "is_whole" s_is_whole f fd) (W : Wd K mg)  : FnOk P w K mg base CX0 1 f fd ["value"] (sp_is_whole K) := by
  refine F.ok sc_is_whole (fun vs H Q E h => len_is_whole h) (fun cdv A outer s H vs Q E hr h => ⟨t_is_whole K, PSs.nox ?_, pure_is_whole h⟩)
  exact (pss_one (ps_ret (pe_and (pe_callB call_isi (by rfl) W.z_isinstance bb_isinstance (pa_cons (pv 0) (pa_cons (pe_bltn (v := .ty "int") (by rfl) W.z_int bt_int rfl) pa_nil))) (pe_one (pe_not (pe_callB call_isi (by rfl) W.z_isinstance bb_isinstance (pa_cons (pv 0) (pa_cons (pe_bltn (v := .ty "bool") (by rfl) W.z_bool bt_bool rfl) pa_nil))))))))
theorem ok_is_place {f : Addr} {fd : FuncData} (F : FnP K "is_place" s_is_place f fd) (W : Wd K mg) (O_is_whole : Own P w K mg base 1 "is_whole" ["value"] (sp_is_whole K)) : FnOk P w K mg base CX0 2 f fd ["value", "length"] (sp_is_place K) := by
  refine F.ok sc_is_place (fun vs H Q E h => len_is_place h) (fun cdv A outer s H vs Q E hr h => ⟨t_is_place K, PSs.nox ?_, pure_is_place h⟩)
  exact (pss_one (ps_ret (pe_and (pe_callO O_is_whole hr (by first | decide | omega) (by rfl) (pa_cons (pv 0) pa_nil)) (pe_one (pe_chain op_le op_le pe_int (pv 0) (pv 1))))))
theorem ok_is_word {f : Addr} {fd : FuncData} (F : FnP K "is_word" s_is_word f fd) (W : Wd K mg)  : FnOk P w K mg base CX0 1 f fd ["value"] (sp_is_word K) := by
  refine F.ok sc_is_word (fun vs H Q E h => len_is_word h) (fun cdv A outer s H vs Q E hr h => ⟨t_is_word K, PSs.nox ?_, pure_is_word W.q_WORDS h⟩)
  exact (pss_one (ps_ret (pe_and (pe_callB call_isi (by rfl) W.z_isinstance bb_isinstance (pa_cons (pv 0) (pa_cons (pe_bltn (v := .ty "str") (by rfl) W.z_str bt_str rfl) pa_nil))) (pe_one (pe_cmpR op_in_seq (pv 0) (pe_glob (by rfl) W.c_WORDS rfl) rfl)))))
theorem ok_check_length {f : Addr} {fd : FuncData} (F : FnP K "check_length" s_check_length f fd) (W : Wd K mg) (O_is_place : Own P w K mg base 2 "is_place" ["value", "length"] (sp_is_place K)) : FnOk P w K mg base CX0 3 f fd ["length"] (sp_check_length K) := by
  refine F.ok sc_check_length (fun vs H Q E h => len_check_length h) (fun cdv A outer s H vs Q E hr h => ⟨t_check_length K, PSs.nox ?_, pure_check_length h⟩)
  exact (pss_one (ps_if (pt_not (pt_val (pe_callO O_is_place hr (by first | decide | omega) (by rfl) (pa_cons (pv 0) (pa_cons (pe_glob (by rfl) W.c_LONGEST_PATH.choose_spec ⟨_, rfl⟩) pa_nil))))) (pss_one ps_never) pss_nil))
theorem ok_check_stands {f : Addr} {fd : FuncData} (F : FnP K "check_stands" s_check_stands f fd) (W : Wd K mg) (O_is_place : Own P w K mg base 2 "is_place" ["value", "length"] (sp_is_place K)) : FnOk P w K mg base CX0 3 f fd ["stands", "length"] (sp_check_stands K) := by
  refine F.ok sc_check_stands (fun vs H Q E h => len_check_stands h) (fun cdv A outer s H vs Q E hr h => ⟨t_check_stands K, PSs.nox ?_, pure_check_stands h⟩)
  exact (pss_cons (ps_if (PW.pt (pw_or (pt_not (pt_val (pe_callB call_isi (by rfl) W.z_isinstance bb_isinstance (pa_cons (pv 0) (pa_cons (pe_bltn (v := .ty "list") (by rfl) W.z_list bt_list rfl) pa_nil))))) (pw_or1 (pt_cmpR op_gt (pe_callB call_len_seq (by rfl) W.z_len PySem.boot_len (pa_cons (pv 0) pa_nil)) (pe_glob (by rfl) W.c_MOST_STANDS.choose_spec ⟨_, rfl⟩) (nomark _))))) (pss_one ps_never) pss_nil)   (pss_one (ps_if (pt_not (pt_val (pe_callB (cr_all rfl) (by rfl) W.z_all bb_all (pa_cons (pe_lc (own := [("stand", 2)]) (g := (gName 2)) (tt := tYes) (by rfl) sc_check_stands.nd (pi_list (pv 0)) (blkOk_by (own := [("stand", 2)]) (N := N_check_stands) (sc := defScope s_check_stands) (by decide +kernel)) (fun _ _ _ _ _ => (pg_name (i := 2) sc_check_stands.nd rfl (Or.inl rfl))) (fun _ _ _ _ _ => pts_nil) (fun _ _ _ _ _ => (pe_callO O_is_place hr (by first | decide | omega) (by rfl) (pa_cons (pv 2) (pa_cons (pv 1) pa_nil))))) pa_nil)))) (pss_one ps_never) pss_nil)))
theorem ok_check_answers {f : Addr} {fd : FuncData} (F : FnP K "check_answers" s_check_answers f fd) (W : Wd K mg) (O_is_word : Own P w K mg base 1 "is_word" ["value"] (sp_is_word K)) : FnOk P w K mg base CX0 2 f fd ["answers", "stands"] (sp_check_answers K) := by
  refine F.ok sc_check_answers (fun vs H Q E h => len_check_answers h) (fun cdv A outer s H vs Q E hr h => ⟨t_check_answers K, PSs.nox ?_, pure_check_answers h⟩)
  exact (pss_cons (ps_set (i := 2) sc_check_answers.nd rfl (Or.inl rfl) (pe_callB (call_max2 rfl) (by rfl) W.z_max bb_max (pa_cons pe_int (pa_cons (pe_op op_sub (pe_callB call_len_seq (by rfl) W.z_len PySem.boot_len (pa_cons (pv 1) pa_nil)) pe_int) pa_nil))))   (pss_cons (ps_if (PW.pt (pw_or (pt_not (pt_val (pe_callB call_isi (by rfl) W.z_isinstance bb_isinstance (pa_cons (pv 0) (pa_cons (pe_bltn (v := .ty "list") (by rfl) W.z_list bt_list rfl) pa_nil))))) (pw_or1 (pt_cmpR op_ne (pe_callB call_len_seq (by rfl) W.z_len PySem.boot_len (pa_cons (pv 0) pa_nil)) (pv 2) (nomark _))))) (pss_one ps_never) pss_nil)   (pss_one (ps_if (pt_not (pt_val (pe_callB (cr_all rfl) (by rfl) W.z_all bb_all (pa_cons (pe_lc (own := [("answer", 3)]) (g := (gName 3)) (tt := tYes) (by rfl) sc_check_answers.nd (pi_list (pv 0)) (blkOk_by (own := [("answer", 3)]) (N := N_check_answers) (sc := defScope s_check_answers) (by decide +kernel)) (fun _ _ _ _ _ => (pg_name (i := 3) sc_check_answers.nd rfl (Or.inl rfl))) (fun _ _ _ _ _ => pts_nil) (fun _ _ _ _ _ => (pe_callO O_is_word hr (by first | decide | omega) (by rfl) (pa_cons (pv 3) pa_nil)))) pa_nil)))) (pss_one ps_never) pss_nil))))
theorem ok_word_for {f : Addr} {fd : FuncData} (F : FnP K "word_for" s_word_for f fd) (W : Wd K mg)  : FnOk P w K mg base CX0 1 f fd ["before", "after"] (sp_word_for K) := by
  refine F.ok sc_word_for (fun vs H Q E h => len_word_for h) (fun cdv A outer s H vs Q E hr h => ⟨t_word_for K, PSs.nox ?_, pure_word_for h⟩)
  exact (pss_cons (ps_if (pt_cmpR op_lt (pv 1) (pv 0) (nomark _)) (pss_one (ps_ret pe_str)) pss_nil)   (pss_cons (ps_if (pt_cmpR op_gt (pv 1) (pv 0) (nomark _)) (pss_one (ps_ret pe_str)) pss_nil)   (pss_one (ps_ret pe_str))))
theorem ok_far_round {f : Addr} {fd : FuncData} (F : FnP K "far_round" s_far_round f fd) (W : Wd K mg)  : FnOk P w K mg base CX0 1 f fd ["length", "one", "other"] (sp_far_round K) := by
  refine F.ok sc_far_round (fun vs H Q E h => len_far_round h) (fun cdv A outer s H vs Q E hr h => ⟨t_far_round K, PSs.nox ?_, pure_far_round h⟩)
  exact (pss_cons (ps_set (i := 3) sc_far_round.nd rfl (Or.inl rfl) (pe_callB call_abs (by rfl) W.z_abs bb_abs (pa_cons (pe_op op_sub (pv 1) (pv 2)) pa_nil)))   (pss_one (ps_ret (pe_callB (call_min2 rfl) (by rfl) W.z_min bb_min (pa_cons (pv 3) (pa_cons (pe_op op_sub (pv 0) (pv 3)) pa_nil))))))
theorem ok_row_round {f : Addr} {fd : FuncData} (F : FnP K "row_round" s_row_round f fd) (W : Wd K mg) (O_far_round : Own P w K mg base 1 "far_round" ["length", "one", "other"] (sp_far_round K)) (O_word_for : Own P w K mg base 1 "word_for" ["before", "after"] (sp_word_for K)) : FnOk P w K mg base CX0 2 f fd ["length", "thing", "stands"] (sp_row_round K) := by
  refine F.ok sc_row_round (fun vs H Q E h => len_row_round h) (fun cdv A outer s H vs Q E hr h => ⟨t_row_round K, PSs.nox ?_, pure_row_round h⟩)
  exact (pss_cons (ps_setLc (i := 3) (own := [("stand", 4)]) (g := (gName 4)) (tt := tYes) (by rfl) sc_row_round.nd rfl rfl (sw_true rfl rfl rfl (by decide +kernel)) (pi_list (pv 2)) (blkOk_by (own := [("stand", 4)]) (N := N_row_round) (sc := defScope s_row_round) (by decide +kernel)) (fun _ _ _ _ _ => (pg_name (i := 4) sc_row_round.nd rfl (Or.inl rfl))) (fun _ _ _ _ _ => pts_nil) (fun _ _ _ _ _ => (pe_callO O_far_round hr (by first | decide | omega) (by rfl) (pa_cons (pv 0) (pa_cons (pv 1) (pa_cons (pv 4) pa_nil))))))   (pss_one (ps_ret (pe_lc (own := [("before", 5), ("after", 6)]) (g := (gTup K 2 (gCons (gName 5) (gCons (gName 6) gNil)))) (tt := tYes) (by rfl) sc_row_round.nd (pi_zip (by rfl) W.z_zip (pa_cons (pv 3) (pa_cons (pe_slice sl_list (pv 3) (po_some pe_int) po_none) pa_nil))) (blkOk_by (own := [("before", 5), ("after", 6)]) (N := N_row_round) (sc := defScope s_row_round) (by decide +kernel)) (fun _ _ _ _ _ => (pg_tup rfl (pgs_cons (pg_name (i := 5) sc_row_round.nd rfl (Or.inl rfl)) (pgs_cons (pg_name (i := 6) sc_row_round.nd rfl (Or.inl rfl)) pgs_nil)))) (fun _ _ _ _ _ => pts_nil) (fun _ _ _ _ _ => (pe_callO O_word_for hr (by first | decide | omega) (by rfl) (pa_cons (pv 5) (pa_cons (pv 6) pa_nil))))))))
theorem ok_can_lie_round {f : Addr} {fd : FuncData} (F : FnP K "can_lie_round" s_can_lie_round f fd) (W : Wd K mg) (O_check_length : Own P w K mg base 3 "check_length" ["length"] (sp_check_length K)) (O_check_stands : Own P w K mg base 3 "check_stands" ["stands", "length"] (sp_check_stands K)) (O_check_answers : Own P w K mg base 2 "check_answers" ["answers", "stands"] (sp_check_answers K)) (O_row_round : Own P w K mg base 2 "row_round" ["length", "thing", "stands"] (sp_row_round K)) : FnOk P w K mg base CX0 4 f fd ["length", "stands", "answers"] (sp_can_lie_round K) := by
  refine F.ok sc_can_lie_round (fun vs H Q E h => len_can_lie_round h) (fun cdv A outer s H vs Q E hr h => ⟨t_can_lie_round K, PSs.nox ?_, pure_can_lie_round h⟩)
  exact (pss_cons (ps_expr (pe_callO O_check_length hr (by first | decide | omega) (by rfl) (pa_cons (pv 0) pa_nil)))   (pss_cons (ps_expr (pe_callO O_check_stands hr (by first | decide | omega) (by rfl) (pa_cons (pv 1) (pa_cons (pv 0) pa_nil))))   (pss_cons (ps_expr (pe_callO O_check_answers hr (by first | decide | omega) (by rfl) (pa_cons (pv 2) (pa_cons (pv 1) pa_nil))))   (pss_one (ps_ret (pe_callTy call_tuple_of (by rfl) W.z_tuple bt_tuple (pa_cons (pe_lc (own := [("place", 3)]) (g := (gName 3)) (tt := (tTest (tOp (rEqD K) (tCall (sp_row_round K) [] E0 (tCons (tVar 0) (tCons (tVar 3) (tCons (tVar 1) tNil)))) (tVar 2)))) (by rfl) sc_can_lie_round.nd (pi_range2 (by rfl) W.z_range (pa_cons pe_int (pa_cons (pe_op op_add (pv 0) pe_int) pa_nil))) (blkOk_by (own := [("place", 3)]) (N := N_can_lie_round) (sc := defScope s_can_lie_round) (by decide +kernel)) (fun _ _ _ _ _ => (pg_name (i := 3) sc_can_lie_round.nd rfl (Or.inl rfl))) (fun _ _ _ _ _ => (pts_one (pt_cmpR (op_eqD hr.units) (pe_callO O_row_round hr (by first | decide | omega) (by rfl) (pa_cons (pv 0) (pa_cons (pv 3) (pa_cons (pv 1) pa_nil)))) (pv 2) (nomark _)))) (fun _ _ _ _ _ => (pv 3))) pa_nil)))))))
theorem ok_how_many_round {f : Addr} {fd : FuncData} (F : FnP K "how_many_round" s_how_many_round f fd) (W : Wd K mg) (O_check_length : Own P w K mg base 3 "check_length" ["length"] (sp_check_length K)) (O_check_stands : Own P w K mg base 3 "check_stands" ["stands", "length"] (sp_check_stands K)) (O_row_round : Own P w K mg base 2 "row_round" ["length", "thing", "stands"] (sp_row_round K)) : FnOk P w K mg base CX0 4 f fd ["length", "stands"] (sp_how_many_round K) := by
  refine F.ok sc_how_many_round (fun vs H Q E h => len_how_many_round h) (fun cdv A outer s H vs Q E hr h => ⟨t_how_many_round K, PSs.nox ?_, pure_how_many_round h⟩)
  exact (pss_cons (ps_expr (pe_callO O_check_length hr (by first | decide | omega) (by rfl) (pa_cons (pv 0) pa_nil)))   (pss_cons (ps_expr (pe_callO O_check_stands hr (by first | decide | omega) (by rfl) (pa_cons (pv 1) (pa_cons (pv 0) pa_nil))))   (pss_cons (ps_setLc (i := 2) (own := [("place", 3)]) (g := (gName 3)) (tt := tYes) (by rfl) sc_how_many_round.nd rfl rfl (sw_true rfl rfl rfl (by decide +kernel)) (pi_range2 (by rfl) W.z_range (pa_cons pe_int (pa_cons (pe_op op_add (pv 0) pe_int) pa_nil))) (blkOk_by (own := [("place", 3)]) (N := N_how_many_round) (sc := defScope s_how_many_round) (by decide +kernel)) (fun _ _ _ _ _ => (pg_name (i := 3) sc_how_many_round.nd rfl (Or.inl rfl))) (fun _ _ _ _ _ => pts_nil) (fun _ _ _ _ _ => (pe_callTy call_tuple_of (by rfl) W.z_tuple bt_tuple (pa_cons (pe_callO O_row_round hr (by first | decide | omega) (by rfl) (pa_cons (pv 0) (pa_cons (pv 3) (pa_cons (pv 1) pa_nil)))) pa_nil))))   (pss_one (ps_ret (pe_lenSetW (by rfl) hr.units (by rfl) W.z_len (by rfl) W.z_set (pv 2)))))))
theorem ok__law_cell_at {f : Addr} {fd : FuncData} (F : FnP K "_law_cell_at" s__law_cell_at f fd) (W : Wd K mg)  : FnOk P w K mg base CX0 1 f fd ["script", "k"] (sp__law_cell_at K) := by
  refine F.ok sc__law_cell_at (fun vs H Q E h => len__law_cell_at h) (fun cdv A outer s H vs Q E hr h => ⟨t__law_cell_at K, PSs.nox ?_, pure__law_cell_at h⟩)
  exact (pss_cons (ps_if (pt_cmpR op_lt (pv 1) (pe_callB call_len_seq (by rfl) W.z_len PySem.boot_len (pa_cons (pv 0) pa_nil)) (nomark _)) (pss_one (ps_ret (pe_ix ix_list (pv 0) (pv 1) (fun _ _ => rfl)))) pss_nil)   (pss_one (ps_ret pe_int)))
theorem ok__law_draws {f : Addr} {fd : FuncData} (F : FnP K "_law_draws" s__law_draws f fd) (W : Wd K mg)  : FnOk P w K mg base CX0 1 f fd ["cell", "many", "size"] (sp__law_draws K) := by
  refine F.ok sc__law_draws (fun vs H Q E h => len__law_draws h) (fun cdv A outer s H vs Q E hr h => ⟨t__law_draws K, PSs.nox ?_, pure__law_draws h⟩)
  exact (pss_cons (ps_set (i := 3) sc__law_draws.nd rfl (Or.inl rfl) (pe_lst pa_nil))   (pss_cons (ps_set (i := 4) sc__law_draws.nd rfl (Or.inl rfl) (pe_op op_mul (pv 0) (pe_callTy call_int1 (by rfl) W.z_int bt_int (pa_cons (pe_cmpR op_ge (pv 0) (pe_op op_pow pe_int pe_int) (nomark _)) pa_nil))))   (pss_cons (ps_set (i := 5) sc__law_draws.nd rfl (Or.inl rfl) (pe_op op_mod (pv 0) pe_int))   (pss_cons (ps_for PassesOwn.never rfl (pi_range1 (by rfl) W.z_range (pa_cons (pe_op op_add (pv 1) pe_int) pa_nil)) (pg_name (i := 6) sc__law_draws.nd rfl (Or.inl rfl)) (pss_cons (ps_set (i := 5) sc__law_draws.nd rfl (Or.inl rfl) (pe_op op_mod (pe_op op_add (pe_op op_add (pe_op op_add (pe_op op_mul (pv 5) (pv 5)) (pe_op op_mul pe_int (pv 5))) (pv 6)) pe_int) pe_int))   (pss_one (ps_if (PW.pt (pw_and (pt_cmpR op_gt (pv 6) pe_int (nomark _)) (pw_and1 (pt_cmpR op_gt (pv 4) pe_int (nomark _))))) (pss_cons (ps_expr (pe_bm PySem.F.plainAttrs_list PySem.F.slot_list_append PySem.F.type_list_append mt_append (pv 3) (pa_cons (pe_op op_mod (pv 4) (pv 2)) pa_nil)))   (pss_one (ps_set (i := 4) sc__law_draws.nd rfl (Or.inl rfl) (pe_op op_fdiv (pv 4) (pv 2))))) (pss_one (ps_if (pt_cmpR op_gt (pv 6) pe_int (nomark _)) (pss_one (ps_expr (pe_bm PySem.F.plainAttrs_list PySem.F.slot_list_append PySem.F.type_list_append mt_append (pv 3) (pa_cons (pe_op op_mod (pe_op op_fdiv (pv 5) pe_int) (pv 2)) pa_nil)))) pss_nil))))))   (pss_one (ps_ret (pv 3)))))))
theorem ok__law_bag {f : Addr} {fd : FuncData} (F : FnP K "_law_bag" s__law_bag f fd) (W : Wd K mg) (O__law_draws : Own P w K mg base 1 "_law_draws" ["cell", "many", "size"] (sp__law_draws K)) (O__law_cell_at : Own P w K mg base 1 "_law_cell_at" ["script", "k"] (sp__law_cell_at K)) : FnOk P w K mg base CX0 2 f fd ["script", "k"] (sp__law_bag K) := by
  refine F.ok sc__law_bag (fun vs H Q E h => len__law_bag h) (fun cdv A outer s H vs Q E hr h => ⟨t__law_bag K, PSs.nox ?_, pure__law_bag h⟩)
  exact (pss_one (ps_ret (pe_lst (pa_cons (pe_callO O__law_draws hr (by first | decide | omega) (by rfl) (pa_cons (pe_callO O__law_cell_at hr (by first | decide | omega) (by rfl) (pa_cons (pv 0) (pa_cons (pv 1) pa_nil))) (pa_cons pe_int (pa_cons pe_int pa_nil)))) (pa_cons pe_int pa_nil)))))
theorem ok__law_bags {f : Addr} {fd : FuncData} (F : FnP K "_law_bags" s__law_bags f fd) (W : Wd K mg) (O__law_bag : Own P w K mg base 2 "_law_bag" ["script", "k"] (sp__law_bag K)) : FnOk P w K mg base CX0 3 f fd ["script", "limit"] (sp__law_bags K) := by
  refine F.ok sc__law_bags (fun vs H Q E h => len__law_bags h) (fun cdv A outer s H vs Q E hr h => ⟨t__law_bags K, PSs.nox ?_, pure__law_bags h⟩)
  exact (pss_one (ps_ret (pe_lc (own := [("k", 2)]) (g := (gName 2)) (tt := tYes) (by rfl) sc__law_bags.nd (pi_range1 (by rfl) W.z_range (pa_cons (pe_callB (call_max2 rfl) (by rfl) W.z_max bb_max (pa_cons pe_int (pa_cons (pe_callB (call_min2 rfl) (by rfl) W.z_min bb_min (pa_cons (pv 1) (pa_cons (pe_callB call_len_seq (by rfl) W.z_len PySem.boot_len (pa_cons (pv 0) pa_nil)) pa_nil))) pa_nil))) pa_nil)) (blkOk_by (own := [("k", 2)]) (N := N__law_bags) (sc := defScope s__law_bags) (by decide +kernel)) (fun _ _ _ _ _ => (pg_name (i := 2) sc__law_bags.nd rfl (Or.inl rfl))) (fun _ _ _ _ _ => pts_nil) (fun _ _ _ _ _ => (pe_callO O__law_bag hr (by first | decide | omega) (by rfl) (pa_cons (pv 0) (pa_cons (pv 2) pa_nil)))))))
theorem ok__law_take {f : Addr} {fd : FuncData} (F : FnP K "_law_take" s__law_take f fd) (W : Wd K mg)  : FnOk P w K mg base CX0 1 f fd ["bag", "many"] (sp__law_take K) := by
  refine F.ok sc__law_take (fun vs H Q E h => len__law_take h) (fun cdv A outer s H vs Q E hr h => ⟨t__law_take K, PSs.nox ?_, pure__law_take h⟩)
  exact (pss_cons (ps_asg (pe_op op_add (pe_ix ix_list (pv 0) pe_int (fun _ _ => rfl)) pe_int) (pg_sub (pv 0) pe_int set_list))   (pss_one (ps_ret (pe_op op_mod (pe_ix ix_list (pe_ix ix_list (pv 0) pe_int (fun _ _ => rfl)) (pe_op op_mod (pe_ix ix_list (pv 0) pe_int (fun _ _ => rfl)) (pe_callB call_len_seq (by rfl) W.z_len PySem.boot_len (pa_cons (pe_ix ix_list (pv 0) pe_int (fun _ _ => rfl)) pa_nil))) (fun _ _ => rfl)) (pv 1)))))
theorem ok__law_some_stands {f : Addr} {fd : FuncData} (F : FnP K "_law_some_stands" s__law_some_stands f fd) (W : Wd K mg) (O__law_take : Own P w K mg base 1 "_law_take" ["bag", "many"] (sp__law_take K)) : FnOk P w K mg base CX0 2 f fd ["bag", "length", "most"] (sp__law_some_stands K) := by
  refine F.ok sc__law_some_stands (fun vs H Q E h => len__law_some_stands h) (fun cdv A outer s H vs Q E hr h => ⟨t__law_some_stands K, PSs.nox ?_, pure__law_some_stands h⟩)
  exact (pss_cons (ps_set (i := 3) sc__law_some_stands.nd rfl (Or.inl rfl) (pe_lst pa_nil))   (pss_cons (ps_for PassesOwn.never rfl (pi_range1 (by rfl) W.z_range (pa_cons (pe_callO O__law_take hr (by first | decide | omega) (by rfl) (pa_cons (pv 0) (pa_cons (pe_op op_add (pv 2) pe_int) pa_nil))) pa_nil)) (pg_name (i := 4) sc__law_some_stands.nd rfl (Or.inl rfl)) (pss_cons (ps_set (i := 5) sc__law_some_stands.nd rfl (Or.inl rfl) (pe_op op_add pe_int (pe_callO O__law_take hr (by first | decide | omega) (by rfl) (pa_cons (pv 0) (pa_cons (pv 1) pa_nil)))))   (pss_cons (ps_if (PW.pt (pw_and (pt_cmpR (op_neD hr.units) (pv 3) (pe_lst pa_nil) (nomark _)) (pw_and1 (pt_cmpR op_eq (pe_callO O__law_take hr (by first | decide | omega) (by rfl) (pa_cons (pv 0) (pa_cons pe_int pa_nil))) pe_int (nomark _))))) (pss_one (ps_set (i := 5) sc__law_some_stands.nd rfl (Or.inl rfl) (pe_callB (call_max2 rfl) (by rfl) W.z_max bb_max (pa_cons pe_int (pa_cons (pe_callB (call_min2 rfl) (by rfl) W.z_min bb_min (pa_cons (pv 1) (pa_cons (pe_op op_sub (pe_op op_add (pe_ix ix_list (pv 3) (pe_un un_neg pe_int) (fun _ _ => rfl)) (pe_callO O__law_take hr (by first | decide | omega) (by rfl) (pa_cons (pv 0) (pa_cons pe_int pa_nil)))) pe_int) pa_nil))) pa_nil))))) pss_nil)   (pss_one (ps_expr (pe_bm PySem.F.plainAttrs_list PySem.F.slot_list_append PySem.F.type_list_append mt_append (pv 3) (pa_cons (pv 5) pa_nil)))))))   (pss_one (ps_ret (pv 3)))))
theorem ok__law_word {f : Addr} {fd : FuncData} (F : FnP K "_law_word" s__law_word f fd) (W : Wd K mg)  : FnOk P w K mg base CX0 1 f fd ["far", "near"] (sp__law_word K) := by
  refine F.ok sc__law_word (fun vs H Q E h => len__law_word h) (fun cdv A outer s H vs Q E hr h => ⟨t__law_word K, PSs.nox ?_, pure__law_word h⟩)
  exact (pss_cons (ps_if (pt_cmpR op_lt (pv 1) (pv 0) (nomark _)) (pss_one (ps_ret pe_str)) pss_nil)   (pss_one (ps_ret (pe_ifExp (pt_cmpR op_gt (pv 1) (pv 0) (nomark _)) pe_str pe_str))))
theorem ok__law_words_on {f : Addr} {fd : FuncData} (F : FnP K "_law_words_on" s__law_words_on f fd) (W : Wd K mg) (O__law_word : Own P w K mg base 1 "_law_word" ["far", "near"] (sp__law_word K)) : FnOk P w K mg base CX0 2 f fd ["length", "thing", "stands"] (sp__law_words_on K) := by
  refine F.ok sc__law_words_on (fun vs H Q E h => len__law_words_on h) (fun cdv A outer s H vs Q E hr h => ⟨t__law_words_on K, PSs.nox ?_, pure__law_words_on h⟩)
  exact (pss_cons (ps_set (i := 3) sc__law_words_on.nd rfl (Or.inr rfl) (pe_lc (own := [("place", 4)]) (g := (gName 4)) (tt := tYes) (by rfl) sc__law_words_on.nd (pi_list (pv 2)) (blkOk_by (own := [("place", 4)]) (N := N__law_words_on) (sc := defScope s__law_words_on) (by decide +kernel)) (fun _ _ _ _ _ => (pg_name (i := 4) sc__law_words_on.nd rfl (Or.inl rfl))) (fun _ _ _ _ _ => pts_nil) (fun _ _ _ _ _ => (pe_callB (call_min2 rfl) (by rfl) W.z_min bb_min (pa_cons (pe_op op_mod (pe_op op_sub (pv 1) (pv 4)) (pv 0)) (pa_cons (pe_op op_mod (pe_op op_sub (pv 4) (pv 1)) (pv 0)) pa_nil))))))   (pss_one (ps_ret (pe_lc (own := [("place", 4)]) (g := (gName 4)) (tt := tYes) (by rfl) sc__law_words_on.nd (pi_range2 (by rfl) W.z_range (pa_cons pe_int (pa_cons (pe_callB call_len_seq (by rfl) W.z_len PySem.boot_len (pa_cons (pv 3) pa_nil)) pa_nil))) (blkOk_by (own := [("place", 4)]) (N := N__law_words_on) (sc := defScope s__law_words_on) (by decide +kernel)) (fun _ _ _ _ _ => (pg_name (i := 4) sc__law_words_on.nd rfl (Or.inl rfl))) (fun _ _ _ _ _ => pts_nil) (fun _ _ _ _ _ => (pe_callO O__law_word hr (by first | decide | omega) (by rfl) (pa_cons (pe_ix ix_list (pv 3) (pe_op op_sub (pv 4) pe_int) (fun _ _ => rfl)) (pa_cons (pe_ix ix_list (pv 3) (pv 4) (fun _ _ => rfl)) pa_nil))))))))
theorem ok_law {f : Addr} {fd : FuncData} (F : FnP K "law" s_law f fd) (W : Wd K mg) (O__law_bags : Own P w K mg base 3 "_law_bags" ["script", "limit"] (sp__law_bags K)) (O__law_take : Own P w K mg base 1 "_law_take" ["bag", "many"] (sp__law_take K)) (O__law_some_stands : Own P w K mg base 2 "_law_some_stands" ["bag", "length", "most"] (sp__law_some_stands K)) (O__law_words_on : Own P w K mg base 2 "_law_words_on" ["length", "thing", "stands"] (sp__law_words_on K)) (O_can_lie_round : Own P w K mg base 4 "can_lie_round" ["length", "stands", "answers"] (sp_can_lie_round K)) (O_how_many_round : Own P w K mg base 4 "how_many_round" ["length", "stands"] (sp_how_many_round K)) : FnOk P w K mg base CX0 5 f fd ["script"] (sp_law K) := by
  refine F.ok sc_law (fun vs H Q E h => len_law h) (fun cdv A outer s H vs Q E hr h => ⟨t_law K, PSs.nox ?_, pure_law h⟩)
  exact (pss_cons (ps_for PassesOwn.never rfl (pi_list (pe_callO O__law_bags hr (by first | decide | omega) (by rfl) (pa_cons (pv 0) (pa_cons pe_int pa_nil)))) (pg_name (i := 1) sc_law.nd rfl (Or.inl rfl)) (pss_cons (ps_asg (pe_tup (pa_cons (pe_op op_add pe_int (pe_callO O__law_take hr (by first | decide | omega) (by rfl) (pa_cons (pv 1) (pa_cons pe_int pa_nil)))) (pa_cons (pe_callO O__law_take hr (by first | decide | omega) (by rfl) (pa_cons (pv 1) (pa_cons pe_int pa_nil))) pa_nil))) (pg_tup rfl (pgs_cons (pg_name (i := 2) sc_law.nd rfl (Or.inr rfl)) (pgs_cons (pg_name (i := 3) sc_law.nd rfl (Or.inr rfl)) pgs_nil))))   (pss_cons (ps_set (i := 4) sc_law.nd rfl (Or.inl rfl) (pe_callO O__law_some_stands hr (by first | decide | omega) (by rfl) (pa_cons (pv 1) (pa_cons (pv 2) (pa_cons pe_int pa_nil)))))   (pss_cons (ps_setLc (i := 5) (own := [("place", 6)]) (g := (gName 6)) (tt := tYes) (by rfl) sc_law.nd rfl rfl (sw_true rfl rfl rfl (by decide +kernel)) (pi_list (pv 4)) (blkOk_by (own := [("place", 6)]) (N := N_law) (sc := defScope s_law) (by decide +kernel)) (fun _ _ _ _ _ => (pg_name (i := 6) sc_law.nd rfl (Or.inl rfl))) (fun _ _ _ _ _ => pts_nil) (fun _ _ _ _ _ => (pe_op op_add pe_int (pe_op op_mod (pe_op op_add (pe_op op_sub (pv 6) pe_int) (pv 3)) (pv 2)))))   (pss_cons (ps_setLc (i := 7) (own := [("place", 6)]) (g := (gName 6)) (tt := tYes) (by rfl) sc_law.nd rfl rfl (sw_true rfl rfl rfl (by decide +kernel)) (pi_list (pv 4)) (blkOk_by (own := [("place", 6)]) (N := N_law) (sc := defScope s_law) (by decide +kernel)) (fun _ _ _ _ _ => (pg_name (i := 6) sc_law.nd rfl (Or.inl rfl))) (fun _ _ _ _ _ => pts_nil) (fun _ _ _ _ _ => (pe_op op_sub (pe_op op_add (pv 2) pe_int) (pv 6))))   (pss_cons (ps_asg (pe_tup (pa_cons (pe_listRg (by rfl) (by rfl) W.z_list (prg_2 (by rfl) W.z_range pe_int (pe_op op_add (pv 2) pe_int))) (pa_cons pe_int pa_nil))) (pg_tup rfl (pgs_cons (pg_name (i := 8) sc_law.nd rfl (Or.inr rfl)) (pgs_cons (pg_name (i := 9) sc_law.nd rfl (Or.inl rfl)) pgs_nil))))   (pss_cons (ps_for PassesOwn.never rfl (pi_range1 (by rfl) W.z_range (pa_cons (pv 2) pa_nil)) (pg_name (i := 10) sc_law.nd rfl (Or.inl rfl)) (pss_one (ps_if (pt_cmpR (op_neD hr.units) (pv 8) (pe_lst pa_nil) (nomark _)) (pss_cons (ps_set (i := 11) sc_law.nd rfl (Or.inl rfl) (pe_ix ix_list (pv 8) (pe_callO O__law_take hr (by first | decide | omega) (by rfl) (pa_cons (pv 1) (pa_cons (pe_callB call_len_seq (by rfl) W.z_len PySem.boot_len (pa_cons (pv 8) pa_nil)) pa_nil))) (fun _ _ => rfl)))   (pss_cons (ps_set (i := 12) sc_law.nd rfl (Or.inl rfl) (pe_callO O__law_words_on hr (by first | decide | omega) (by rfl) (pa_cons (pv 2) (pa_cons (pv 11) (pa_cons (pv 4) pa_nil)))))   (pss_cons (ps_set (i := 13) sc_law.nd rfl (Or.inr rfl) (pe_callO O_can_lie_round hr (by first | decide | omega) (by rfl) (pa_cons (pv 2) (pa_cons (pv 4) (pa_cons (pv 12) pa_nil)))))   (pss_cons (ps_if (PW.pt (pw_or (pt_cmpR op_notIn_seq (pv 11) (pv 13) rfl) (pw_or1 (pt_cmpR (op_neD hr.units) (pe_lc (own := [("one", 14)]) (g := (gName 14)) (tt := (tTest (tOp (rIn K true) (tVar 14) (tVar 8)))) (by rfl) sc_law.nd (pi_tup (pv 13)) (blkOk_by (own := [("one", 14)]) (N := N_law) (sc := defScope s_law) (by decide +kernel)) (fun _ _ _ _ _ => (pg_name (i := 14) sc_law.nd rfl (Or.inl rfl))) (fun _ _ _ _ _ => (pts_one (pt_cmpR op_notIn_seq (pv 14) (pv 8) rfl))) (fun _ _ _ _ _ => pe_int)) (pe_lst pa_nil) (nomark _))))) (pss_one (ps_ret pe_bl)) pss_nil)   (pss_cons (ps_asg (pe_tup (pa_cons (pe_lc (own := [("one", 14)]) (g := (gName 14)) (tt := (tTest (tOp (rIn K true) (tVar 14) (tVar 13)))) (by rfl) sc_law.nd (pi_list (pv 8)) (blkOk_by (own := [("one", 14)]) (N := N_law) (sc := defScope s_law) (by decide +kernel)) (fun _ _ _ _ _ => (pg_name (i := 14) sc_law.nd rfl (Or.inl rfl))) (fun _ _ _ _ _ => (pts_one (pt_cmpR op_notIn_seq (pv 14) (pv 13) rfl))) (fun _ _ _ _ _ => (pv 14))) (pa_cons (pe_op op_add (pv 9) pe_int) pa_nil))) (pg_tup rfl (pgs_cons (pg_name (i := 8) sc_law.nd rfl (Or.inr rfl)) (pgs_cons (pg_name (i := 9) sc_law.nd rfl (Or.inl rfl)) pgs_nil))))   (pss_cons (ps_set (i := 15) sc_law.nd rfl (Or.inl rfl) (pe_callTy call_tuple_of (by rfl) W.z_tuple bt_tuple (pa_cons (pe_callB cr_sorted (by rfl) W.z_sorted bb_sorted (pa_cons (pe_lc (own := [("one", 14)]) (g := (gName 14)) (tt := tYes) (by rfl) sc_law.nd (pi_tup (pv 13)) (blkOk_by (own := [("one", 14)]) (N := N_law) (sc := defScope s_law) (by decide +kernel)) (fun _ _ _ _ _ => (pg_name (i := 14) sc_law.nd rfl (Or.inl rfl))) (fun _ _ _ _ _ => pts_nil) (fun _ _ _ _ _ => (pe_op op_add pe_int (pe_op op_mod (pe_op op_add (pe_op op_sub (pv 14) pe_int) (pv 3)) (pv 2))))) pa_nil)) pa_nil)))   (pss_cons (ps_if (pt_cmpR (op_neD hr.units) (pe_callO O_can_lie_round hr (by first | decide | omega) (by rfl) (pa_cons (pv 2) (pa_cons (pv 5) (pa_cons (pv 12) pa_nil)))) (pv 15) (nomark _)) (pss_one (ps_ret pe_bl)) pss_nil)   (pss_one (ps_if (pt_cmpR (op_neD hr.units) (pe_callO O_can_lie_round hr (by first | decide | omega) (by rfl) (pa_cons (pv 2) (pa_cons (pv 7) (pa_cons (pv 12) pa_nil)))) (pe_callTy call_tuple_of (by rfl) W.z_tuple bt_tuple (pa_cons (pe_lc (own := [("one", 14)]) (g := (gName 14)) (tt := tYes) (by rfl) sc_law.nd (pi_tup (pe_revT (pv 13))) (blkOk_by (own := [("one", 14)]) (N := N_law) (sc := defScope s_law) (by decide +kernel)) (fun _ _ _ _ _ => (pg_name (i := 14) sc_law.nd rfl (Or.inl rfl))) (fun _ _ _ _ _ => pts_nil) (fun _ _ _ _ _ => (pe_op op_sub (pe_op op_add (pv 2) pe_int) (pv 14)))) pa_nil)) (nomark _)) (pss_one (ps_ret pe_bl)) pss_nil))))))))) pss_nil)))   (pss_cons (ps_if (PW.pt (pw_or (pt_cmpR (op_neD hr.units) (pv 8) (pe_lst pa_nil) (nomark _)) (pw_or (pt_cmpR op_ne (pe_callO O_how_many_round hr (by first | decide | omega) (by rfl) (pa_cons (pv 2) (pa_cons (pv 4) pa_nil))) (pv 9) (nomark _)) (pw_or1 (pt_cmpR op_ne (pe_callO O_how_many_round hr (by first | decide | omega) (by rfl) (pa_cons (pv 2) (pa_cons (pv 5) pa_nil))) (pv 9) (nomark _)))))) (pss_one (ps_ret pe_bl)) pss_nil)   (pss_one (ps_if (pt_cmpR op_lt (pe_callO O_how_many_round hr (by first | decide | omega) (by rfl) (pa_cons (pv 2) (pa_cons (pe_op op_cat (pv 4) (pe_lst (pa_cons (pe_op op_add pe_int (pe_callO O__law_take hr (by first | decide | omega) (by rfl) (pa_cons (pv 1) (pa_cons (pv 2) pa_nil)))) pa_nil))) pa_nil))) (pv 9) (nomark _)) (pss_one (ps_ret pe_bl)) pss_nil))))))))))   (pss_one (ps_ret pe_bl)))
end
def d_is_whole : He.DefD := ⟨("is_whole", none), "is_whole", "is_whole", defArgs s_is_whole, defBody s_is_whole, defScope s_is_whole, [], []⟩
def d_is_place : He.DefD := ⟨("is_place", none), "is_place", "is_place", defArgs s_is_place, defBody s_is_place, defScope s_is_place, [], []⟩
def d_is_word : He.DefD := ⟨("is_word", none), "is_word", "is_word", defArgs s_is_word, defBody s_is_word, defScope s_is_word, [], []⟩
def d_check_length : He.DefD := ⟨("check_length", none), "check_length", "check_length", defArgs s_check_length, defBody s_check_length, defScope s_check_length, [], []⟩
def d_check_stands : He.DefD := ⟨("check_stands", none), "check_stands", "check_stands", defArgs s_check_stands, defBody s_check_stands, defScope s_check_stands, [], []⟩
def d_check_answers : He.DefD := ⟨("check_answers", none), "check_answers", "check_answers", defArgs s_check_answers, defBody s_check_answers, defScope s_check_answers, [], []⟩
def d_word_for : He.DefD := ⟨("word_for", none), "word_for", "word_for", defArgs s_word_for, defBody s_word_for, defScope s_word_for, [], []⟩
def d_far_round : He.DefD := ⟨("far_round", none), "far_round", "far_round", defArgs s_far_round, defBody s_far_round, defScope s_far_round, [], []⟩
def d_row_round : He.DefD := ⟨("row_round", none), "row_round", "row_round", defArgs s_row_round, defBody s_row_round, defScope s_row_round, [], []⟩
def d_can_lie_round : He.DefD := ⟨("can_lie_round", none), "can_lie_round", "can_lie_round", defArgs s_can_lie_round, defBody s_can_lie_round, defScope s_can_lie_round, [], []⟩
def d_how_many_round : He.DefD := ⟨("how_many_round", none), "how_many_round", "how_many_round", defArgs s_how_many_round, defBody s_how_many_round, defScope s_how_many_round, [], []⟩
def d__law_cell_at : He.DefD := ⟨("_law_cell_at", none), "_law_cell_at", "_law_cell_at", defArgs s__law_cell_at, defBody s__law_cell_at, defScope s__law_cell_at, [], []⟩
def d__law_draws : He.DefD := ⟨("_law_draws", none), "_law_draws", "_law_draws", defArgs s__law_draws, defBody s__law_draws, defScope s__law_draws, [], []⟩
def d__law_bag : He.DefD := ⟨("_law_bag", none), "_law_bag", "_law_bag", defArgs s__law_bag, defBody s__law_bag, defScope s__law_bag, [], []⟩
def d__law_bags : He.DefD := ⟨("_law_bags", none), "_law_bags", "_law_bags", defArgs s__law_bags, defBody s__law_bags, defScope s__law_bags, [], []⟩
def d__law_take : He.DefD := ⟨("_law_take", none), "_law_take", "_law_take", defArgs s__law_take, defBody s__law_take, defScope s__law_take, [], []⟩
def d__law_some_stands : He.DefD := ⟨("_law_some_stands", none), "_law_some_stands", "_law_some_stands", defArgs s__law_some_stands, defBody s__law_some_stands, defScope s__law_some_stands, [], []⟩
def d__law_word : He.DefD := ⟨("_law_word", none), "_law_word", "_law_word", defArgs s__law_word, defBody s__law_word, defScope s__law_word, [], []⟩
def d__law_words_on : He.DefD := ⟨("_law_words_on", none), "_law_words_on", "_law_words_on", defArgs s__law_words_on, defBody s__law_words_on, defScope s__law_words_on, [], []⟩
def d_law : He.DefD := ⟨("law", none), "law", "law", defArgs s_law, defBody s_law, defScope s_law, [], []⟩
def fn : List He.DefD := [d_is_whole, d_is_place, d_is_word, d_check_length, d_check_stands, d_check_answers, d_word_for, d_far_round, d_row_round, d_can_lie_round, d_how_many_round, d__law_cell_at, d__law_draws, d__law_bag, d__law_bags, d__law_take, d__law_some_stands, d__law_word, d__law_words_on, d_law]
def fa : List He.Fa := [.glo "is_whole", .glo "is_place", .glo "is_word", .glo "check_length", .glo "check_stands", .glo "check_answers", .glo "word_for", .glo "far_round", .glo "row_round", .glo "can_lie_round", .glo "how_many_round", .glo "_law_cell_at", .glo "_law_draws", .glo "_law_bag", .glo "_law_bags", .glo "_law_take", .glo "_law_some_stands", .glo "_law_word", .glo "_law_words_on", .glo "law", .free "abs", .free "all", .free "bool", .free "int", .free "isinstance", .free "len", .free "list", .free "max", .free "min", .free "range", .free "set", .free "sorted", .free "str", .free "tuple", .free "zip", .int "LONGEST_PATH" 60, .int "MOST_STANDS" 40, .glo "WORDS"]
def loose : List PySem.Str := ["SeekError", "NoLength", "NoStands", "NoAnswers", "LONGEST_PATH", "MOST_STANDS", "WORDS", "is_whole", "is_place", "is_word", "check_length", "check_stands", "check_answers", "word_for", "far_round", "row_round", "can_lie_round", "how_many_round", "_law_cell_at", "_law_draws", "_law_bag", "_law_bags", "_law_take", "_law_some_stands", "_law_word", "_law_words_on"]
abbrev R : PySem.W.OpenRow := PySem.W.OpenLaw.row PySem.Challenge.rw_warmcold_k12_whole_rings_turned
def exB (K : PySem.W.Frag) : Bool := He.tupB K "WORDS" [.str "warm", .str "cold", .str "same"]
abbrev hk : PySem.W.Hook := hookY 4 fa fn exB
def ob (s : PySem.W.SharedT) : He.AlD × Bool := obsYG 4 fa fn exB (HandSHeadRun.getT s)
theorem ob_eq (s : PySem.W.SharedT) : ob s = hk.obs s.abs := obsYG_eq (HandSHeadRun.getT_eq s)
theorem run (w : World) : HandSHeadRun.RunEq R (PySem.W.view R.prog [31]) hk ob 4000 loose w := by
  intro os
  kernel_rfl
theorem facts {P : Program} {w : World} {K : PySem.W.Frag} {h : Heap} {mg : Str → Option Value} {f : Addr} (X : K.In h) (G : h.Ns mainGlobals mg) (hfa : mg ("law" : Str) = some (.ref f)) (c2 : SaysY fa fn exB K) :
    ∃ fd : FuncData, (∀ (s : Shared) (v : Value), BindsTo s fd ⟨[v], []⟩ [("script", v)]) ∧ ∀ base : Heap, K.In base → base.Ns mainGlobals mg → FnOk P w K mg base CX0 5 f fd ["script"] (sp_law K) := by
  have c := c2.1
  obtain ⟨fd_is_whole, F_is_whole⟩ := c.def_ 0 (d := d_is_whole) rfl
  obtain ⟨fd_is_place, F_is_place⟩ := c.def_ 1 (d := d_is_place) rfl
  obtain ⟨fd_is_word, F_is_word⟩ := c.def_ 2 (d := d_is_word) rfl
  obtain ⟨fd_check_length, F_check_length⟩ := c.def_ 3 (d := d_check_length) rfl
  obtain ⟨fd_check_stands, F_check_stands⟩ := c.def_ 4 (d := d_check_stands) rfl
  obtain ⟨fd_check_answers, F_check_answers⟩ := c.def_ 5 (d := d_check_answers) rfl
  obtain ⟨fd_word_for, F_word_for⟩ := c.def_ 6 (d := d_word_for) rfl
  obtain ⟨fd_far_round, F_far_round⟩ := c.def_ 7 (d := d_far_round) rfl
  obtain ⟨fd_row_round, F_row_round⟩ := c.def_ 8 (d := d_row_round) rfl
  obtain ⟨fd_can_lie_round, F_can_lie_round⟩ := c.def_ 9 (d := d_can_lie_round) rfl
  obtain ⟨fd_how_many_round, F_how_many_round⟩ := c.def_ 10 (d := d_how_many_round) rfl
  obtain ⟨fd__law_cell_at, F__law_cell_at⟩ := c.def_ 11 (d := d__law_cell_at) rfl
  obtain ⟨fd__law_draws, F__law_draws⟩ := c.def_ 12 (d := d__law_draws) rfl
  obtain ⟨fd__law_bag, F__law_bag⟩ := c.def_ 13 (d := d__law_bag) rfl
  obtain ⟨fd__law_bags, F__law_bags⟩ := c.def_ 14 (d := d__law_bags) rfl
  obtain ⟨fd__law_take, F__law_take⟩ := c.def_ 15 (d := d__law_take) rfl
  obtain ⟨fd__law_some_stands, F__law_some_stands⟩ := c.def_ 16 (d := d__law_some_stands) rfl
  obtain ⟨fd__law_word, F__law_word⟩ := c.def_ 17 (d := d__law_word) rfl
  obtain ⟨fd__law_words_on, F__law_words_on⟩ := c.def_ 18 (d := d__law_words_on) rfl
  obtain ⟨fd_law, F_law⟩ := c.def_ 19 (d := d_law) rfl
  have W : Wd K mg := {
    z_abs := He.free_ok X G (c.fact 20 (f := .free "abs") rfl)
    z_all := He.free_ok X G (c.fact 21 (f := .free "all") rfl)
    z_bool := He.free_ok X G (c.fact 22 (f := .free "bool") rfl)
    z_int := He.free_ok X G (c.fact 23 (f := .free "int") rfl)
    z_isinstance := He.free_ok X G (c.fact 24 (f := .free "isinstance") rfl)
    z_len := He.free_ok X G (c.fact 25 (f := .free "len") rfl)
    z_list := He.free_ok X G (c.fact 26 (f := .free "list") rfl)
    z_max := He.free_ok X G (c.fact 27 (f := .free "max") rfl)
    z_min := He.free_ok X G (c.fact 28 (f := .free "min") rfl)
    z_range := He.free_ok X G (c.fact 29 (f := .free "range") rfl)
    z_set := He.free_ok X G (c.fact 30 (f := .free "set") rfl)
    z_sorted := He.free_ok X G (c.fact 31 (f := .free "sorted") rfl)
    z_str := He.free_ok X G (c.fact 32 (f := .free "str") rfl)
    z_tuple := He.free_ok X G (c.fact 33 (f := .free "tuple") rfl)
    z_zip := He.free_ok X G (c.fact 34 (f := .free "zip") rfl)
    c_LONGEST_PATH := He.int_ok X G (c.fact 35 (f := .int "LONGEST_PATH" 60) rfl)
    c_MOST_STANDS := He.int_ok X G (c.fact 36 (f := .int "MOST_STANDS" 40) rfl)
    c_WORDS := He.glo_ok X G (c.fact 37 (f := .glo "WORDS") rfl)
    q_WORDS := fun H => He.tupB_ok (show He.tupB K "WORDS" _ = true from c2.2) H
  }
  have e := hfa.symm.trans (He.glo_ok X G (c.fact 19 (f := .glo "law") rfl))
  cases e
  have bL := FunD.bindsA (ps := ["script"]) F_law fun _ _ _ _ _ _ us hl => match us, hl with | [_], _ => rfl
  refine ⟨fd_law, fun s v => bL s [v] rfl, fun base _ _ => ?_⟩
  have O_is_whole : Own P w K mg base 1 "is_whole" ["value"] (sp_is_whole K) := ⟨_, fd_is_whole, ok_is_whole F_is_whole W , He.glo_ok X G (c.fact 0 (f := .glo "is_whole") rfl), F_is_whole.kp, FunD.bindsN F_is_whole fun _ _ _ _ _ _ us hl => match us, hl with | [_], _ => rfl⟩
  have O_is_place : Own P w K mg base 2 "is_place" ["value", "length"] (sp_is_place K) := ⟨_, fd_is_place, ok_is_place F_is_place W O_is_whole, He.glo_ok X G (c.fact 1 (f := .glo "is_place") rfl), F_is_place.kp, FunD.bindsN F_is_place fun _ _ _ _ _ _ us hl => match us, hl with | [_, _], _ => rfl⟩
  have O_is_word : Own P w K mg base 1 "is_word" ["value"] (sp_is_word K) := ⟨_, fd_is_word, ok_is_word F_is_word W , He.glo_ok X G (c.fact 2 (f := .glo "is_word") rfl), F_is_word.kp, FunD.bindsN F_is_word fun _ _ _ _ _ _ us hl => match us, hl with | [_], _ => rfl⟩
  have O_check_length : Own P w K mg base 3 "check_length" ["length"] (sp_check_length K) := ⟨_, fd_check_length, ok_check_length F_check_length W O_is_place, He.glo_ok X G (c.fact 3 (f := .glo "check_length") rfl), F_check_length.kp, FunD.bindsN F_check_length fun _ _ _ _ _ _ us hl => match us, hl with | [_], _ => rfl⟩
  have O_check_stands : Own P w K mg base 3 "check_stands" ["stands", "length"] (sp_check_stands K) := ⟨_, fd_check_stands, ok_check_stands F_check_stands W O_is_place, He.glo_ok X G (c.fact 4 (f := .glo "check_stands") rfl), F_check_stands.kp, FunD.bindsN F_check_stands fun _ _ _ _ _ _ us hl => match us, hl with | [_, _], _ => rfl⟩
  have O_check_answers : Own P w K mg base 2 "check_answers" ["answers", "stands"] (sp_check_answers K) := ⟨_, fd_check_answers, ok_check_answers F_check_answers W O_is_word, He.glo_ok X G (c.fact 5 (f := .glo "check_answers") rfl), F_check_answers.kp, FunD.bindsN F_check_answers fun _ _ _ _ _ _ us hl => match us, hl with | [_, _], _ => rfl⟩
  have O_word_for : Own P w K mg base 1 "word_for" ["before", "after"] (sp_word_for K) := ⟨_, fd_word_for, ok_word_for F_word_for W , He.glo_ok X G (c.fact 6 (f := .glo "word_for") rfl), F_word_for.kp, FunD.bindsN F_word_for fun _ _ _ _ _ _ us hl => match us, hl with | [_, _], _ => rfl⟩
  have O_far_round : Own P w K mg base 1 "far_round" ["length", "one", "other"] (sp_far_round K) := ⟨_, fd_far_round, ok_far_round F_far_round W , He.glo_ok X G (c.fact 7 (f := .glo "far_round") rfl), F_far_round.kp, FunD.bindsN F_far_round fun _ _ _ _ _ _ us hl => match us, hl with | [_, _, _], _ => rfl⟩
  have O_row_round : Own P w K mg base 2 "row_round" ["length", "thing", "stands"] (sp_row_round K) := ⟨_, fd_row_round, ok_row_round F_row_round W O_far_round O_word_for, He.glo_ok X G (c.fact 8 (f := .glo "row_round") rfl), F_row_round.kp, FunD.bindsN F_row_round fun _ _ _ _ _ _ us hl => match us, hl with | [_, _, _], _ => rfl⟩
  have O_can_lie_round : Own P w K mg base 4 "can_lie_round" ["length", "stands", "answers"] (sp_can_lie_round K) := ⟨_, fd_can_lie_round, ok_can_lie_round F_can_lie_round W O_check_length O_check_stands O_check_answers O_row_round, He.glo_ok X G (c.fact 9 (f := .glo "can_lie_round") rfl), F_can_lie_round.kp, FunD.bindsN F_can_lie_round fun _ _ _ _ _ _ us hl => match us, hl with | [_, _, _], _ => rfl⟩
  have O_how_many_round : Own P w K mg base 4 "how_many_round" ["length", "stands"] (sp_how_many_round K) := ⟨_, fd_how_many_round, ok_how_many_round F_how_many_round W O_check_length O_check_stands O_row_round, He.glo_ok X G (c.fact 10 (f := .glo "how_many_round") rfl), F_how_many_round.kp, FunD.bindsN F_how_many_round fun _ _ _ _ _ _ us hl => match us, hl with | [_, _], _ => rfl⟩
  have O__law_cell_at : Own P w K mg base 1 "_law_cell_at" ["script", "k"] (sp__law_cell_at K) := ⟨_, fd__law_cell_at, ok__law_cell_at F__law_cell_at W , He.glo_ok X G (c.fact 11 (f := .glo "_law_cell_at") rfl), F__law_cell_at.kp, FunD.bindsN F__law_cell_at fun _ _ _ _ _ _ us hl => match us, hl with | [_, _], _ => rfl⟩
  have O__law_draws : Own P w K mg base 1 "_law_draws" ["cell", "many", "size"] (sp__law_draws K) := ⟨_, fd__law_draws, ok__law_draws F__law_draws W , He.glo_ok X G (c.fact 12 (f := .glo "_law_draws") rfl), F__law_draws.kp, FunD.bindsN F__law_draws fun _ _ _ _ _ _ us hl => match us, hl with | [_, _, _], _ => rfl⟩
  have O__law_bag : Own P w K mg base 2 "_law_bag" ["script", "k"] (sp__law_bag K) := ⟨_, fd__law_bag, ok__law_bag F__law_bag W O__law_draws O__law_cell_at, He.glo_ok X G (c.fact 13 (f := .glo "_law_bag") rfl), F__law_bag.kp, FunD.bindsN F__law_bag fun _ _ _ _ _ _ us hl => match us, hl with | [_, _], _ => rfl⟩
  have O__law_bags : Own P w K mg base 3 "_law_bags" ["script", "limit"] (sp__law_bags K) := ⟨_, fd__law_bags, ok__law_bags F__law_bags W O__law_bag, He.glo_ok X G (c.fact 14 (f := .glo "_law_bags") rfl), F__law_bags.kp, FunD.bindsN F__law_bags fun _ _ _ _ _ _ us hl => match us, hl with | [_, _], _ => rfl⟩
  have O__law_take : Own P w K mg base 1 "_law_take" ["bag", "many"] (sp__law_take K) := ⟨_, fd__law_take, ok__law_take F__law_take W , He.glo_ok X G (c.fact 15 (f := .glo "_law_take") rfl), F__law_take.kp, FunD.bindsN F__law_take fun _ _ _ _ _ _ us hl => match us, hl with | [_, _], _ => rfl⟩
  have O__law_some_stands : Own P w K mg base 2 "_law_some_stands" ["bag", "length", "most"] (sp__law_some_stands K) := ⟨_, fd__law_some_stands, ok__law_some_stands F__law_some_stands W O__law_take, He.glo_ok X G (c.fact 16 (f := .glo "_law_some_stands") rfl), F__law_some_stands.kp, FunD.bindsN F__law_some_stands fun _ _ _ _ _ _ us hl => match us, hl with | [_, _, _], _ => rfl⟩
  have O__law_word : Own P w K mg base 1 "_law_word" ["far", "near"] (sp__law_word K) := ⟨_, fd__law_word, ok__law_word F__law_word W , He.glo_ok X G (c.fact 17 (f := .glo "_law_word") rfl), F__law_word.kp, FunD.bindsN F__law_word fun _ _ _ _ _ _ us hl => match us, hl with | [_, _], _ => rfl⟩
  have O__law_words_on : Own P w K mg base 2 "_law_words_on" ["length", "thing", "stands"] (sp__law_words_on K) := ⟨_, fd__law_words_on, ok__law_words_on F__law_words_on W O__law_word, He.glo_ok X G (c.fact 18 (f := .glo "_law_words_on") rfl), F__law_words_on.kp, FunD.bindsN F__law_words_on fun _ _ _ _ _ _ us hl => match us, hl with | [_, _, _], _ => rfl⟩
  exact ok_law F_law W O__law_bags O__law_take O__law_some_stands O__law_words_on O_can_lie_round O_how_many_round
end Wc
open PySem PySem.W PySem.Calls PyProof.Rows
set_option maxRecDepth 100000 in
set_option maxHeartbeats 0 in
theorem PySem.Challenge.cw_warmcold_k12_whole_rings_turned_holds : PySem.Challenge.rw_warmcold_k12_whole_rings_turned.Holds := by
  w_on; o_law
  refine HandSHeadRun.head_any (r := OpenLaw.row PySem.Challenge.rw_warmcold_k12_whole_rings_turned) (q := view (OpenLaw.row PySem.Challenge.rw_warmcold_k12_whole_rings_turned).prog [31]) (H := Wc.hk) (ob := Wc.ob) (M := 4000) (loose := Wc.loose) (d := HandSHeadRun.topDef (OpenLaw.row PySem.Challenge.rw_warmcold_k12_whole_rings_turned).prog 31) (kwd := []) Wc.ob_eq (by kernel_rfl) (fun s => by kernel_rfl) Wc.run (by kernel_rfl) (by kernel_rfl) (by kernel_rfl) (by rfl) (by first | assumption | decide +kernel) (by decide +kernel) ⟨rfl, rfl, rfl, rfl, rfl, by decide +kernel⟩ ?hw ?hc
  case hw => w_witness2
  case hc =>
    refine L2.walk_ofE (l := PySem.Challenge.rw_warmcold_k12_whole_rings_turned) (n := 63) (k := 5) (x := "script") (CX := L2.CX0) rfl (by decide) (by kernel_rfl) ⟨rfl, by decide, by decide⟩ ?F (fun _ _ _ _ z => z)
    intro w mg fa h Y G hmg0
    obtain ⟨K, KX, c⟩ := Y
    have hmg : mg ("law" : PySem.Str) = some (.ref fa) := by
      have e : (HandSHeadRun.topDef (OpenLaw.row PySem.Challenge.rw_warmcold_k12_whole_rings_turned).prog 31).name = ("law" : PySem.Str) := by kernel_rfl
      rw [← e]
      exact hmg0
    obtain ⟨fd, hb, hF⟩ := Wc.facts (P := (PySem.Challenge.rw_warmcold_k12_whole_rings_turned).prog) (w := w) KX G hmg c
    exact ⟨K, fd, Wc.sp_law K, KX, hb, fun H a ns hl _ hS => ⟨a, ns, rfl, hS, hl, fun _ => rfl⟩, hF⟩
