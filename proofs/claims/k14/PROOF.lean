import PyProof.Rows.All
import Wide.All
import OpenK.AllK
import Wide.FinOn
import KE.KStateDown
import HandS.ForMost
import HandS.Defaults
import HandS.IsInst
import HandS.Conv
import HandS.Style
import HandS.Evl
import HandS.Head0
import HandS.Head1
import HandS.Head2
import HandS.HeadEnd
import HandS.HeadHook1
import HandS.HeadHook2
import HandS.SlotsOwn
import HandS.WordsExc
import KE.KRevSl
import HandS.TupSets
import HandS.Deep
import HandS.TupAny
import KE.DatumOrd
import PyProof.Rows.RowBridgeK
import HandS.Walk
import KE.KeyNested
import PySem.Challenge.RW_warmcold_k14_whole_searches_by_told_plac
set_option Elab.async false
set_option linter.all false
set_option maxRecDepth 100000
set_option maxHeartbeats 2000000
namespace Wc
open PySem PySem.Spec PyProof.Rows L2
open Evl (Ex ex_l ex_t fresh_back)
/-! ### own defs by their promises -/
structure Own (P : Program) (w : World) (K : PySem.W.Frag) (mg : Str → Option Value) (base : Heap) (k : Nat) (x : Str) (ps : List Str) (sp : Sp) : Prop where
  ex : ∃ (f : Addr) (fd : FuncData), FnOk P w K mg base CX0 k f fd ps sp ∧ mg x = some (.ref f) ∧ PySem.W.keepIn K (.ref f) = true ∧ Binds K fd ps []
theorem pe_callO {X : Cx} {k k' : Nat} {x : Str} {ps : List Str} {sp : Sp} {p pos : Pos} {e : Expr} {es : List Expr} {t : TA}
    (O : Own X.prog X.w X.K X.mg X.base k x ps sp) (hr : Room k' X.A) (hk : k ≤ k') (hg : Gl X x) (ha : PA X (e :: es) t)
    (hdb : (x == ("__debug__" : Str)) = false := by decide) (he : starEach (e :: es) X.env = (false, eval e X.env) :: starEach es X.env := by rfl) (hpl : (backTo pos (starEach es X.env)).any (·.1) = false := by rfl) :
    PE X (.Call (.Name x p) (e :: es) [] pos) (tCall sp [] E0 t) := by
  obtain ⟨f, fd, F, hm, hkp, hb⟩ := O.ex
  exact pe_call F (hr.mono hk) hg hm hkp hb .nil pass0 ha hdb he hpl
theorem units65 {k : Nat} {A : Around} (hr : Room k A) : A.units + 65 < cLine := by
  have := hr.un
  omega
abbrev FnP (K : PySem.W.Frag) (x : Str) (st : Stmt) (f : Addr) (fd : FuncData) : Prop := FunD K x x (defArgs st) (defBody st) (defScope st) [] [] f fd
/-! ### the head's facts, with one Bool more -/
def obsY (fa : List He.Fa) (fn : List He.DefD) (ex : PySem.W.Frag → Bool) (K : PySem.W.Frag) : He.AlD × Bool := (He.obsD fa fn K, ex K)
def obsYG (n : Nat) (fa : List He.Fa) (fn : List He.DefD) (ex : PySem.W.Frag → Bool) (g : Addr → Option Obj) : He.AlD × Bool := obsY fa fn ex (He.frG g (He.asD g n))
def SaysY (fa : List He.Fa) (fn : List He.DefD) (ex : PySem.W.Frag → Bool) (K : PySem.W.Frag) : Prop := He.SaysD fa fn K ∧ ex K = true
def hookY (n : Nat) (fa : List He.Fa) (fn : List He.DefD) (ex : PySem.W.Frag → Bool) : PySem.W.Hook where
  α := He.AlD × Bool
  obs := fun s => obsYG n fa fn ex s.heap.get?
  val := fun _ => (He.valD fn, true)
  says := fun _ h => ∃ K : PySem.W.Frag, K.In h ∧ SaysY fa fn ex K
  of := fun _ _ e => ⟨_, He.frG_in, congrArg Prod.fst e, congrArg Prod.snd e⟩
  keeps := fun _ _ _ ⟨K, hK, c⟩ k => ⟨K, PySem.W.Frag.In.keeps hK k, c⟩
theorem obsYG_eq {n : Nat} {fa : List He.Fa} {fn : List He.DefD} {ex : PySem.W.Frag → Bool} {g : Addr → Option Obj} {s : Shared} (h : ∀ a, g a = s.heap.get? a) : obsYG n fa fn ex g = (hookY n fa fn ex).obs s := by
  have e : g = s.heap.get? := funext h
  rw [e]
  rfl
/-! ### built-ins -/
theorem bb_abs : bootBuiltins "abs" = some (.builtin "abs") := by decide +kernel
theorem bb_max : bootBuiltins "max" = some (.builtin "max") := by decide +kernel
theorem bb_min : bootBuiltins "min" = some (.builtin "min") := by decide +kernel
theorem bb_all : bootBuiltins "all" = some (.builtin "all") := by decide +kernel
theorem bb_sum : bootBuiltins "sum" = some (.builtin "sum") := by decide +kernel
theorem bb_sorted : bootBuiltins "sorted" = some (.builtin "sorted") := by decide +kernel
theorem bb_isinstance : bootBuiltins "isinstance" = some (.builtin "isinstance") := by decide +kernel
theorem bt_int : bootBuiltins "int" = some (.type "int") := by decide +kernel
theorem bt_bool : bootBuiltins "bool" = some (.type "bool") := by decide +kernel
theorem bt_str : bootBuiltins "str" = some (.type "str") := by decide +kernel
theorem bt_list : bootBuiltins "list" = some (.type "list") := by decide +kernel
theorem bt_tuple : bootBuiltins "tuple" = some (.type "tuple") := by decide +kernel
abbrev rAbs : List V → Hp → VK → Prop := fun xs H Q => ∃ i, xs = [.int i] ∧ Q (.int (if i < 0 then -i else i)) H
abbrev rMax2 : List V → Hp → VK → Prop := fun xs H Q => ∃ i j, xs = [.int i, .int j] ∧ Q (.int (if j > i then j else i)) H
abbrev rMin2 : List V → Hp → VK → Prop := fun xs H Q => ∃ i j, xs = [.int i, .int j] ∧ Q (.int (if j < i then j else i)) H
abbrev rInt1 : List V → Hp → VK → Prop := fun xs H Q => (∃ i, xs = [.int i] ∧ Q (.int i) H) ∨ ∃ k, xs = [.bl k] ∧ Q (.int (if k then 1 else 0)) H
abbrev rLenQ (K : PySem.W.Frag) : List V → Hp → VK → Prop := fun xs H Q => ∃ p ys, xs = [.ref p] ∧ (SqL K H p ys ∨ SqT K H p ys) ∧ Q (.int ys.length) H
abbrev rListOf (K : PySem.W.Frag) : List V → Hp → VK → Prop := fun xs H Q => ∃ p ys, xs = [.ref p] ∧ (SqL K H p ys ∨ SqT K H p ys) ∧ ∀ l, H l = none → Q (.ref l) (upd H l (.lst ys))
abbrev rTupleOf (K : PySem.W.Frag) : List V → Hp → VK → Prop := fun xs H Q => ∃ p ys, xs = [.ref p] ∧ ((SqL K H p ys ∧ ∀ l, H l = none → Q (.ref l) (upd H l (.tup ys))) ∨ (SqT K H p ys ∧ Q (.ref p) H))
/-! ### words -/
inductive Wo where
  | warm | cold | same
  deriving DecidableEq
def Wo.str : Wo → Str
  | .warm => "warm"
  | .cold => "cold"
  | .same => "same"
def vW (x : Wo) : V := .str x.str
theorem Wo.str_inj {x y : Wo} (h : x.str = y.str) : x = y := by
  revert h
  cases x <;> cases y <;> first | (intro _; rfl) | (intro h; exact absurd h (by decide +kernel))
theorem vW_inj {x y : Wo} (h : vW x = vW y) : x = y := Wo.str_inj (V.str.inj h)
def ab (i : Int) : Int := if i < 0 then -i else i
def word (far near : Int) : Wo := if near < far then .warm else if far < near then .cold else .same
def mv (t e l : Int) : Wo := word (ab (t - e)) (ab (t - l))
def wordsOf (t : Int) : List Int → List Wo
  | e :: l :: r => mv t e l :: wordsOf t (l :: r)
  | _ => []
theorem wordsOf_len (t : Int) : ∀ ns : List Int, (wordsOf t ns).length = ns.length - 1
  | [] => rfl
  | [_] => rfl
  | x :: y :: r => by
    show (wordsOf t (y :: r)).length + 1 = (y :: r).length + 1 - 1
    rw [wordsOf_len t (y :: r)]
    simp
theorem wordsOf_get (t : Int) : ∀ (ns : List Int) (i : Nat) (x y : Int), ns[i]? = some x → ns[i + 1]? = some y → (wordsOf t ns)[i]? = some (mv t x y)
  | [], _, _, _, h, _ => by simp at h
  | [_], 0, _, _, _, h => by simp at h
  | [_], i + 1, _, _, h, _ => by simp at h
  | a :: b :: r, 0, x, y, h, h2 => by
    have e1 : a = x := Option.some.inj h
    have e2 : b = y := Option.some.inj h2
    rw [← e1, ← e2]
    rfl
  | a :: b :: r, i + 1, x, y, h, h2 => wordsOf_get t (b :: r) i x y h h2
/-! ### data -/
theorem dpI {K : PySem.W.Frag} {H : Hp} : ∀ ns : List Int, DpAll K H (ns.map V.int) (ns.map PyData.int)
  | [] => .nil
  | n :: r => .cons (.int n) (dpI r)
theorem dpW {K : PySem.W.Frag} {H : Hp} : ∀ ws : List Wo, DpAll K H (ws.map vW) (ws.map fun x => PyData.str x.str)
  | [] => .nil
  | x :: r => .cons (.str x.str) (dpW r)
theorem shI : ∀ ns : List Int, PyData.canLayAll0 (ns.map PyData.int) = true ∧ PyData.depthAll (ns.map PyData.int) = 0
  | [] => ⟨rfl, rfl⟩
  | n :: r => by
    obtain ⟨h1, h2⟩ := shI r
    constructor
    · show (PyData.canLay0 (PyData.int n) && PyData.canLayAll0 (r.map PyData.int)) = true
      rw [h1] <;> rfl
    · show max (PyData.depth (PyData.int n)) (PyData.depthAll (r.map PyData.int)) = 0
      rw [h2] <;> rfl
theorem strOk_w (x : Wo) : PyData.canLay0 (PyData.str x.str) = true := by
  cases x <;> decide +kernel
theorem shW : ∀ ws : List Wo, PyData.canLayAll0 (ws.map fun x => PyData.str x.str) = true ∧ PyData.depthAll (ws.map fun x => PyData.str x.str) = 0
  | [] => ⟨rfl, rfl⟩
  | x :: r => by
    obtain ⟨h1, h2⟩ := shW r
    constructor
    · show (PyData.canLay0 (PyData.str x.str) && PyData.canLayAll0 (r.map fun x => PyData.str x.str)) = true
      rw [h1, strOk_w] <;> rfl
    · show max (PyData.depth (PyData.str x.str)) (PyData.depthAll (r.map fun x => PyData.str x.str)) = 0
      rw [h2] <;> rfl
theorem shaped_l {ds : List PyData} (h : PyData.canLayAll0 ds = true ∧ PyData.depthAll ds = 0) : SeqAt.shaped (.list ds) = true := by
  unfold SeqAt.shaped
  have e1 : PyData.canLay0 (.list ds) = true := h.1
  have e2 : PyData.depth (.list ds) = 1 := by
    show PyData.depthAll ds + 1 = 1
    rw [h.2]
  rw [e1, e2] <;> rfl
theorem shaped_t {ds : List PyData} (h : PyData.canLayAll0 ds = true ∧ PyData.depthAll ds = 0) : SeqAt.shaped (.tuple ds) = true := by
  unfold SeqAt.shaped
  have e1 : PyData.canLay0 (.tuple ds) = true := h.1
  have e2 : PyData.depth (.tuple ds) = 1 := by
    show PyData.depthAll ds + 1 = 1
    rw [h.2]
  rw [e1, e2] <;> rfl
theorem eqvI : ∀ ns ms : List Int, PyData.eqvAll (ns.map PyData.int) (ms.map PyData.int) = decide (ns = ms)
  | [], [] => rfl
  | [], _ :: _ => rfl
  | _ :: _, [] => rfl
  | n :: r, m :: q => by
    show (PyData.eqv (PyData.int n) (PyData.int m) && PyData.eqvAll (r.map PyData.int) (q.map PyData.int)) = _
    rw [eqvI r q]
    show ((n == m) && decide (r = q)) = _
    by_cases h1 : n = m <;> by_cases h2 : r = q <;> simp [h1, h2]
theorem eqvW : ∀ ns ms : List Wo, PyData.eqvAll (ns.map fun x => PyData.str x.str) (ms.map fun x => PyData.str x.str) = decide (ns = ms)
  | [], [] => rfl
  | [], _ :: _ => rfl
  | _ :: _, [] => rfl
  | n :: r, m :: q => by
    show (PyData.eqv (PyData.str n.str) (PyData.str m.str) && PyData.eqvAll (r.map fun x => PyData.str x.str) (q.map fun x => PyData.str x.str)) = _
    rw [eqvW r q]
    show ((n.str == m.str) && decide (r = q)) = _
    have e : (n.str == m.str) = decide (n = m) := by
      cases n <;> cases m <;> decide +kernel
    rw [e]
    by_cases h1 : n = m <;> by_cases h2 : r = q <;> simp [h1, h2]
/-- two lists of ints, of words, compared -/
theorem eqII {K : PySem.W.Frag} {H : Hp} {a b : Addr} {ns ms : List Int} {Q : VK} (h1 : SqL K H a (ns.map V.int)) (h2 : SqL K H b (ms.map V.int)) (q : Q (.bl (decide (ns = ms))) H) : rEqD K (.ref a) (.ref b) H Q := by
  refine ⟨_, _, .lst h1 (dpI ns), .lst h2 (dpI ms), shaped_l (shI ns), shaped_l (shI ms), ?_⟩
  show Q (.bl (PyData.eqvAll (ns.map PyData.int) (ms.map PyData.int))) H
  rw [eqvI]
  exact q
theorem neII {K : PySem.W.Frag} {H : Hp} {a b : Addr} {ns ms : List Int} {Q : VK} (h1 : SqL K H a (ns.map V.int)) (h2 : SqL K H b (ms.map V.int)) (q : Q (.bl (!decide (ns = ms))) H) : rNeD K (.ref a) (.ref b) H Q := by
  refine ⟨_, _, .lst h1 (dpI ns), .lst h2 (dpI ms), shaped_l (shI ns), shaped_l (shI ms), ?_⟩
  show Q (.bl (!PyData.eqvAll (ns.map PyData.int) (ms.map PyData.int))) H
  rw [eqvI]
  exact q
theorem eqWW {K : PySem.W.Frag} {H : Hp} {a b : Addr} {ns ms : List Wo} {Q : VK} (h1 : SqL K H a (ns.map vW)) (h2 : SqL K H b (ms.map vW)) (q : Q (.bl (decide (ns = ms))) H) : rEqD K (.ref a) (.ref b) H Q := by
  refine ⟨_, _, .lst h1 (dpW ns), .lst h2 (dpW ms), shaped_l (shW ns), shaped_l (shW ms), ?_⟩
  show Q (.bl (PyData.eqvAll (ns.map fun x => PyData.str x.str) (ms.map fun x => PyData.str x.str))) H
  rw [eqvW]
  exact q
theorem neWW {K : PySem.W.Frag} {H : Hp} {a b : Addr} {ns ms : List Wo} {Q : VK} (h1 : SqL K H a (ns.map vW)) (h2 : SqL K H b (ms.map vW)) (q : Q (.bl (!decide (ns = ms))) H) : rNeD K (.ref a) (.ref b) H Q := by
  refine ⟨_, _, .lst h1 (dpW ns), .lst h2 (dpW ms), shaped_l (shW ns), shaped_l (shW ms), ?_⟩
  show Q (.bl (!PyData.eqvAll (ns.map fun x => PyData.str x.str) (ms.map fun x => PyData.str x.str))) H
  rw [eqvW]
  exact q
theorem eqTT {K : PySem.W.Frag} {H : Hp} {a b : Addr} {ns ms : List Int} {Q : VK} (h1 : SqT K H a (ns.map V.int)) (h2 : SqT K H b (ms.map V.int)) (q : Q (.bl (decide (ns = ms))) H) : rEqD K (.ref a) (.ref b) H Q := by
  refine ⟨_, _, .tup h1 (dpI ns), .tup h2 (dpI ms), shaped_t (shI ns), shaped_t (shI ms), ?_⟩
  show Q (.bl (PyData.eqvAll (ns.map PyData.int) (ms.map PyData.int))) H
  rw [eqvI]
  exact q
theorem neTT {K : PySem.W.Frag} {H : Hp} {a b : Addr} {ns ms : List Int} {Q : VK} (h1 : SqT K H a (ns.map V.int)) (h2 : SqT K H b (ms.map V.int)) (q : Q (.bl (!decide (ns = ms))) H) : rNeD K (.ref a) (.ref b) H Q := by
  refine ⟨_, _, .tup h1 (dpI ns), .tup h2 (dpI ms), shaped_t (shI ns), shaped_t (shI ms), ?_⟩
  show Q (.bl (!PyData.eqvAll (ns.map PyData.int) (ms.map PyData.int))) H
  rw [eqvI]
  exact q
/-! ### comprehensions, slices -/
theorem given_all (n : Nat) (v : Nat → V) : Evl.given n (fun _ => true) v = (List.range n).map v := by
  unfold Evl.given
  rw [List.filter_eq_self.mpr (fun _ _ => rfl)]
theorem range_map (ns : List Int) (F : Int → V) : (List.range ns.length).map (fun i => F (ns.getD i 0)) = ns.map F := by
  apply List.ext_getElem?
  intro i
  rw [List.getElem?_map, List.getElem?_map]
  by_cases h : i < ns.length
  · rw [List.getElem?_range h, List.getElem?_eq_getElem h]
    show some (F (ns.getD i 0)) = some (F ns[i])
    rw [List.getD_eq_getElem?_getD, List.getElem?_eq_getElem h]
    rfl
  · rw [List.getElem?_eq_none (by rw [List.length_range]; omega), List.getElem?_eq_none (by omega)]
    rfl
/-- a list of ints, each sent on -/
theorem el_map {K : PySem.W.Frag} {σ : L2.St} {H : Hp} {a : Addr} {ns : List Int} {tl te : TE} {j : Nat} {vs : List Nat} (F : Int → V) (h : Evl.Ev tl σ H (.ref a)) (hx : SqL K H a (ns.map V.int)) (hz : ns.length ≤ 40000)
    (hw : ∀ x, wipe ((wipe σ vs).set j (some x)) vs = wipe σ vs) (he : ∀ n H1, Ex H H1 → n ∈ ns → Evl.Ev te ((wipe σ vs).set j (some (.int n))) H1 (F n)) : Evl.EvL (tLc (iList K tl) (gName j) tYes te vs) σ H (ns.map F) := by
  have r := Evl.el_lcL (K := K) (xs := ns.map V.int) (te := te) (t := tYes) (vs := vs) (j := j) (fun _ => true) (fun i => F (ns.getD i 0)) h hx (by rw [List.length_map]; exact hz) hw (fun i x H1 _ _ => fun H2 _ Q q => q H2 (Ex.refl H2)) (fun i x H1 e hi _ => by
    rw [List.getElem?_map] at hi
    by_cases hl : i < ns.length
    · rw [List.getElem?_eq_getElem hl] at hi
      have ex : x = .int ns[i] := (Option.some.inj hi).symm
      have eg : ns.getD i 0 = ns[i] := by
        rw [List.getD_eq_getElem?_getD, List.getElem?_eq_getElem hl]
        rfl
      rw [ex]
      show Evl.Ev te ((wipe σ vs).set j (some (.int ns[i]))) H1 (F (ns.getD i 0))
      rw [eg]
      exact he ns[i] H1 e (List.getElem_mem hl)
    · rw [List.getElem?_eq_none (by omega)] at hi
      cases hi)
  rw [given_all, List.length_map, range_map] at r
  exact r
/-- the same of any list -/
theorem range_mapG {α : Type} (d : α) (ns : List α) (F : α → V) : (List.range ns.length).map (fun i => F (ns.getD i d)) = ns.map F := by
  apply List.ext_getElem?
  intro i
  rw [List.getElem?_map, List.getElem?_map]
  by_cases h : i < ns.length
  · rw [List.getElem?_range h, List.getElem?_eq_getElem h]
    show some (F (ns.getD i d)) = some (F ns[i])
    rw [List.getD_eq_getElem?_getD, List.getElem?_eq_getElem h]
    rfl
  · rw [List.getElem?_eq_none (by rw [List.length_range]; omega), List.getElem?_eq_none (by omega)]
    rfl
theorem el_mapG {α : Type} (d : α) (em : α → V) {K : PySem.W.Frag} {σ : L2.St} {H : Hp} {a : Addr} {ns : List α} {tl te : TE} {j : Nat} {vs : List Nat} (F : α → V) (h : Evl.Ev tl σ H (.ref a)) (hx : SqL K H a (ns.map em)) (hz : ns.length ≤ 40000)
    (hw : ∀ x, wipe ((wipe σ vs).set j (some x)) vs = wipe σ vs) (he : ∀ n H1, Ex H H1 → n ∈ ns → Evl.Ev te ((wipe σ vs).set j (some (em n))) H1 (F n)) : Evl.EvL (tLc (iList K tl) (gName j) tYes te vs) σ H (ns.map F) := by
  have r := Evl.el_lcL (K := K) (xs := ns.map em) (te := te) (t := tYes) (vs := vs) (j := j) (fun _ => true) (fun i => F (ns.getD i d)) h hx (by rw [List.length_map]; exact hz) hw (fun i x H1 _ _ => fun H2 _ Q q => q H2 (Ex.refl H2)) (fun i x H1 e hi _ => by
    rw [List.getElem?_map] at hi
    by_cases hl : i < ns.length
    · rw [List.getElem?_eq_getElem hl] at hi
      have ex : x = em ns[i] := (Option.some.inj hi).symm
      have eg : ns.getD i d = ns[i] := by
        rw [List.getD_eq_getElem?_getD, List.getElem?_eq_getElem hl]
        rfl
      rw [ex]
      show Evl.Ev te ((wipe σ vs).set j (some (em ns[i]))) H1 (F (ns.getD i d))
      rw [eg]
      exact he ns[i] H1 e (List.getElem_mem hl)
    · rw [List.getElem?_eq_none (by omega)] at hi
      cases hi)
  rw [given_all, List.length_map, range_mapG] at r
  exact r
/-- the whole numbers from lo up to below hi -/
def rng (lo hi : Int) : List Int := (List.range (hi - lo).toNat).map fun i : Nat => lo + (i : Int)
theorem mem_rng {lo hi n : Int} : n ∈ rng lo hi ↔ lo ≤ n ∧ n < hi := by
  unfold rng
  rw [List.mem_map]
  constructor
  · rintro ⟨k, hk, rfl⟩
    have := List.mem_range.mp hk
    omega
  · intro h
    exact ⟨(n - lo).toNat, List.mem_range.mpr (by omega), by omega⟩
theorem rng_len (lo hi : Int) : (rng lo hi).length = (hi - lo).toNat := by
  unfold rng
  rw [List.length_map, List.length_range]
theorem given_rng (lo hi : Int) (f : Int → Bool) (F : Int → V) : Evl.given (hi - lo).toNat (fun i => f (lo + (i : Int))) (fun i => F (lo + (i : Int))) = ((rng lo hi).filter f).map F := by
  unfold Evl.given rng
  rw [List.filter_map, List.map_map]
  rfl
/-- a comprehension over range(lo, hi) that keeps some -/
theorem el_rng {σ : L2.St} {H : Hp} {ta : TA} {t : TT} {te : TE} {j : Nat} {vs : List Nat} {lo hi : Int} (f : Int → Bool) (F : Int → V) (h : Evl.EvA ta σ H [.int lo, .int hi]) (hb : -30000 ≤ lo ∧ lo ≤ 30000 ∧ -30000 ≤ hi ∧ hi ≤ 10000)
    (hw : ∀ x, wipe ((wipe σ vs).set j (some x)) vs = wipe σ vs) (ht : ∀ n H1, Ex H H1 → lo ≤ n → n < hi → Evl.EvT t ((wipe σ vs).set j (some (.int n))) H1 (f n))
    (he : ∀ n H1, Ex H H1 → lo ≤ n → n < hi → f n = true → Evl.Ev te ((wipe σ vs).set j (some (.int n))) H1 (F n)) : Evl.EvL (tLc (iRng2 ta) (gName j) t te vs) σ H (((rng lo hi).filter f).map F) := fun H0 e Q q => h H0 e _ fun H1 e1 =>
  ⟨lo, hi, rfl, ⟨by omega, by omega, by omega, by omega⟩, fun Dl hD =>
    lc_range (lo := lo) (n := (hi - lo).toNat) (Evl.Cw H1 (fun i => f (lo + (i : Int))) (fun i => F (lo + (i : Int))) Dl) ⟨hD, Ex.new hD, upd_same⟩ (fun i H' hi' p =>
      ⟨hw _, Evl.cw_turn p (by omega) (ht (lo + (i : Int)) H1 (e.trans e1) (by omega) (by omega)) (fun hf => he (lo + (i : Int)) H1 (e.trans e1) (by omega) (by omega) hf)⟩)
      (fun H' p => by
        have p3 := p.2.2
        rw [given_rng] at p3
        exact q Dl H' (fresh_back e1 p.1) (e1.trans p.2.1) p3)⟩
theorem given_list (ns : List Int) (f : Int → Bool) (F : Int → V) : Evl.given ns.length (fun i => f (ns.getD i 0)) (fun i => F (ns.getD i 0)) = (ns.filter f).map F := by
  have e : (List.range ns.length).map (fun i => ns.getD i 0) = ns := by
    apply List.ext_getElem?
    intro i
    rw [List.getElem?_map]
    by_cases h : i < ns.length
    · rw [List.getElem?_range h, List.getElem?_eq_getElem h]
      show some (ns.getD i 0) = some ns[i]
      rw [List.getD_eq_getElem?_getD, List.getElem?_eq_getElem h]
      rfl
    · rw [List.getElem?_eq_none (by rw [List.length_range]; omega), List.getElem?_eq_none (by omega)]
      rfl
  unfold Evl.given
  conv => rhs; rw [← e]
  rw [List.filter_map, List.map_map]
  rfl
theorem getD_at {ns : List Int} {i : Nat} {x : V} (hi : (ns.map V.int)[i]? = some x) : ns.getD i 0 ∈ ns ∧ x = .int (ns.getD i 0) := by
  rw [List.getElem?_map] at hi
  by_cases hl : i < ns.length
  · rw [List.getElem?_eq_getElem hl] at hi
    rw [List.getD_eq_getElem?_getD, List.getElem?_eq_getElem hl]
    exact ⟨List.getElem_mem hl, (Option.some.inj hi).symm⟩
  · rw [List.getElem?_eq_none (by omega)] at hi
    cases hi
/-- a comprehension over a list, a tuple, a new tuple of ints that keeps some -/
theorem el_lst {K : PySem.W.Frag} {σ : L2.St} {H : Hp} {a : Addr} {ns : List Int} {tl te : TE} {t : TT} {j : Nat} {vs : List Nat} (f : Int → Bool) (F : Int → V) (h : Evl.Ev tl σ H (.ref a)) (hx : SqL K H a (ns.map V.int)) (hz : ns.length ≤ 40000)
    (hw : ∀ x, wipe ((wipe σ vs).set j (some x)) vs = wipe σ vs) (ht : ∀ n H1, Ex H H1 → n ∈ ns → Evl.EvT t ((wipe σ vs).set j (some (.int n))) H1 (f n))
    (he : ∀ n H1, Ex H H1 → n ∈ ns → f n = true → Evl.Ev te ((wipe σ vs).set j (some (.int n))) H1 (F n)) : Evl.EvL (tLc (iList K tl) (gName j) t te vs) σ H ((ns.filter f).map F) := by
  have r := Evl.el_lcL (K := K) (xs := ns.map V.int) (te := te) (t := t) (vs := vs) (j := j) (fun i => f (ns.getD i 0)) (fun i => F (ns.getD i 0)) h hx (by rw [List.length_map]; exact hz) hw
    (fun i x H1 e hi => by rw [(getD_at hi).2]; exact ht _ H1 e (getD_at hi).1) (fun i x H1 e hi hf => by rw [(getD_at hi).2]; exact he _ H1 e (getD_at hi).1 hf)
  rw [List.length_map, given_list] at r
  exact r
theorem el_tup {K : PySem.W.Frag} {σ : L2.St} {H : Hp} {a : Addr} {ns : List Int} {tl te : TE} {t : TT} {j : Nat} {vs : List Nat} (f : Int → Bool) (F : Int → V) (h : Evl.Ev tl σ H (.ref a)) (hx : SqT K H a (ns.map V.int)) (hz : ns.length ≤ 40000)
    (hw : ∀ x, wipe ((wipe σ vs).set j (some x)) vs = wipe σ vs) (ht : ∀ n H1, Ex H H1 → n ∈ ns → Evl.EvT t ((wipe σ vs).set j (some (.int n))) H1 (f n))
    (he : ∀ n H1, Ex H H1 → n ∈ ns → f n = true → Evl.Ev te ((wipe σ vs).set j (some (.int n))) H1 (F n)) : Evl.EvL (tLc (iTup K tl) (gName j) t te vs) σ H ((ns.filter f).map F) := fun H0 e Q q => h H0 e _ fun H1 e1 =>
  ⟨a, rfl, ⟨_, ex_t (e.trans e1) hx⟩, fun Dl hD =>
    lc_tup (xs := ns.map V.int) (Evl.Cw H1 (fun i => f (ns.getD i 0)) (fun i => F (ns.getD i 0)) Dl) ⟨hD, Ex.new hD, upd_same⟩ (fun i H' _ p => ex_t ((e.trans e1).trans p.2.1) hx) (fun i x H' hi p => by
      have hl : i < ns.length := by
        have := (List.getElem?_eq_some_iff.mp hi).1
        rw [List.length_map] at this
        exact this
      rw [(getD_at hi).2]
      exact ⟨hw _, Evl.cw_turn p (by omega) (ht _ H1 (e.trans e1) (getD_at hi).1) (fun hf => he _ H1 (e.trans e1) (getD_at hi).1 hf)⟩)
      (fun H' p => by
        have p3 := p.2.2
        rw [List.length_map, given_list] at p3
        exact q Dl H' (fresh_back e1 p.1) (e1.trans p.2.1) p3)⟩
theorem el_tupU {K : PySem.W.Frag} {σ : L2.St} {H : Hp} {ns : List Int} {tl te : TE} {t : TT} {j : Nat} {vs : List Nat} (f : Int → Bool) (F : Int → V) (h : Evl.EvU tl σ H (ns.map V.int)) (hz : ns.length ≤ 40000)
    (hw : ∀ x, wipe ((wipe σ vs).set j (some x)) vs = wipe σ vs) (ht : ∀ n H1, Ex H H1 → n ∈ ns → Evl.EvT t ((wipe σ vs).set j (some (.int n))) H1 (f n))
    (he : ∀ n H1, Ex H H1 → n ∈ ns → f n = true → Evl.Ev te ((wipe σ vs).set j (some (.int n))) H1 (F n)) : Evl.EvL (tLc (iTup K tl) (gName j) t te vs) σ H ((ns.filter f).map F) := fun H0 e Q q => h H0 e _ fun a H1 _ e1 hx =>
  ⟨a, rfl, ⟨_, SqT.of hx⟩, fun Dl hD =>
    lc_tup (xs := ns.map V.int) (Evl.Cw H1 (fun i => f (ns.getD i 0)) (fun i => F (ns.getD i 0)) Dl) ⟨hD, Ex.new hD, upd_same⟩ (fun i H' _ p => SqT.of (p.2.1 _ _ hx)) (fun i x H' hi p => by
      have hl : i < ns.length := by
        have := (List.getElem?_eq_some_iff.mp hi).1
        rw [List.length_map] at this
        exact this
      rw [(getD_at hi).2]
      exact ⟨hw _, Evl.cw_turn p (by omega) (ht _ H1 (e.trans e1) (getD_at hi).1) (fun hf => he _ H1 (e.trans e1) (getD_at hi).1 hf)⟩)
      (fun H' p => by
        have p3 := p.2.2
        rw [List.length_map, given_list] at p3
        exact q Dl H' (fresh_back e1 p.1) (e1.trans p.2.1) p3)⟩
theorem yes_ev {σ : L2.St} {H : Hp} : Evl.EvT tYes σ H true := fun H1 _ _ q => q H1 (Ex.refl H1)
theorem filter_yes (ns : List Int) : ns.filter (fun _ => true) = ns := List.filter_eq_self.mpr fun _ _ => rfl
/-- a loop over enumerate of a list that stays -/
theorem for_enum {K : PySem.W.Frag} {a : Addr} {xs : List V} {g : TG} {tb : TS} {D : Ends} {σ : L2.St} {H : Hp} (Pv : Nat → L2.St → Hp → Prop) (h0 : Pv 0 σ H) (hl : ∀ i σ H, i ≤ xs.length → Pv i σ H → SqL K H a xs)
    (hs : ∀ (i : Nat) (x : V) (T : Addr) (σ : L2.St) (H : Hp), xs[i]? = some x → Pv i σ H → H T = none → g (.ref T) σ (upd H T (.tup [.int (i : Nat), x])) fun σ2 H2 => tb { D with nx := Pv (i + 1), ct := Pv (i + 1), bk := D.nx } σ2 H2) (hd : ∀ σ H, Pv xs.length σ H → D.nx σ H) :
    ∃ W : Nat → Nat → L2.St → Hp → Prop, (∃ m, W 0 m σ H) ∧ ∀ i m σ H, W i m σ H →
      ((Ite K a).stop i H ∧ D.nx σ H) ∨ ((Ite K a).go i H ∧ ∃ N : L2.St → Hp → Prop, (∀ σ' H', N σ' H' → ∃ m', m' < m ∧ W (i + 1) m' σ' H') ∧ ∀ v H', (Ite K a).yld i H v H' → g v σ H' fun σ2 H2 => tb { D with nx := N, ct := N, bk := D.nx } σ2 H2) := by
  refine ⟨fun i m σ H => i + m = xs.length ∧ Pv i σ H, ⟨xs.length, Nat.zero_add _, h0⟩, ?_⟩
  rintro i m σ H ⟨hm, p⟩
  have hq := hl i σ H (by omega) p
  by_cases hi : i < xs.length
  · refine .inr ⟨⟨xs, xs[i], hq, List.getElem?_eq_getElem hi⟩, Pv (i + 1), fun σ' H' p' => ⟨m - 1, by omega, by omega, p'⟩, ?_⟩
    rintro v H' ⟨T, x, rfl, nT, rfl, hx⟩
    exact hs i x T σ H (hx xs hq) p nT
  · have e : i = xs.length := by omega
    rw [e] at p
    exact .inl ⟨⟨xs, hq, by omega⟩, hd σ H p⟩
theorem cut1 (xs : List V) : cutV xs (some 1) none = xs.drop 1 := by
  unfold cutV
  have e1 : HT.sIx xs.length 0 (some 1) = min 1 xs.length := HT.sIx_nat xs.length 0 1
  rw [e1, HT.sIx_none]
  match xs with
  | [] => rfl
  | x :: r =>
    have e2 : min 1 (x :: r).length = 1 := Nat.min_eq_left (by simp)
    rw [e2]
    show List.take (r.length + 1 - 1) r = r
    rw [Nat.add_sub_cancel, List.take_length]
/-- a list of places of a path of length l -/
def Places (l : Int) (ns : List Int) : Prop := ∀ n ∈ ns, 1 ≤ n ∧ n ≤ l
/-- the places at which just these words are answered -/
def lies (l : Int) (st : List Int) (ws : List Wo) : List Int := (rng 1 (l + 1)).filter fun t => decide (wordsOf t st = ws)
/-! ### bags -/
def Bag1 (H : Hp) (b : Addr) : Prop := ∃ (d : Addr) (c : Int) (ds : List Int), H b = some (.lst [.ref d, .int c]) ∧ H d = some (.lst (ds.map V.int)) ∧ ds.length = 400
def Bags (bs : List Addr) (H : Hp) : Prop := ∀ b ∈ bs, Bag1 H b
/-- all that is no bag stays -/
def Kp (bs : List Addr) (H H' : Hp) : Prop := ∀ a o, a ∉ bs → H a = some o → H' a = some o
theorem Kp.refl (bs : List Addr) (H : Hp) : Kp bs H H := fun _ _ _ h => h
theorem Kp.trans {bs : List Addr} {H H1 H2 : Hp} (a : Kp bs H H1) (b : Kp bs H1 H2) : Kp bs H H2 := fun c o n h => b c o n (a c o n h)
theorem Kp.ex {bs : List Addr} {H H' : Hp} (e : Ex H H') : Kp bs H H' := fun a o _ h => e a o h
theorem Bag1.ex {H H' : Hp} {b : Addr} (e : Ex H H') (h : Bag1 H b) : Bag1 H' b := by
  obtain ⟨d, c, ds, h1, h2, h3⟩ := h
  exact ⟨d, c, ds, e _ _ h1, e _ _ h2, h3⟩
theorem Bags.ex {bs : List Addr} {H H' : Hp} (e : Ex H H') (h : Bags bs H) : Bags bs H' := fun b hb => (h b hb).ex e
theorem Bags.fresh {bs : List Addr} {H : Hp} (h : Bags bs H) {p : Addr} (n : H p = none) : p ∉ bs := fun hp => by
  obtain ⟨d, c, ds, h1, _⟩ := h p hp
  rw [n] at h1
  cases h1
/-- an object that is no bag, and no bag's draws, may change -/
theorem Bags.mut {bs : List Addr} {H : Hp} {p : Addr} {o : HO} (h : Bags bs H) (n1 : p ∉ bs) (n2 : ∀ d ds, H d = some (.lst (List.map V.int ds)) → ds.length = 400 → d ≠ p) : Bags bs (upd H p o) := fun b hb => by
  obtain ⟨d, c, ds, h1, h2, h3⟩ := h b hb
  have e1 : b ≠ p := fun e => n1 (e ▸ hb)
  exact ⟨d, c, ds, by rw [upd_ne e1]; exact h1, by rw [upd_ne (n2 d ds h2 h3)]; exact h2, h3⟩
/-- the list of the bags is none of them -/
theorem bags_list {bs : List Addr} {H : Hp} {L : Addr} (hB : Bags bs H) (hL : H L = some (.lst (bs.map V.ref))) : L ∉ bs := fun z => by
  obtain ⟨d, c, ds, h1, _⟩ := hB L z
  rw [hL] at h1
  have e2 := HO.lst.inj (Option.some.inj h1)
  match bs, e2 with
  | [_, _], e2 => simp at e2
theorem ref_at {bs : List Addr} {i : Nat} {x : V} (hx : (bs.map V.ref)[i]? = some x) : ∃ b, b ∈ bs ∧ x = V.ref b := by
  rw [List.getElem?_map] at hx
  cases hg : bs[i]? with
  | none =>
    rw [hg] at hx
    cases hx
  | some b =>
    rw [hg] at hx
    exact ⟨b, List.mem_of_getElem? hg, (Option.some.inj hx).symm⟩
theorem int_at {ns : List Int} {i : Nat} {x : V} (hx : (ns.map V.int)[i]? = some x) : ∃ n, ns[i]? = some n ∧ x = V.int n := by
  rw [List.getElem?_map] at hx
  cases hg : ns[i]? with
  | none =>
    rw [hg] at hx
    cases hx
  | some b =>
    rw [hg] at hx
    exact ⟨b, rfl, (Option.some.inj hx).symm⟩
theorem Kp.mut {bs : List Addr} {H0 H : Hp} {p : Addr} {o : HO} (k : Kp bs H0 H) (n : H0 p = none) : Kp bs H0 (upd H p o) := fun a u na h => by
  rw [upd_ne (ne_of_none h n)]
  exact k a u na h
theorem Kp.new {bs : List Addr} {H0 H : Hp} {p : Addr} {o : HO} (k : Kp bs H0 H) (n : H p = none) : Kp bs H0 (upd H p o) := fun a u na h => by
  rw [upd_ne (ne_of_none (k a u na h) n)]
  exact k a u na h
end Wc
namespace Wc
open PySem PySem.Spec PyProof.Rows L2
open Evl (Ex ex_l ex_t fresh_back)
def sp_is_whole (K : PySem.W.Frag) : Sp := fun vs H Q _ => ∃ i : Int, vs = [.int i] ∧ Q (.bl true) H
abbrev N_is_whole : List Str := ["value"]
def t_is_whole (K : PySem.W.Frag) : TS := (tRet (tAndV (tCB (rIsi K) (tCons (tVar 0) (tCons (tC (.ty "int")) tNil))) (tNotV (tCB (rIsi K) (tCons (tVar 0) (tCons (tC (.ty "bool")) tNil))))))
theorem pure_is_whole {K : PySem.W.Frag} {vs : List V} {H : Hp} {Q : VK} {E : XK} (h : sp_is_whole K vs H Q E) : t_is_whole K { nx := fun _ H' => Q .non H', rt := Q } (start N_is_whole vs) H := by
  obtain ⟨i, rfl, q⟩ := h
  refine ⟨_, rfl, .int i, .ty "int", _, _, true, rfl, .ty "int", .base (.int i), kit_ty (by decide +kernel), true, rfl, iteT ?_⟩
  exact ⟨_, rfl, .int i, .ty "bool", _, _, false, rfl, .ty "bool", .base (.int i), kit_ty (by decide +kernel), false, rfl, q⟩
theorem len_is_whole {K : PySem.W.Frag} {vs : List V} {H : Hp} {Q : VK} {E : XK} (h : sp_is_whole K vs H Q E) : vs.length = 1 := by
  obtain ⟨i, rfl, _⟩ := h
  rfl
def sp_is_place (K : PySem.W.Frag) : Sp := fun vs H Q _ => ∃ v l : Int, vs = [.int v, .int l] ∧ Q (.bl (decide (1 ≤ v ∧ v ≤ l))) H
abbrev N_is_place : List Str := ["value", "length"]
def t_is_place (K : PySem.W.Frag) : TS := (tRet (tAndV (tCall (sp_is_whole K) [] E0 (tCons (tVar 0) tNil)) (tChain (rI0 fun i j => .bl (decide (i ≤ j))) (rI0 fun i j => .bl (decide (i ≤ j))) (tC (.int 1)) (tVar 0) (tVar 1))))
theorem pure_is_place {K : PySem.W.Frag} {vs : List V} {H : Hp} {Q : VK} {E : XK} (h : sp_is_place K vs H Q E) : t_is_place K { nx := fun _ H' => Q .non H', rt := Q } (start N_is_place vs) H := by
  obtain ⟨v, l, rfl, q⟩ := h
  refine ⟨_, rfl, v, rfl, true, rfl, iteT ⟨_, rfl, 1, v, rfl, rfl, decide ((1 : Int) ≤ v), rfl, ?_⟩⟩
  by_cases h1 : (1 : Int) ≤ v
  · rw [decide_eq_true h1]
    refine iteT ⟨_, rfl, v, l, rfl, rfl, ?_⟩
    have e : decide (v ≤ l) = decide (1 ≤ v ∧ v ≤ l) := by simp [h1]
    show Q (.bl (decide (v ≤ l))) H
    rw [e]
    exact q
  · rw [decide_eq_false h1]
    refine iteF ?_
    have e : false = decide (1 ≤ v ∧ v ≤ l) := by simp [h1]
    show Q (.bl false) H
    rw [e]
    exact q
theorem len_is_place {K : PySem.W.Frag} {vs : List V} {H : Hp} {Q : VK} {E : XK} (h : sp_is_place K vs H Q E) : vs.length = 2 := by
  obtain ⟨v, l, rfl, _⟩ := h
  rfl
def sp_is_word (K : PySem.W.Frag) : Sp := fun vs H Q _ => ∃ x : Wo, vs = [vW x] ∧ Q (.bl true) H
abbrev N_is_word : List Str := ["value"]
def t_is_word (K : PySem.W.Frag) : TS := (tRet (tAndV (tCB (rIsi K) (tCons (tVar 0) (tCons (tC (.ty "str")) tNil))) (tOp (rIn K false) (tVar 0) (tC (.ref (He.ga K "WORDS"))))))
theorem pure_is_word {K : PySem.W.Frag} (hW : ∀ H, SqT K H (He.ga K "WORDS") [.str "warm", .str "cold", .str "same"]) {vs : List V} {H : Hp} {Q : VK} {E : XK} (h : sp_is_word K vs H Q E) : t_is_word K { nx := fun _ H' => Q .non H', rt := Q } (start N_is_word vs) H := by
  obtain ⟨x, rfl, q⟩ := h
  refine ⟨_, rfl, vW x, .ty "str", _, _, true, rfl, .ty "str", .base (.str x.str), kit_ty (by decide +kernel), true, rfl, iteT ?_⟩
  refine ⟨_, rfl, _, _, rfl, .inr (hW H), rfl, rfl, ?_⟩
  have e : (if false = true then !inV (vW x) [V.str "warm", V.str "cold", V.str "same"] else inV (vW x) [V.str "warm", V.str "cold", V.str "same"]) = true := by
    cases x <;> decide +kernel
  rw [e]
  exact q
theorem len_is_word {K : PySem.W.Frag} {vs : List V} {H : Hp} {Q : VK} {E : XK} (h : sp_is_word K vs H Q E) : vs.length = 1 := by
  obtain ⟨x, rfl, _⟩ := h
  rfl
def sp_check_length (K : PySem.W.Frag) : Sp := fun vs H Q _ => ∃ l : Int, vs = [.int l] ∧ 1 ≤ l ∧ l ≤ 60 ∧ Q .non H
abbrev N_check_length : List Str := ["length"]
def t_check_length (K : PySem.W.Frag) : TS := (tIfS (tNot (tB (tCall (sp_is_place K) [] E0 (tCons (tVar 0) (tCons (tC (.int 60)) tNil))))) tNever tNext)
theorem pure_check_length {K : PySem.W.Frag} {vs : List V} {H : Hp} {Q : VK} {E : XK} (h : sp_check_length K vs H Q E) : t_check_length K { nx := fun _ H' => Q .non H', rt := Q } (start N_check_length vs) H := by
  obtain ⟨l, rfl, h1, h2, q⟩ := h
  exact ⟨_, rfl, l, 60, rfl, _, rfl, iteNS ⟨h1, h2⟩ q⟩
theorem len_check_length {K : PySem.W.Frag} {vs : List V} {H : Hp} {Q : VK} {E : XK} (h : sp_check_length K vs H Q E) : vs.length = 1 := by
  obtain ⟨l, rfl, _⟩ := h
  rfl
def sp_check_going_length (K : PySem.W.Frag) : Sp := fun vs H Q _ => ∃ l : Int, vs = [.int l] ∧ 1 ≤ l ∧ l ≤ 16 ∧ Q .non H
abbrev N_check_going_length : List Str := ["length"]
def t_check_going_length (K : PySem.W.Frag) : TS := (tSeq (tDrop (tCall (sp_check_length K) [] E0 (tCons (tVar 0) tNil)))
  (tIfS (tTest (tOp (rI0 fun i j => .bl (decide (j < i))) (tVar 0) (tC (.int 16)))) tNever tNext))
theorem pure_check_going_length {K : PySem.W.Frag} {vs : List V} {H : Hp} {Q : VK} {E : XK} (h : sp_check_going_length K vs H Q E) : t_check_going_length K { nx := fun _ H' => Q .non H', rt := Q } (start N_check_going_length vs) H := by
  obtain ⟨l, rfl, h1, h2, q⟩ := h
  refine ⟨_, rfl, l, rfl, h1, by omega, _, rfl, l, 16, rfl, rfl, _, rfl, ite2 (fun e => ?_) (fun _ => q)⟩
  have := of_decide_eq_true e
  omega
theorem len_check_going_length {K : PySem.W.Frag} {vs : List V} {H : Hp} {Q : VK} {E : XK} (h : sp_check_going_length K vs H Q E) : vs.length = 1 := by
  obtain ⟨l, rfl, _⟩ := h
  rfl
def sp_check_place (K : PySem.W.Frag) : Sp := fun vs H Q _ => ∃ p l : Int, vs = [.int p, .int l] ∧ 1 ≤ p ∧ p ≤ l ∧ Q .non H
abbrev N_check_place : List Str := ["place", "length"]
def t_check_place (K : PySem.W.Frag) : TS := (tIfS (tNot (tB (tCall (sp_is_place K) [] E0 (tCons (tVar 0) (tCons (tVar 1) tNil))))) tNever tNext)
theorem pure_check_place {K : PySem.W.Frag} {vs : List V} {H : Hp} {Q : VK} {E : XK} (h : sp_check_place K vs H Q E) : t_check_place K { nx := fun _ H' => Q .non H', rt := Q } (start N_check_place vs) H := by
  obtain ⟨p, l, rfl, h1, h2, q⟩ := h
  exact ⟨_, rfl, _, rfl, p, l, rfl, _, rfl, iteNS ⟨h1, h2⟩ q⟩
theorem len_check_place {K : PySem.W.Frag} {vs : List V} {H : Hp} {Q : VK} {E : XK} (h : sp_check_place K vs H Q E) : vs.length = 2 := by
  obtain ⟨p, l, rfl, _⟩ := h
  rfl
def sp_check_answer (K : PySem.W.Frag) : Sp := fun vs H Q _ => ∃ w : Wo, vs = [vW w] ∧ Q .non H
abbrev N_check_answer : List Str := ["word"]
def t_check_answer (K : PySem.W.Frag) : TS := (tIfS (tNot (tB (tCall (sp_is_word K) [] E0 (tCons (tVar 0) tNil)))) tNever tNext)
theorem pure_check_answer {K : PySem.W.Frag} {vs : List V} {H : Hp} {Q : VK} {E : XK} (h : sp_check_answer K vs H Q E) : t_check_answer K { nx := fun _ H' => Q .non H', rt := Q } (start N_check_answer vs) H := by
  obtain ⟨w, rfl, q⟩ := h
  exact ⟨_, rfl, w, rfl, _, rfl, iteF q⟩
theorem len_check_answer {K : PySem.W.Frag} {vs : List V} {H : Hp} {Q : VK} {E : XK} (h : sp_check_answer K vs H Q E) : vs.length = 1 := by
  obtain ⟨w, rfl, _⟩ := h
  rfl
def sp_check_stretch (K : PySem.W.Frag) : Sp := fun vs H Q _ => ∃ (s : Addr) (l a b : Int), vs = [.ref s, .int l] ∧ H s = some (.tup [.int a, .int b]) ∧ 1 ≤ a ∧ a ≤ b ∧ b ≤ l ∧ Q .non H
abbrev N_check_stretch : List Str := ["stretch", "length", "low", "high"]
def t_check_stretch (K : PySem.W.Frag) : TS := (tSeq (tIfS (tOr (tNot (tB (tCB (rIsi K) (tCons (tVar 0) (tCons (tC (.ty "tuple")) tNil))))) (tTest (tOp rNe (tCB (rLenQ K) (tCons (tVar 0) tNil)) (tC (.int 2))))) tNever tNext)
  (tSeq (tAsg (tVar 0) (gTup K 2 (gCons (gName 2) (gCons (gName 3) gNil))))
  (tIfS (tOr (tNot (tB (tCall (sp_is_place K) [] E0 (tCons (tVar 2) (tCons (tVar 1) tNil))))) (tOr (tNot (tB (tCall (sp_is_place K) [] E0 (tCons (tVar 3) (tCons (tVar 1) tNil))))) (tTest (tOp (rI0 fun i j => .bl (decide (j < i))) (tVar 2) (tVar 3))))) tNever tNext)))
theorem pure_check_stretch {K : PySem.W.Frag} {vs : List V} {H : Hp} {Q : VK} {E : XK} (h : sp_check_stretch K vs H Q E) : t_check_stretch K { nx := fun _ H' => Q .non H', rt := Q } (start N_check_stretch vs) H := by
  obtain ⟨s, l, a, b, rfl, hs, h1, h2, h3, q⟩ := h
  refine ⟨_, rfl, .ref s, .ty "tuple", _, _, true, rfl, .ty "tuple", .base (.tup hs), kit_ty (by decide +kernel), true, rfl, iteF ?_⟩
  refine ⟨_, rfl, s, _, rfl, .inr (SqT.of hs), rfl, _, rfl, ite2 (fun e => absurd e Bool.false_ne_true) (fun _ => ?_)⟩
  refine ⟨_, rfl, s, _, rfl, SqT.of hs, rfl, _, _, rfl, _, [], rfl, rfl, ?_⟩
  refine ⟨_, rfl, _, rfl, a, l, rfl, _, rfl, ?_⟩
  rw [decide_eq_true (show 1 ≤ a ∧ a ≤ l from ⟨h1, by omega⟩)]
  refine iteF ⟨_, rfl, _, rfl, b, l, rfl, _, rfl, ?_⟩
  rw [decide_eq_true (show 1 ≤ b ∧ b ≤ l from ⟨by omega, h3⟩)]
  refine iteF ⟨_, rfl, _, rfl, a, b, rfl, rfl, _, rfl, ite2 (fun e => ?_) (fun _ => q)⟩
  have := of_decide_eq_true e
  omega
theorem len_check_stretch {K : PySem.W.Frag} {vs : List V} {H : Hp} {Q : VK} {E : XK} (h : sp_check_stretch K vs H Q E) : vs.length = 2 := by
  obtain ⟨s, l, a, b, rfl, _⟩ := h
  rfl
def sp_word_for (K : PySem.W.Frag) : Sp := fun vs H Q _ => ∃ b a : Int, vs = [.int b, .int a] ∧ Q (vW (word b a)) H
abbrev N_word_for : List Str := ["before", "after"]
def t_word_for (K : PySem.W.Frag) : TS := (tSeq (tIfS (tTest (tOp (rI0 fun i j => .bl (decide (i < j))) (tVar 1) (tVar 0))) (tRet (tC (.str (Str.ofString "warm")))) tNext)
  (tSeq (tIfS (tTest (tOp (rI0 fun i j => .bl (decide (j < i))) (tVar 1) (tVar 0))) (tRet (tC (.str (Str.ofString "cold")))) tNext)
  (tRet (tC (.str (Str.ofString "same"))))))
theorem pure_word_for {K : PySem.W.Frag} {vs : List V} {H : Hp} {Q : VK} {E : XK} (h : sp_word_for K vs H Q E) : t_word_for K { nx := fun _ H' => Q .non H', rt := Q } (start N_word_for vs) H := by
  obtain ⟨b, a, rfl, q⟩ := h
  refine ⟨_, rfl, _, rfl, a, b, rfl, rfl, _, rfl, ite2 (fun h1 => ?_) (fun h1 => ?_)⟩
  · have e1 : word b a = .warm := if_pos (of_decide_eq_true h1)
    rw [e1] at q
    exact q
  · have n1 : ¬ a < b := fun z => h1 (decide_eq_true z)
    refine ⟨_, rfl, _, rfl, a, b, rfl, rfl, _, rfl, ite2 (fun h2 => ?_) (fun h2 => ?_)⟩
    · have e2 : word b a = .cold := (if_neg n1).trans (if_pos (of_decide_eq_true h2))
      rw [e2] at q
      exact q
    · have n2 : ¬ b < a := fun z => h2 (decide_eq_true z)
      have e3 : word b a = .same := (if_neg n1).trans (if_neg n2)
      rw [e3] at q
      exact q
theorem len_word_for {K : PySem.W.Frag} {vs : List V} {H : Hp} {Q : VK} {E : XK} (h : sp_word_for K vs H Q E) : vs.length = 2 := by
  obtain ⟨b, a, rfl, _⟩ := h
  rfl
def sp_answer_to_move (K : PySem.W.Frag) : Sp := fun vs H Q _ => ∃ t e l : Int, vs = [.int t, .int e, .int l] ∧ Q (vW (mv t e l)) H
abbrev N_answer_to_move : List Str := ["thing", "earlier", "later"]
def t_answer_to_move (K : PySem.W.Frag) : TS := (tRet (tCall (sp_word_for K) [] E0 (tCons (tCB rAbs (tCons (tOp (rI0 fun i j => .int (i - j)) (tVar 0) (tVar 1)) tNil)) (tCons (tCB rAbs (tCons (tOp (rI0 fun i j => .int (i - j)) (tVar 0) (tVar 2)) tNil)) tNil))))
theorem pure_answer_to_move {K : PySem.W.Frag} {vs : List V} {H : Hp} {Q : VK} {E : XK} (h : sp_answer_to_move K vs H Q E) : t_answer_to_move K { nx := fun _ H' => Q .non H', rt := Q } (start N_answer_to_move vs) H := by
  obtain ⟨t, e, l, rfl, q⟩ := h
  exact ⟨_, rfl, _, rfl, t, e, rfl, rfl, _, rfl, _, rfl, _, rfl, t, l, rfl, rfl, _, rfl, ab (t - e), ab (t - l), rfl, q⟩
theorem len_answer_to_move {K : PySem.W.Frag} {vs : List V} {H : Hp} {Q : VK} {E : XK} (h : sp_answer_to_move K vs H Q E) : vs.length = 3 := by
  obtain ⟨t, e, l, rfl, _⟩ := h
  rfl
/-! ### instances: methods and the making by their promises, len() of an instance, a walk over a dict that is made for it -/
structure OwnM (P : Program) (w : World) (K : PySem.W.Frag) (mg : Str → Option Value) (base : Heap) (CX : CXT) (k : Nat) (C : Addr) (m : Str) (ps : List Str) (sp : Sp) : Prop where
  ex : ∃ (f : Addr) (fd : FuncData), FnOk P w K mg base CX k f fd ps sp ∧ Meth K C m f ∧ Binds K fd ps []
structure OwnI (P : Program) (w : World) (K : PySem.W.Frag) (mg : Str → Option Value) (base : Heap) (CX : CXT) (k : Nat) (C : Addr) (x : Str) (ps : List Str) (sp : Sp) : Prop where
  ex : ∃ (f : Addr) (fd : FuncData), FnOk P w K mg base CX k f fd ps sp ∧ Mk K C f ∧ Binds K fd ps [] ∧ mg x = some (.ref C)
section
variable {X : Cx} {CX : CXT} {k k' : Nat} {C : Addr} {m x : Str} {ps : List Str} {sp : Sp} {E : XK} {o e : Expr} {es : List Expr} {apos pos p : Pos} {ta : TE} {t : TA}
theorem pe_methO {pl : Sem Bool} (c : Cls X.K C) (O : OwnM X.prog X.w X.K X.mg X.base CX k C m ps sp) (hr : Room k' X.A) (hk : k ≤ k') (hx : Passes CX X E) (ho : PE X o ta) (ha : PA X (e :: es) t)
    (hst : starEach (e :: es) X.env = (false, eval e X.env) :: starEach es X.env := by rfl) (hpl : (backTo pos (starEach es X.env)).any (·.1) = false := by rfl)
    (ht : eval (.Call (.Attribute o m apos) (e :: es) [] pos) X.env = (do
      let ov ← eval o X.env
      standAt apos.atName
      let (f, first) ← holding [ov] (getMethod ov m pl)
      callWith pos f first (backTo pos (starEach (e :: es) X.env)) (backToKw pos (keywordEach [] X.env))) := by rfl) :
    PE X (.Call (.Attribute o m apos) (e :: es) [] pos) (tMeth C m sp [] E ta t) := by
  obtain ⟨f, fd, F, hm, hb⟩ := O.ex
  exact pe_meth (pl := pl) ho c hm F (hr.mono hk) hb .nil hx ha hst hpl ht
theorem pe_methO0 {pl : Sem Bool} (c : Cls X.K C) (O : OwnM X.prog X.w X.K X.mg X.base CX k C m ps sp) (hr : Room k' X.A) (hk : k ≤ k') (hx : Passes CX X E) (ho : PE X o ta)
    (ht : eval (.Call (.Attribute o m apos) [] [] pos) X.env = (do
      let ov ← eval o X.env
      standAt apos.atName
      let (f, first) ← holding [ov] (getMethod ov m pl)
      callWith pos f first (backTo pos (starEach [] X.env)) (backToKw pos (keywordEach [] X.env))) := by rfl) :
    PE X (.Call (.Attribute o m apos) [] [] pos) (tMeth C m sp [] E ta tNil) := by
  obtain ⟨f, fd, F, hm, hb⟩ := O.ex
  exact pe_meth0 (pl := pl) ho c hm F (hr.mono hk) hb .nil hx ht
theorem pe_makeO (O : OwnI X.prog X.w X.K X.mg X.base CX k C x ps sp) (hr : Room k' X.A) (hk : k + 1 ≤ k') (hg : Gl X x) (hx : Passes CX X E) (ha : PA X (e :: es) t)
    (hdb : (x == ("__debug__" : Str)) = false := by decide) (he : starEach (e :: es) X.env = (false, eval e X.env) :: starEach es X.env := by rfl) (hpl : (backTo pos (starEach es X.env)).any (·.1) = false := by rfl) :
    PE X (.Call (.Name x p) (e :: es) [] pos) (tMake C sp [] E t) := by
  obtain ⟨f, fd, F, M, hb, hm⟩ := O.ex
  exact pe_make M F (hr.mono hk) hg hm hb .nil hx ha hdb he hpl
/-- len(x) of an instance with its own __len__ -/
def rLenI (C : Addr) (sp : Sp) (E : XK) : List V → Hp → VK → Prop := fun xs H Q => ∃ a dx fs, xs = [V.ref a] ∧ H a = some (.ins C dx fs) ∧ sp [.ref a] H (fun z H' => ∃ i : Int, z = .int i ∧ 0 ≤ i ∧ i < 2 ^ 63 ∧ Q z H') E
theorem call_lenI (O : OwnM X.prog X.w X.K X.mg X.base CX k C "__len__" ps sp) (hr : Room k' X.A) (hk : k + 1 ≤ k') (hx : Passes CX X E) : CallR X (.builtin "len") (rLenI C sp E) := by
  intro pins s σ H xs us Q I r h
  obtain ⟨f, fd, F, hm, hb⟩ := O.ex
  obtain ⟨a, dx, fs, rfl, ha, q⟩ := h
  obtain ⟨u, rfl, ru⟩ := r.one
  cases (show u = Value.ref a from ru)
  obtain ⟨mA, ob, _, _, _, _⟩ := ins_get I.hok ha
  obtain ⟨od, J, _⟩ := ob.look
  have hr2 : Room k X.A.in1 := (hr.mono hk).in1
  obtain ⟨mm, hF⟩ := I.fr
  refine PySem.W.len_K hF I.ok.mod.kin J hm.at_ hm.fn (wpAny_mono (wpAny_call (SlX.run_at (us := [.ref a]) (ws := [.ref a]) (FnOk.raw F hb .nil) hr2 I.env0.in1 hx I (.cons rfl .nil) q)) (fun w s' z => ?_) fun _ _ x => x)
  obtain ⟨z', H', I', rz, i, ei, i0, i1, qz⟩ := z
  subst ei
  obtain ⟨t, e⟩ := (show ∃ t, w = Value.int i t from rz)
  cases e
  exact ⟨⟨i0, i1⟩, .int i, H', I'.tok _, ⟨_, rfl⟩, qz⟩
end
/-- for k in {..}: the dict is new, and nobody else has it -/
def iKeysN (td : TE) : TI := fun σ H R => td σ H fun x H1 => ∃ d kvs, x = .ref d ∧ H1 d = some (.dK kvs) ∧ ∀ o, R (Itk d o kvs) (upd H1 d (.frz o (.dK kvs)))
theorem pi_keysN {X : Cx} {tg e : Expr} {td : TE} (he : PE X e td) : PI X tg e (iKeysN td) := by
  refine ⟨fun pins s σ H R I h => ?_⟩
  refine thn (he.run pins s σ H _ I h) fun u s1 ⟨x, H1, I1, rx, d, kvs, ex, hd0, q⟩ => ?_
  subst ex
  obtain rfl : u = Value.ref d := rx
  obtain ⟨od, I2⟩ := I1.lock hd0 trivial
  obtain ⟨hs, hgd, hx, es, ep, vs, hdt, hsz, kv, hm⟩ := I2.frzK upd_same
  refine iter_keys hs hgd hx hdt (pi_one (tk := s1.toks) I2 _ (turn_keys _ hdt) ⟨_, Heap.get?_push_size _ rfl, rfl, ?_⟩ (q od))
  rw [hsz] <;> rfl
/-- the truth of a list -/
def tTruL (K : PySem.W.Frag) (ta : TE) : TT := fun σ H Q => ta σ H fun x H' => ∃ k, TruV K x H' k ∧ Q k H'
/-! ### a search kept -/
abbrev SC (K : PySem.W.Frag) : Addr := He.ga K "Search"
structure SrF (K : PySem.W.Frag) : Prop where
  cl : Cls K (SC K)
  nl : NoAttr K (SC K) "length"
  ns : NoAttr K (SC K) "stood"
  nw : NoAttr K (SC K) "words"
  nf : NoAttr K (SC K) "left"
/-- tuples of ints at these places -/
inductive AtTups (H : Hp) : List Addr → List (List Int) → Prop
  | nil : AtTups H [] []
  | cons {u : Addr} {us : List Addr} {p : List Int} {ps : List (List Int)} : H u = some (.tup (p.map V.int)) → AtTups H us ps → AtTups H (u :: us) (p :: ps)
theorem AtTups.imp {H H' : Hp} (e : ∀ a xs, H a = some (.tup xs) → H' a = some (.tup xs)) : ∀ {us : List Addr} {ps : List (List Int)}, AtTups H us ps → AtTups H' us ps
  | _, _, .nil => .nil
  | _, _, .cons h t => .cons (e _ _ h) (t.imp e)
theorem AtTups.snoc {H : Hp} {u : Addr} {p : List Int} (h : H u = some (.tup (p.map V.int))) : ∀ {us : List Addr} {ps : List (List Int)}, AtTups H us ps → AtTups H (us ++ [u]) (ps ++ [p])
  | _, _, .nil => .cons h .nil
  | _, _, .cons h' t => .cons h' (t.snoc h)
theorem AtTups.len {H : Hp} : ∀ {us : List Addr} {ps : List (List Int)}, AtTups H us ps → us.length = ps.length
  | _, _, .nil => rfl
  | _, _, .cons _ t => congrArg (· + 1) t.len
theorem AtTups.last {H : Hp} : ∀ {us : List Addr} {ps : List (List Int)} {p : List Int}, AtTups H us (ps ++ [p]) → ∃ us' u, us = us' ++ [u] ∧ H u = some (.tup (p.map V.int)) ∧ AtTups H us' ps
  | _, [], _, .cons h .nil => ⟨[], _, rfl, h, .nil⟩
  | _, _ :: ps, _, .cons h t => by
    obtain ⟨us', u, e, hu, t'⟩ := t.last (ps := ps)
    exact ⟨_ :: us', u, by rw [e]; rfl, hu, .cons h t'⟩
/-- the search at x: of this length, these stands, answers, and places left behind each answer -/
structure Sr (C : Addr) (H : Hp) (x dx S W F : Addr) (L : Int) (st : List Int) (ws : List Wo) (us : List Addr) (fs : List (List Int)) : Prop where
  ins : H x = some (.ins C dx [("length", .int L), ("stood", .ref S), ("words", .ref W), ("left", .ref F)])
  hS : H S = some (.lst (st.map V.int))
  hW : H W = some (.lst (ws.map vW))
  hF : H F = some (.lst (us.map V.ref))
  hT : AtTups H us fs
  nSW : S ≠ W
  nSF : S ≠ F
  nWF : W ≠ F
theorem Sr.kp {C : Addr} {bs : List Addr} {H H' : Hp} {x dx S W F : Addr} {L : Int} {st : List Int} {ws : List Wo} {us : List Addr} {fs : List (List Int)} (r : Sr C H x dx S W F L st ws us fs) (k : Kp bs H H') (nx : x ∉ bs) (nS : S ∉ bs) (nW : W ∉ bs) (nF : F ∉ bs) (nt : ∀ a xs, H a = some (.tup xs) → a ∉ bs) : Sr C H' x dx S W F L st ws us fs :=
  ⟨k _ _ nx r.ins, k _ _ nS r.hS, k _ _ nW r.hW, k _ _ nF r.hF, r.hT.imp fun a xs h => k _ _ (nt a xs h) h, r.nSW, r.nSF, r.nWF⟩
theorem Sr.ex {C : Addr} {H H' : Hp} {x dx S W F : Addr} {L : Int} {st : List Int} {ws : List Wo} {us : List Addr} {fs : List (List Int)} (r : Sr C H x dx S W F L st ws us fs) (e : Ex H H') : Sr C H' x dx S W F L st ws us fs :=
  ⟨e _ _ r.ins, e _ _ r.hS, e _ _ r.hW, e _ _ r.hF, r.hT.imp fun a xs h => e _ _ h, r.nSW, r.nSF, r.nWF⟩
theorem Sr.stand {C : Addr} {H : Hp} {x dx S W F : Addr} {L p : Int} {st : List Int} {ws : List Wo} {us : List Addr} {fs : List (List Int)} (r : Sr C H x dx S W F L st ws us fs) : Sr C (upd H S (.lst (st.map V.int ++ [.int p]))) x dx S W F L (st ++ [p]) ws us fs := by
  refine ⟨?_, ?_, ?_, ?_, r.hT.imp fun a xs h => ?_, r.nSW, r.nSF, r.nWF⟩
  · rw [upd_ne (ne_of r.ins r.hS (by intro z; cases z))]
    exact r.ins
  · rw [upd_same, List.map_append]
    rfl
  · rw [upd_ne r.nSW.symm]
    exact r.hW
  · rw [upd_ne r.nSF.symm]
    exact r.hF
  · rw [upd_ne (ne_of h r.hS (by intro z; cases z))]
    exact h
theorem Kp.one {H : Hp} {a : Addr} {o : HO} : Kp [a] H (upd H a o) := fun b u n h => by
  rw [upd_ne (fun z => n (by rw [z]; exact List.mem_singleton.mpr rfl))]
  exact h
theorem Kp.sub {bs cs : List Addr} {H H' : Hp} (k : Kp bs H H') (h : ∀ a ∈ bs, a ∈ cs) : Kp cs H H' := fun a o n ha => k a o (fun z => n (h a z)) ha
theorem cut_two (xs : List V) (a b : V) : cutV (xs ++ [a, b]) (some (-2)) none = [a, b] := by
  unfold cutV
  rw [HT.sIx_none]
  have e : HT.sIx (xs ++ [a, b]).length 0 (some (-2)) = xs.length := by
    have hl : (xs ++ [a, b]).length = xs.length + 2 := by rw [List.length_append]; rfl
    rw [hl]
    show (if (-2 : Int) < 0 then (-2 + ((xs.length + 2 : Nat) : Int)).toNat else min (-2 : Int).toNat (xs.length + 2)) = xs.length
    rw [if_pos (by decide)]
    omega
  rw [e, List.drop_left, List.length_append]
  show List.take (xs.length + 2 - xs.length) [a, b] = [a, b]
  rw [Nat.add_sub_cancel_left]
  rfl
def sp_Search___init__ (K : PySem.W.Frag) : Sp := fun vs H Q _ => ∃ (x dx : Addr) (L : Int), vs = [.ref x, .int L] ∧ H x = some (.ins (SC K) dx []) ∧ 1 ≤ L ∧ L ≤ 60 ∧
  ∀ H' S W F u, Kp [x] H H' → H S = none → H W = none → H F = none → Sr (SC K) H' x dx S W F L [] [] [u] [rng 1 (L + 1)] → Q .non H'
abbrev N_Search___init__ : List Str := ["self", "length"]
def t_Search___init__ (K : PySem.W.Frag) : TS := (tSeq (tDrop (tCall (sp_check_length K) [] E0 (tCons (tVar 1) tNil)))
  (tSeq (sFld K (tVar 0) (tVar 1) "length")
  (tSeq (sFld K (tVar 0) (tLst tNil) "stood")
  (tSeq (sFld K (tVar 0) (tLst tNil) "words")
  (sFld K (tVar 0) (tLst (tCons (tTupRg (tRg2 (tC (.int 1)) (tOp (rI0 fun i j => .int (i + j)) (tVar 1) (tC (.int 1))))) tNil)) "left")))))
theorem rgV_rngS (a b : Int) : rgV a b = (rng a b).map V.int := by
  unfold rgV rng
  rw [List.map_map]
  rfl
theorem pure_Search___init__ {K : PySem.W.Frag} (T : SrF K) {vs : List V} {H : Hp} {Q : VK} {E : XK} (h : sp_Search___init__ K vs H Q E) : t_Search___init__ K { nx := fun _ H' => Q .non H', rt := Q } (start N_Search___init__ vs) H := by
  obtain ⟨x, dx, L, rfl, hx, h1, h2, q⟩ := h
  refine ⟨_, rfl, L, rfl, h1, h2, ?_⟩
  refine ⟨_, rfl, _, rfl, x, SC K, dx, [], rfl, hx, T.cl, T.nl, by decide, ?_⟩
  have g1 : (upd H x (.ins (SC K) dx [("length", .int L)])) x = some (.ins (SC K) dx [("length", .int L)]) := upd_same
  have k1 : Kp [x] H (upd H x (.ins (SC K) dx [("length", .int L)])) := Kp.one
  have n1 : ∀ a, (upd H x (.ins (SC K) dx [("length", .int L)])) a = none → H a = none := fun a z => by
    by_cases e : a = x
    · rw [e, upd_same] at z
      cases z
    · rw [upd_ne e] at z
      exact z
  show tSeq _ _ _ _ (upd H x (.ins (SC K) dx [("length", .int L)]))
  generalize upd H x (.ins (SC K) dx [("length", .int L)]) = H1 at g1 k1 n1 ⊢
  refine ⟨by show 0 ≤ sizeLine; decide, fun S nS => ?_⟩
  have e2 : Ex H1 (upd H1 S (.lst [])) := Ex.new nS
  have g2 := e2 _ _ g1
  have s2 : (upd H1 S (.lst [])) S = some (.lst []) := upd_same
  have k2 : Kp [x] H (upd H1 S (.lst [])) := k1.trans (Kp.ex e2)
  have n2 : ∀ a, (upd H1 S (.lst [])) a = none → H1 a = none := fun a z => fresh_back e2 z
  generalize upd H1 S (.lst []) = H2 at g2 s2 k2 n2 ⊢
  refine ⟨_, rfl, x, SC K, dx, _, rfl, g2, T.cl, T.ns, by show 1 < 1000; decide, ?_⟩
  have g3 : (upd H2 x (.ins (SC K) dx [("length", .int L), ("stood", .ref S)])) x = some (.ins (SC K) dx [("length", .int L), ("stood", .ref S)]) := upd_same
  have nSx : S ≠ x := ne_of s2 g2 (by intro z; cases z)
  have s3 : (upd H2 x (.ins (SC K) dx [("length", .int L), ("stood", .ref S)])) S = some (.lst []) := by rw [upd_ne nSx]; exact s2
  have k3 : Kp [x] H (upd H2 x (.ins (SC K) dx [("length", .int L), ("stood", .ref S)])) := k2.trans Kp.one
  have n3 : ∀ a, (upd H2 x (.ins (SC K) dx [("length", .int L), ("stood", .ref S)])) a = none → H2 a = none := fun a z => by
    by_cases e : a = x
    · rw [e, upd_same] at z
      cases z
    · rw [upd_ne e] at z
      exact z
  show tSeq _ _ _ _ (upd H2 x (.ins (SC K) dx [("length", .int L), ("stood", .ref S)]))
  generalize upd H2 x (.ins (SC K) dx [("length", .int L), ("stood", .ref S)]) = H3 at g3 s3 k3 n3 ⊢
  refine ⟨by show 0 ≤ sizeLine; decide, fun W nW => ?_⟩
  have e4 : Ex H3 (upd H3 W (.lst [])) := Ex.new nW
  have g4 := e4 _ _ g3
  have s4 := e4 _ _ s3
  have nSW : S ≠ W := ne_of_none s3 nW
  have w4 : (upd H3 W (.lst [])) W = some (.lst []) := upd_same
  have k4 : Kp [x] H (upd H3 W (.lst [])) := k3.trans (Kp.ex e4)
  have n4 : ∀ a, (upd H3 W (.lst [])) a = none → H3 a = none := fun a z => fresh_back e4 z
  generalize upd H3 W (.lst []) = H4 at g4 s4 w4 k4 n4 ⊢
  refine ⟨_, rfl, x, SC K, dx, _, rfl, g4, T.cl, T.nw, by show 2 < 1000; decide, ?_⟩
  have nWx : W ≠ x := ne_of w4 g4 (by intro z; cases z)
  have g5 : (upd H4 x (.ins (SC K) dx [("length", .int L), ("stood", .ref S), ("words", .ref W)])) x = some (.ins (SC K) dx [("length", .int L), ("stood", .ref S), ("words", .ref W)]) := upd_same
  have s5 : (upd H4 x (.ins (SC K) dx [("length", .int L), ("stood", .ref S), ("words", .ref W)])) S = some (.lst []) := by rw [upd_ne nSx]; exact s4
  have w5 : (upd H4 x (.ins (SC K) dx [("length", .int L), ("stood", .ref S), ("words", .ref W)])) W = some (.lst []) := by rw [upd_ne nWx]; exact w4
  have k5 : Kp [x] H (upd H4 x (.ins (SC K) dx [("length", .int L), ("stood", .ref S), ("words", .ref W)])) := k4.trans Kp.one
  have n5 : ∀ a, (upd H4 x (.ins (SC K) dx [("length", .int L), ("stood", .ref S), ("words", .ref W)])) a = none → H4 a = none := fun a z => by
    by_cases e : a = x
    · rw [e, upd_same] at z
      cases z
    · rw [upd_ne e] at z
      exact z
  have ep : putF "words" (V.ref W) [("length", V.int L), ("stood", V.ref S)] = ([("length", V.int L), ("stood", V.ref S), ("words", V.ref W)] : List (Str × V)) := by rfl
  rw [ep]
  dsimp only
  generalize upd H4 x (.ins (SC K) dx [("length", .int L), ("stood", .ref S), ("words", .ref W)]) = H5 at g5 s5 w5 k5 n5 ⊢
  refine ⟨_, rfl, L, 1, rfl, rfl, 1, L + 1, rfl, rfl, RgOk.of_le (by omega) (by omega) (by omega) (by omega), fun u nu => ?_⟩
  rw [rgV_rngS]
  have e6 : Ex H5 (upd H5 u (.tup ((rng 1 (L + 1)).map V.int))) := Ex.new nu
  have u6 : (upd H5 u (.tup ((rng 1 (L + 1)).map V.int))) u = some (.tup ((rng 1 (L + 1)).map V.int)) := upd_same
  generalize upd H5 u (.tup ((rng 1 (L + 1)).map V.int)) = H6 at e6 u6 ⊢
  refine ⟨by show 1 ≤ sizeLine; decide, fun F nF => ?_⟩
  have e7 : Ex H6 (upd H6 F (.lst [.ref u])) := Ex.new nF
  have f7 : (upd H6 F (.lst [.ref u])) F = some (.lst ([u].map V.ref)) := upd_same
  generalize upd H6 F (.lst [.ref u]) = H7 at e7 f7 ⊢
  have e57 := e6.trans e7
  have g7 := e57 _ _ g5
  have nFx : F ≠ x := ne_of f7 g7 (by intro z; cases z)
  have nux : u ≠ x := ne_of (e7 _ _ u6) g7 (by intro z; cases z)
  have nF5 : H5 F = none := fresh_back e6 nF
  refine ⟨_, rfl, x, SC K, dx, _, rfl, g7, T.cl, T.nf, by show 3 < 1000; decide, ?_⟩
  refine q _ S W F u ((k5.trans (Kp.ex e57)).trans Kp.one) (n1 _ nS) (n1 _ (n2 _ (n3 _ nW))) (n1 _ (n2 _ (n3 _ (n4 _ (n5 _ nF5))))) ⟨upd_same, ?_, ?_, ?_, .cons ?_ .nil, nSW, ne_of_none s5 nF5, ne_of_none w5 nF5⟩
  · rw [upd_ne nSx]
    exact e57 _ _ s5
  · rw [upd_ne nWx]
    exact e57 _ _ w5
  · rw [upd_ne nFx]
    exact f7
  · rw [upd_ne nux]
    exact e7 _ _ u6
theorem len_Search___init__ {K : PySem.W.Frag} {vs : List V} {H : Hp} {Q : VK} {E : XK} (h : sp_Search___init__ K vs H Q E) : vs.length = 2 := by
  obtain ⟨x, dx, L, rfl, _⟩ := h
  rfl
def sp_Search_waits (K : PySem.W.Frag) : Sp := fun vs H Q _ => ∃ (x dx S W F : Addr) (L : Int) (st : List Int) (ws : List Wo) (us : List Addr) (fs : List (List Int)), vs = [.ref x] ∧ Sr (SC K) H x dx S W F L st ws us fs ∧ Q (.bl (decide (ws.length + 1 < st.length))) H
abbrev N_Search_waits : List Str := ["self"]
def t_Search_waits (K : PySem.W.Frag) : TS := (tRet (tOp (rI0 fun i j => .bl (decide (j < i))) (tCB (rLenQ K) (tCons (tFld K (tVar 0) "stood") tNil)) (tOp (rI0 fun i j => .int (i + j)) (tCB (rLenQ K) (tCons (tFld K (tVar 0) "words") tNil)) (tC (.int 1)))))
theorem pure_Search_waits {K : PySem.W.Frag} (T : SrF K) {vs : List V} {H : Hp} {Q : VK} {E : XK} (h : sp_Search_waits K vs H Q E) : t_Search_waits K { nx := fun _ H' => Q .non H', rt := Q } (start N_Search_waits vs) H := by
  obtain ⟨x, dx, S, W, F, L, st, ws, us, fs, rfl, r, q⟩ := h
  refine ⟨_, rfl, x, SC K, dx, _, .ref S, rfl, r.ins, T.cl, T.ns, rfl, S, _, rfl, .inl (SqL.of r.hS), _, rfl, x, SC K, dx, _, .ref W, rfl, r.ins, T.cl, T.nw, rfl, W, _, rfl, .inl (SqL.of r.hW), _, 1, rfl, rfl, _, _, rfl, rfl, ?_⟩
  have e : decide (((ws.map vW).length : Int) + 1 < ((st.map V.int).length : Int)) = decide (ws.length + 1 < st.length) := by
    rw [List.length_map, List.length_map]
    exact decide_eq_decide.mpr ⟨fun z => by omega, fun z => by omega⟩
  dsimp only
  rw [e]
  exact q
theorem len_Search_waits {K : PySem.W.Frag} {vs : List V} {H : Hp} {Q : VK} {E : XK} (h : sp_Search_waits K vs H Q E) : vs.length = 1 := by
  obtain ⟨x, dx, S, W, F, L, st, ws, us, fs, rfl, _⟩ := h
  rfl
def sp_Search_stand (K : PySem.W.Frag) : Sp := fun vs H Q _ => ∃ (x dx S W F : Addr) (L p : Int) (st : List Int) (ws : List Wo) (us : List Addr) (fs : List (List Int)), vs = [.ref x, .int p] ∧ Sr (SC K) H x dx S W F L st ws us fs ∧ 1 ≤ p ∧ p ≤ L ∧ st.length ≤ ws.length + 1 ∧ st.length ≤ 900 ∧
  ∀ H', Kp [S] H H' → Sr (SC K) H' x dx S W F L (st ++ [p]) ws us fs → Q .non H'
abbrev N_Search_stand : List Str := ["self", "place"]
def t_Search_stand (K : PySem.W.Frag) : TS := (tSeq (tDrop (tCall (sp_check_place K) [] E0 (tCons (tVar 1) (tCons (tFld K (tVar 0) "length") tNil))))
  (tSeq (tIfS (tB (tMeth (He.ga K "Search") "waits" (sp_Search_waits K) [] E0 (tVar 0) tNil)) tNever tNext)
  (tDrop (tBM K "list" rAppend (tFld K (tVar 0) "stood") (tCons (tVar 1) tNil)))))
theorem pure_Search_stand {K : PySem.W.Frag} (T : SrF K) {vs : List V} {H : Hp} {Q : VK} {E : XK} (h : sp_Search_stand K vs H Q E) : t_Search_stand K { nx := fun _ H' => Q .non H', rt := Q } (start N_Search_stand vs) H := by
  obtain ⟨x, dx, S, W, F, L, p, st, ws, us, fs, rfl, r, h1, h2, h3, h4, q⟩ := h
  refine ⟨_, rfl, _, rfl, x, SC K, dx, _, .int L, rfl, r.ins, T.cl, T.nl, rfl, p, L, rfl, h1, h2, ?_⟩
  refine ⟨_, rfl, x, dx, _, rfl, r.ins, rfl, x, dx, S, W, F, L, st, ws, us, fs, rfl, r, _, rfl, ?_⟩
  rw [decide_eq_false (by omega)]
  refine iteF ⟨_, rfl, x, SC K, dx, _, .ref S, rfl, r.ins, T.cl, T.ns, rfl, .inl ⟨rfl, _, SqL.of r.hS⟩, _, rfl, S, _, _, rfl, rfl, r.hS, ?_, ?_⟩
  · rw [List.length_map]
    exact small1000 (by omega)
  · exact q _ Kp.one r.stand
theorem len_Search_stand {K : PySem.W.Frag} {vs : List V} {H : Hp} {Q : VK} {E : XK} (h : sp_Search_stand K vs H Q E) : vs.length = 2 := by
  obtain ⟨x, dx, S, W, F, L, p, st, ws, us, fs, rfl, _⟩ := h
  rfl
def sp_Search_answer (K : PySem.W.Frag) : Sp := fun vs H Q _ => ∃ (x dx S W F : Addr) (L e l : Int) (w : Wo) (st : List Int) (ws : List Wo) (us : List Addr) (fs : List (List Int)) (f : List Int), vs = [.ref x, vW w] ∧ Sr (SC K) H x dx S W F L (st ++ [e, l]) ws us (fs ++ [f]) ∧ ws.length < st.length + 1 ∧ ws.length ≤ 900 ∧ fs.length ≤ 900 ∧ f.length ≤ 900 ∧ (f.filter fun t => decide (mv t e l = w)) ≠ [] ∧
  ∀ H' u, Kp [W, F] H H' → Sr (SC K) H' x dx S W F L (st ++ [e, l]) (ws ++ [w]) (us ++ [u]) (fs ++ [f] ++ [f.filter fun t => decide (mv t e l = w)]) → Q .non H'
abbrev N_Search_answer : List Str := ["self", "word", "earlier", "later", "still", "place"]
def t_Search_answer (K : PySem.W.Frag) : TS := (tSeq (tDrop (tCall (sp_check_answer K) [] E0 (tCons (tVar 1) tNil)))
  (tSeq (tIfS (tNot (tB (tMeth (He.ga K "Search") "waits" (sp_Search_waits K) [] E0 (tVar 0) tNil))) tNever tNext)
  (tSeq (tAsg (tSl (rSlL K) (tFld K (tVar 0) "stood") (tPart (tUn (rU fun i => .int (-i)) (tC (.int 2)))) tNoPart) (gUnl K 2 (gCons (gName 2) (gCons (gName 3) gNil))))
  (tSeq (tAsg (tLc (iTup K (tOp (rIxL K) (tFld K (tVar 0) "left") (tUn (rU fun i => .int (-i)) (tC (.int 1))))) (gName 5) (tTest (tOp rEq (tCall (sp_answer_to_move K) [] E0 (tCons (tVar 5) (tCons (tVar 2) (tCons (tVar 3) tNil)))) (tVar 1))) (tVar 5) [5]) (gName 4))
  (tSeq (tIfS (tNot (tTruL K (tVar 4))) tNever tNext)
  (tSeq (tDrop (tBM K "list" rAppend (tFld K (tVar 0) "words") (tCons (tVar 1) tNil)))
  (tDrop (tBM K "list" rAppend (tFld K (tVar 0) "left") (tCons (tCB (rTupleOf K) (tCons (tVar 4) tNil)) tNil)))))))))
theorem pure_Search_answer {K : PySem.W.Frag} (T : SrF K) {vs : List V} {H : Hp} {Q : VK} {E : XK} (h : sp_Search_answer K vs H Q E) : t_Search_answer K { nx := fun _ H' => Q .non H', rt := Q } (start N_Search_answer vs) H := by
  obtain ⟨x, dx, S, W, F, L, e, l, w, st, ws, us, fs, f, rfl, r, hwt, hwl, hfl, hfl2, hne, q⟩ := h
  refine ⟨_, rfl, w, rfl, ?_⟩
  refine ⟨_, rfl, x, dx, _, rfl, r.ins, rfl, x, dx, S, W, F, L, _, ws, us, _, rfl, r, _, rfl, ?_⟩
  rw [decide_eq_true (by rw [List.length_append]; show ws.length + 1 < st.length + 2; omega)]
  refine iteF ?_
  refine ⟨_, rfl, x, SC K, dx, _, .ref S, rfl, r.ins, T.cl, T.ns, rfl, 2, rfl, -2, rfl, S, _, rfl, SqL.of r.hS, fun c nc => ?_⟩
  have ecut : cutV ((st ++ [e, l]).map V.int) (some (-2)) none = [V.int e, V.int l] := by
    rw [List.map_append]
    exact cut_two _ _ _
  rw [ecut]
  have e1 : Ex H (upd H c (.lst [.int e, .int l])) := Ex.new nc
  have hc1 : (upd H c (.lst [.int e, .int l])) c = some (.lst [.int e, .int l]) := upd_same
  have r1 := r.ex e1
  generalize upd H c (.lst [.int e, .int l]) = H1 at e1 hc1 r1 ⊢
  refine ⟨c, _, rfl, SqL.of hc1, rfl, _, _, rfl, _, [], rfl, rfl, ?_⟩
  obtain ⟨us', u, eus, hu, _⟩ := r1.hT.last
  have hF1 := r1.hF
  rw [eus, List.map_append] at hF1
  have hcmp : Evl.EvL (tLc (iTup K (tOp (rIxL K) (tFld K (tVar 0) "left") (tUn (rU fun i => .int (-i)) (tC (.int 1))))) (gName 5) (tTest (tOp rEq (tCall (sp_answer_to_move K) [] E0 (tCons (tVar 5) (tCons (tVar 2) (tCons (tVar 3) tNil)))) (tVar 1))) (tVar 5) [5]) [some (.ref x), some (vW w), some (.int e), some (.int l), none, none] H1 ((f.filter fun t => decide (mv t e l = w)).map V.int) := by
    have ht : Evl.Ev (tOp (rIxL K) (tFld K (tVar 0) "left") (tUn (rU fun i => .int (-i)) (tC (.int 1)))) [some (.ref x), some (vW w), some (.int e), some (.int l), none, none] H1 (.ref u) := fun H2 e2 Q2 q2 =>
      ⟨_, rfl, x, SC K, dx, _, .ref F, rfl, e2 _ _ r1.ins, T.cl, T.nf, rfl, 1, rfl, F, _, -1, .ref u, rfl, rfl, SqL.of (e2 _ _ hF1), atI_last _ _, q2 H2 (Ex.refl H2)⟩
    refine el_tup (K := K) (a := u) (fun t => decide (mv t e l = w)) V.int ht (SqT.of hu) (by omega) (fun _ => rfl) (fun n H2 e2 _ => ?_) (fun n H2 e2 _ _ => Evl.ev_var rfl)
    intro H3 e3 Q3 q3
    refine ⟨_, rfl, _, rfl, _, rfl, n, e, l, rfl, _, rfl, rfl, _, rfl, ?_⟩
    have ed : decide (vW (mv n e l) = vW w) = decide (mv n e l = w) := decide_eq_decide.mpr ⟨vW_inj, fun z => by rw [z]⟩
    rw [ed]
    exact q3 H3 (Ex.refl H3)
  dsimp only [gName, gCons, gNil, tSeq, tAsg]
  refine hcmp H1 (Ex.refl H1) _ fun D H2 nD e2 hD => ?_
  have r2 := r1.ex e2
  have hlen : (f.filter fun t => decide (mv t e l = w)).length ≤ f.length := List.length_filter_le _ _
  generalize (f.filter fun t => decide (mv t e l = w)) = g at hne hD q hlen
  refine ⟨_, rfl, _, .inl ⟨_, SqL.of hD, rfl⟩, ?_⟩
  have eg : (!(g.map V.int).isEmpty) = true := by
    cases g with
    | nil => exact absurd rfl hne
    | cons y z => rfl
  rw [eg]
  refine iteF ?_
  refine ⟨_, rfl, x, SC K, dx, _, .ref W, rfl, r2.ins, T.cl, T.nw, rfl, .inl ⟨rfl, _, SqL.of r2.hW⟩, _, rfl, W, _, _, rfl, rfl, r2.hW, ?_, ?_⟩
  · rw [List.length_map]
    exact small1000 (by omega)
  have hx3 : (upd H2 W (.lst (ws.map vW ++ [vW w]))) x = some (.ins (SC K) dx [("length", .int L), ("stood", .ref S), ("words", .ref W), ("left", .ref F)]) := by
    rw [upd_ne (ne_of r2.ins r2.hW (by intro z; cases z))]
    exact r2.ins
  have hF3 : (upd H2 W (.lst (ws.map vW ++ [vW w]))) F = some (.lst (us.map V.ref)) := by
    rw [upd_ne r2.nWF.symm]
    exact r2.hF
  have nDW : D ≠ W := fun z => by
    rw [z, r1.hW] at nD
    cases nD
  have nDF : D ≠ F := fun z => by
    rw [z, r1.hF] at nD
    cases nD
  have hD3 : (upd H2 W (.lst (ws.map vW ++ [vW w]))) D = some (.lst (g.map V.int)) := by
    rw [upd_ne nDW]
    exact hD
  have hS3 : (upd H2 W (.lst (ws.map vW ++ [vW w]))) S = some (.lst ((st ++ [e, l]).map V.int)) := by
    rw [upd_ne r2.nSW]
    exact r2.hS
  have hW3 : (upd H2 W (.lst (ws.map vW ++ [vW w]))) W = some (.lst ((ws ++ [w]).map vW)) := by
    rw [upd_same, List.map_append]
    rfl
  have hT3 : AtTups (upd H2 W (.lst (ws.map vW ++ [vW w]))) us (fs ++ [f]) := r2.hT.imp fun a xs h => by
    rw [upd_ne (ne_of h r2.hW (by intro z; cases z))]
    exact h
  have k3 : Kp [W, F] H (upd H2 W (.lst (ws.map vW ++ [vW w]))) := (Kp.ex (e1.trans e2)).trans (Kp.one.sub fun a ha => by
    rw [List.mem_singleton.mp ha]
    exact List.mem_cons_self)
  generalize upd H2 W (.lst (ws.map vW ++ [vW w])) = H3 at hx3 hF3 hD3 hS3 hW3 hT3 k3 ⊢
  refine ⟨_, rfl, x, SC K, dx, _, .ref F, rfl, hx3, T.cl, T.nf, rfl, .inl ⟨rfl, _, SqL.of hF3⟩, _, rfl, D, _, rfl, .inl ⟨SqL.of hD3, fun u' nu' => ?_⟩⟩
  have e4 : Ex H3 (upd H3 u' (.tup (g.map V.int))) := Ex.new nu'
  have hu4 : (upd H3 u' (.tup (g.map V.int))) u' = some (.tup (g.map V.int)) := upd_same
  generalize upd H3 u' (.tup (g.map V.int)) = H4 at e4 hu4 ⊢
  have hF4 := e4 _ _ hF3
  refine ⟨F, _, _, rfl, rfl, hF4, ?_, ?_⟩
  · have := r.hT.len
    rw [List.length_append] at this
    rw [List.length_map, this]
    exact small1000 (by show fs.length + 1 ≤ 1000; omega)
  · have kt : ∀ a xs, H4 a = some (.tup xs) → (upd H4 F (.lst (us.map V.ref ++ [.ref u']))) a = some (.tup xs) := fun a xs h => by
      rw [upd_ne (ne_of h hF4 (by intro z; cases z))]
      exact h
    refine q _ u' ((k3.trans (Kp.ex e4)).trans (Kp.one.sub fun a ha => by
      rw [List.mem_singleton.mp ha]
      exact List.mem_cons_of_mem _ List.mem_cons_self)) ⟨?_, ?_, ?_, ?_, ?_, r.nSW, r.nSF, r.nWF⟩
    · rw [upd_ne (ne_of (e4 _ _ hx3) hF4 (by intro z; cases z))]
      exact e4 _ _ hx3
    · rw [upd_ne r.nSF]
      exact e4 _ _ hS3
    · rw [upd_ne r.nWF]
      exact e4 _ _ hW3
    · rw [upd_same, List.map_append]
      rfl
    · exact ((hT3.imp fun a xs h => e4 _ _ h).snoc hu4).imp kt
theorem len_Search_answer {K : PySem.W.Frag} {vs : List V} {H : Hp} {Q : VK} {E : XK} (h : sp_Search_answer K vs H Q E) : vs.length = 2 := by
  obtain ⟨x, dx, S, W, F, L, e, l, w, st, ws, us, fs, f, rfl, _⟩ := h
  rfl
def sp_Search_stands (K : PySem.W.Frag) : Sp := fun vs H Q _ => ∃ (x dx S W F : Addr) (L : Int) (st : List Int) (ws : List Wo) (us : List Addr) (fs : List (List Int)), vs = [.ref x] ∧ Sr (SC K) H x dx S W F L st ws us fs ∧ ∀ p H', H p = none → Ex H H' → H' p = some (.lst (st.map V.int)) → Q (.ref p) H'
abbrev N_Search_stands : List Str := ["self"]
def t_Search_stands (K : PySem.W.Frag) : TS := (tRet (tCB (rListOf K) (tCons (tFld K (tVar 0) "stood") tNil)))
theorem pure_Search_stands {K : PySem.W.Frag} (T : SrF K) {vs : List V} {H : Hp} {Q : VK} {E : XK} (h : sp_Search_stands K vs H Q E) : t_Search_stands K { nx := fun _ H' => Q .non H', rt := Q } (start N_Search_stands vs) H := by
  obtain ⟨x, dx, S, W, F, L, st, ws, us, fs, rfl, r, q⟩ := h
  exact ⟨_, rfl, x, SC K, dx, _, .ref S, rfl, r.ins, T.cl, T.ns, rfl, S, _, rfl, .inl (SqL.of r.hS), fun p np => q p _ np (Ex.new np) upd_same⟩
theorem len_Search_stands {K : PySem.W.Frag} {vs : List V} {H : Hp} {Q : VK} {E : XK} (h : sp_Search_stands K vs H Q E) : vs.length = 1 := by
  obtain ⟨x, dx, S, W, F, L, st, ws, us, fs, rfl, _⟩ := h
  rfl
def sp_Search_can_lie (K : PySem.W.Frag) : Sp := fun vs H Q _ => ∃ (x dx S W F : Addr) (L : Int) (st : List Int) (ws : List Wo) (us : List Addr) (fs : List (List Int)) (f : List Int), vs = [.ref x] ∧ Sr (SC K) H x dx S W F L st ws us (fs ++ [f]) ∧ ∀ p, H p = some (.tup (f.map V.int)) → Q (.ref p) H
abbrev N_Search_can_lie : List Str := ["self"]
def t_Search_can_lie (K : PySem.W.Frag) : TS := (tRet (tOp (rIxL K) (tFld K (tVar 0) "left") (tUn (rU fun i => .int (-i)) (tC (.int 1)))))
theorem pure_Search_can_lie {K : PySem.W.Frag} (T : SrF K) {vs : List V} {H : Hp} {Q : VK} {E : XK} (h : sp_Search_can_lie K vs H Q E) : t_Search_can_lie K { nx := fun _ H' => Q .non H', rt := Q } (start N_Search_can_lie vs) H := by
  obtain ⟨x, dx, S, W, F, L, st, ws, us, fs, f, rfl, r, q⟩ := h
  obtain ⟨us', u, rfl, hu, _⟩ := r.hT.last
  have hF := r.hF
  rw [List.map_append] at hF
  exact ⟨_, rfl, x, SC K, dx, _, .ref F, rfl, r.ins, T.cl, T.nf, rfl, 1, rfl, F, _, -1, .ref u, rfl, rfl, SqL.of hF, atI_last _ _, q u hu⟩
theorem len_Search_can_lie {K : PySem.W.Frag} {vs : List V} {H : Hp} {Q : VK} {E : XK} (h : sp_Search_can_lie K vs H Q E) : vs.length = 1 := by
  obtain ⟨x, dx, S, W, F, L, st, ws, us, fs, f, rfl, _⟩ := h
  rfl
def sp_Search___len__ (K : PySem.W.Frag) : Sp := fun vs H Q _ => ∃ (x dx S W F : Addr) (L : Int) (st : List Int) (ws : List Wo) (us : List Addr) (fs : List (List Int)), vs = [.ref x] ∧ Sr (SC K) H x dx S W F L st ws us fs ∧ Q (.int (st.length : Nat)) H
abbrev N_Search___len__ : List Str := ["self"]
def t_Search___len__ (K : PySem.W.Frag) : TS := (tRet (tCB (rLenQ K) (tCons (tFld K (tVar 0) "stood") tNil)))
theorem pure_Search___len__ {K : PySem.W.Frag} (T : SrF K) {vs : List V} {H : Hp} {Q : VK} {E : XK} (h : sp_Search___len__ K vs H Q E) : t_Search___len__ K { nx := fun _ H' => Q .non H', rt := Q } (start N_Search___len__ vs) H := by
  obtain ⟨x, dx, S, W, F, L, st, ws, us, fs, rfl, r, q⟩ := h
  refine ⟨_, rfl, x, SC K, dx, _, .ref S, rfl, r.ins, T.cl, T.ns, rfl, S, _, rfl, .inl (SqL.of r.hS), ?_⟩
  rw [List.length_map]
  exact q
theorem len_Search___len__ {K : PySem.W.Frag} {vs : List V} {H : Hp} {Q : VK} {E : XK} (h : sp_Search___len__ K vs H Q E) : vs.length = 1 := by
  obtain ⟨x, dx, S, W, F, L, st, ws, us, fs, rfl, _⟩ := h
  rfl
/-! ### paths: stretches, mirrors -/
theorem rng_nil {lo hi : Int} (h : hi ≤ lo) : rng lo hi = [] := by
  unfold rng
  have e : (hi - lo).toNat = 0 := by omega
  rw [e]
  rfl
theorem rng_cons {lo hi : Int} (h : lo < hi) : rng lo hi = lo :: rng (lo + 1) hi := by
  unfold rng
  have e : (hi - lo).toNat = (hi - (lo + 1)).toNat + 1 := by omega
  rw [e, List.range_succ_eq_map, List.map_cons, List.map_map]
  congr 1
  · exact Int.add_zero lo
  · refine List.map_congr_left fun k _ => ?_
    show lo + ((k + 1 : Nat) : Int) = lo + 1 + (k : Int)
    omega
theorem rng_snoc {lo hi : Int} (h : lo ≤ hi) : rng lo (hi + 1) = rng lo hi ++ [hi] := by
  unfold rng
  have e : (hi + 1 - lo).toNat = (hi - lo).toNat + 1 := by omega
  rw [e, List.range_succ, List.map_append]
  congr 1
  show [lo + (((hi - lo).toNat : Nat) : Int)] = [hi]
  congr 1
  omega
/-- what a convex wish leaves of a stretch is a stretch -/
theorem rng_convex {p : Int → Bool} (hp : ∀ x y z, x < y → y < z → p x = true → p z = true → p y = true) : ∀ (n : Nat) (lo hi : Int), (hi - lo).toNat = n → ∃ a b, (rng lo hi).filter p = rng a b
  | 0, lo, hi, hn => ⟨0, 0, by rw [rng_nil (by omega), rng_nil (by omega)]; rfl⟩
  | n + 1, lo, hi, hn => by
    have hlt : lo < hi := by omega
    obtain ⟨a, b, e⟩ := rng_convex hp n (lo + 1) hi (by omega)
    rw [rng_cons hlt]
    cases hl : p lo with
    | false =>
      rw [List.filter_cons_of_neg (by rw [hl]; decide)]
      exact ⟨a, b, e⟩
    | true =>
      rw [List.filter_cons_of_pos hl, e]
      by_cases hab : a < b
      · have ha : a ∈ (rng (lo + 1) hi).filter p := by
          rw [e]
          exact mem_rng.mpr ⟨by omega, hab⟩
        obtain ⟨m1, m2⟩ := List.mem_filter.mp ha
        have m3 := mem_rng.mp m1
        have q : p (lo + 1) = true := by
          by_cases z : a = lo + 1
          · rw [← z]
            exact m2
          · exact hp lo (lo + 1) a (by omega) (by omega) hl m2
        have m4 : lo + 1 ∈ rng a b := by
          rw [← e]
          exact List.mem_filter.mpr ⟨mem_rng.mpr ⟨by omega, by omega⟩, q⟩
        have m5 := mem_rng.mp m4
        have z : a = lo + 1 := by omega
        exact ⟨lo, b, by rw [rng_cons (show lo < b by omega), z]⟩
      · rw [rng_nil (by omega : b ≤ a)]
        exact ⟨lo, lo + 1, by rw [rng_cons (by omega), rng_nil (by omega)]⟩
theorem wordsOf_cons2 (t a b : Int) (r : List Int) : wordsOf t (a :: b :: r) = mv t a b :: wordsOf t (b :: r) := rfl
theorem wordsOf_takeS (t : Int) : ∀ (st : List Int) (i : Nat), (wordsOf t st).take i = wordsOf t (st.take (i + 1))
  | [], i => by simp [wordsOf]
  | [a], i => by
    rw [List.take_of_length_le (show ([a] : List Int).length ≤ i + 1 by simp)]
    show ([] : List Wo).take i = []
    rw [List.take_nil]
  | a :: b :: r, 0 => rfl
  | a :: b :: r, i + 1 => by
    rw [wordsOf_cons2, List.take_succ_cons, wordsOf_takeS t (b :: r) i]
    rfl
theorem wordsOf_one (t : Int) {st : List Int} (h : st.length ≤ 1) : wordsOf t st = [] := by
  match st, h with
  | [], _ => rfl
  | [_], _ => rfl
/-- one stand more -/
theorem wordsOf_step (t : Int) (st : List Int) (i : Nat) (h : i + 1 < st.length) : wordsOf t (st.take (i + 2)) = wordsOf t (st.take (i + 1)) ++ [mv t st[i] st[i + 1]] := by
  rw [← wordsOf_takeS, ← wordsOf_takeS, List.take_add_one, wordsOf_get t st i _ _ (List.getElem?_eq_getElem (by omega)) (List.getElem?_eq_getElem h)]
  rfl
theorem lies_step (l t0 : Int) (st : List Int) (i : Nat) (h : i + 1 < st.length) :
    lies l (st.take (i + 2)) ((wordsOf t0 st).take (i + 1)) = (lies l (st.take (i + 1)) ((wordsOf t0 st).take i)).filter fun t => decide (mv t st[i] st[i + 1] = mv t0 st[i] st[i + 1]) := by
  unfold lies
  rw [List.filter_filter]
  refine List.filter_congr fun t _ => ?_
  rw [wordsOf_takeS, wordsOf_takeS, wordsOf_step t st i h, wordsOf_step t0 st i h]
  have e : (wordsOf t (st.take (i + 1)) ++ [mv t st[i] st[i + 1]] = wordsOf t0 (st.take (i + 1)) ++ [mv t0 st[i] st[i + 1]]) ↔ (mv t st[i] st[i + 1] = mv t0 st[i] st[i + 1] ∧ wordsOf t (st.take (i + 1)) = wordsOf t0 (st.take (i + 1))) := by
    constructor
    · intro h2
      obtain ⟨h3, h4⟩ := List.append_inj' h2 rfl
      exact ⟨by simpa using h4, h3⟩
    · rintro ⟨h3, h4⟩
      rw [h3, h4]
  rw [← Bool.decide_and]
  exact decide_eq_decide.mpr e
theorem ab_cases (i : Int) : (0 ≤ i ∧ ab i = i) ∨ (i < 0 ∧ ab i = -i) := by
  unfold ab
  split
  · exact .inr ⟨by omega, rfl⟩
  · exact .inl ⟨by omega, rfl⟩
theorem mv_cases (t b n : Int) : (mv t b n = .warm ∧ ab (t - n) < ab (t - b)) ∨ (mv t b n = .cold ∧ ab (t - b) < ab (t - n)) ∨ (mv t b n = .same ∧ ab (t - b) = ab (t - n)) := by
  unfold mv word
  split
  · exact .inl ⟨rfl, by assumption⟩
  · split
    · exact .inr (.inl ⟨rfl, by assumption⟩)
    · exact .inr (.inr ⟨rfl, by omega⟩)
theorem mv_side (t b n : Int) : (mv t b n = .warm ∧ ((b < n ∧ b + n < 2 * t) ∨ (n < b ∧ 2 * t < b + n))) ∨ (mv t b n = .cold ∧ ((b < n ∧ 2 * t < b + n) ∨ (n < b ∧ b + n < 2 * t))) ∨ (mv t b n = .same ∧ (b = n ∨ 2 * t = b + n)) := by
  have h1 := ab_cases (t - b)
  have h2 := ab_cases (t - n)
  rcases mv_cases t b n with ⟨e, h⟩ | ⟨e, h⟩ | ⟨e, h⟩
  · exact .inl ⟨e, by omega⟩
  · exact .inr (.inl ⟨e, by omega⟩)
  · exact .inr (.inr ⟨e, by omega⟩)
theorem mv_warm {t b n : Int} : mv t b n = .warm ↔ (b < n ∧ b + n < 2 * t) ∨ (n < b ∧ 2 * t < b + n) := by
  rcases mv_side t b n with ⟨e, h⟩ | ⟨e, h⟩ | ⟨e, h⟩
  · exact ⟨fun _ => h, fun _ => e⟩
  · exact ⟨fun z => (by rw [e] at z; cases z), fun z => (by omega)⟩
  · exact ⟨fun z => (by rw [e] at z; cases z), fun z => (by omega)⟩
theorem mv_cold {t b n : Int} : mv t b n = .cold ↔ (b < n ∧ 2 * t < b + n) ∨ (n < b ∧ b + n < 2 * t) := by
  rcases mv_side t b n with ⟨e, h⟩ | ⟨e, h⟩ | ⟨e, h⟩
  · exact ⟨fun z => (by rw [e] at z; cases z), fun z => (by omega)⟩
  · exact ⟨fun _ => h, fun _ => e⟩
  · exact ⟨fun z => (by rw [e] at z; cases z), fun z => (by omega)⟩
theorem mv_same {t b n : Int} : mv t b n = .same ↔ b = n ∨ 2 * t = b + n := by
  rcases mv_side t b n with ⟨e, h⟩ | ⟨e, h⟩ | ⟨e, h⟩
  · exact ⟨fun z => (by rw [e] at z; cases z), fun z => (by omega)⟩
  · exact ⟨fun z => (by rw [e] at z; cases z), fun z => (by omega)⟩
  · exact ⟨fun _ => h, fun _ => e⟩
theorem mv_convex (w : Wo) (b n x y z : Int) (h1 : x < y) (h2 : y < z) (hx : mv x b n = w) (hz : mv z b n = w) : mv y b n = w := by
  cases w with
  | warm =>
    have := mv_warm.mp hx
    have := mv_warm.mp hz
    exact mv_warm.mpr (by omega)
  | cold =>
    have := mv_cold.mp hx
    have := mv_cold.mp hz
    exact mv_cold.mpr (by omega)
  | same =>
    have := mv_same.mp hx
    have := mv_same.mp hz
    exact mv_same.mpr (by omega)
theorem wordsOf_convex (x y z : Int) (h1 : x < y) (h2 : y < z) : ∀ (st : List Int) (ws : List Wo), wordsOf x st = ws → wordsOf z st = ws → wordsOf y st = ws
  | [], ws, hx, _ => hx
  | [_], ws, hx, _ => hx
  | a :: b :: r, ws, hx, hz => by
    rw [wordsOf_cons2] at hx hz ⊢
    cases ws with
    | nil => cases hx
    | cons w ws =>
      obtain ⟨p1, p2⟩ := List.cons.inj hx
      obtain ⟨q1, q2⟩ := List.cons.inj hz
      rw [mv_convex w a b x y z h1 h2 p1 q1, wordsOf_convex x y z h1 h2 (b :: r) ws p2 q2]
theorem lies_stretch (l : Int) (st : List Int) (ws : List Wo) : ∃ a b, lies l st ws = rng a b :=
  rng_convex (fun x y z h1 h2 hx hz => decide_eq_true (wordsOf_convex x y z h1 h2 st ws (of_decide_eq_true hx) (of_decide_eq_true hz))) _ 1 (l + 1) rfl
theorem mem_lies {l t : Int} {st : List Int} {ws : List Wo} : t ∈ lies l st ws ↔ (1 ≤ t ∧ t ≤ l) ∧ wordsOf t st = ws := by
  unfold lies
  rw [List.mem_filter, mem_rng, decide_eq_true_iff]
  constructor
  · rintro ⟨⟨h1, h2⟩, h3⟩
    exact ⟨⟨h1, by omega⟩, h3⟩
  · rintro ⟨⟨h1, h2⟩, h3⟩
    exact ⟨⟨h1, by omega⟩, h3⟩
theorem lies_all (l : Int) {st : List Int} (h : st.length ≤ 1) : lies l st [] = rng 1 (l + 1) := by
  unfold lies
  exact List.filter_eq_self.mpr fun t _ => decide_eq_true (wordsOf_one t h)
theorem mv_mirror (c t e l : Int) : mv (c - t) (c - e) (c - l) = mv t e l := by
  unfold mv
  have h1 : ab (c - t - (c - e)) = ab (t - e) := by
    unfold ab
    split <;> split <;> omega
  have h2 : ab (c - t - (c - l)) = ab (t - l) := by
    unfold ab
    split <;> split <;> omega
  rw [h1, h2]
theorem wordsOf_mirror (c t : Int) : ∀ st : List Int, wordsOf (c - t) (st.map fun p => c - p) = wordsOf t st
  | [] => rfl
  | [_] => rfl
  | a :: b :: r => by
    show mv (c - t) (c - a) (c - b) :: wordsOf (c - t) ((b :: r).map fun p => c - p) = _
    rw [mv_mirror, wordsOf_mirror c t (b :: r)]
    rfl
theorem rng_mirror : ∀ (n : Nat) (lo hi c : Int), (hi - lo).toNat = n → ((rng lo hi).reverse).map (fun x => c - x) = rng (c - hi + 1) (c - lo + 1)
  | 0, lo, hi, c, hn => by
    rw [rng_nil (by omega), rng_nil (by omega)]
    rfl
  | n + 1, lo, hi, c, hn => by
    rw [rng_cons (by omega), List.reverse_cons, List.map_append, rng_mirror n (lo + 1) hi c (by omega)]
    have e : c - (lo + 1) + 1 = c - lo := by omega
    rw [e, rng_snoc (by omega)]
    rfl
theorem lies_mirror (l : Int) (st : List Int) (ws : List Wo) : lies l (st.map fun p => l + 1 - p) ws = ((lies l st ws).reverse).map fun x => l + 1 - x := by
  have e : rng 1 (l + 1) = ((rng 1 (l + 1)).reverse).map fun x => l + 1 - x := by
    rw [rng_mirror _ 1 (l + 1) (l + 1) rfl]
    congr 1 <;> omega
  unfold lies
  rw [← List.filter_reverse]
  conv => lhs; rw [e]
  rw [List.filter_map]
  congr 1
  refine List.filter_congr fun t _ => ?_
  show decide (wordsOf (l + 1 - t) (st.map fun p => l + 1 - p) = ws) = decide (wordsOf t st = ws)
  rw [wordsOf_mirror]
def turn : Wo → Wo
  | .warm => .cold
  | .cold => .warm
  | .same => .same
theorem mv_turn (t e l : Int) : mv t l e = turn (mv t e l) := by
  unfold mv word
  by_cases h1 : ab (t - l) < ab (t - e)
  · rw [if_neg (by omega), if_pos h1, if_pos h1]
    rfl
  · by_cases h2 : ab (t - e) < ab (t - l)
    · rw [if_pos h2, if_neg h1, if_pos h2]
      rfl
    · rw [if_neg h2, if_neg h1, if_neg h1, if_neg h2]
      rfl
theorem wordsOf_snoc (t : Int) : ∀ (xs : List Int) (y x : Int), wordsOf t (xs ++ [y, x]) = wordsOf t (xs ++ [y]) ++ [mv t y x]
  | [], y, x => rfl
  | [a], y, x => rfl
  | a :: b :: r, y, x => by
    show mv t a b :: wordsOf t (b :: r ++ [y, x]) = (mv t a b :: wordsOf t (b :: r ++ [y])) ++ [mv t y x]
    rw [wordsOf_snoc t (b :: r) y x]
    rfl
theorem wordsOf_back (t : Int) : ∀ st : List Int, (wordsOf t st.reverse).reverse = (wordsOf t st).map turn
  | [] => rfl
  | [_] => rfl
  | a :: b :: r => by
    have e : (a :: b :: r).reverse = r.reverse ++ [b, a] := by simp
    have e2 : r.reverse ++ [b] = (b :: r).reverse := by simp
    rw [e, wordsOf_snoc, e2, List.reverse_append, wordsOf_back t (b :: r), wordsOf_cons2, List.map_cons, ← mv_turn]
    rfl
theorem in_ints (t : Int) (ns : List Int) : inV (V.int t) (ns.map V.int) = decide (t ∈ ns) := by
  unfold inV
  rw [List.any_map]
  induction ns with
  | nil => rfl
  | cons n r ih =>
    rw [List.any_cons, ih]
    show ((n == t) || decide (t ∈ r)) = decide (t ∈ n :: r)
    by_cases h1 : n = t
    · subst h1
      simp
    · have h2 : ¬ t = n := fun e => h1 e.symm
      simp [h1, h2]
theorem flat_ints (ns : List Int) : (ns.map V.int).all flatV = true := by
  rw [List.all_map, List.all_eq_true]
  intro n _
  rfl
theorem cut_to (xs : List V) (k : Nat) : cutV xs none (some (k : Int)) = xs.take k := by
  unfold cutV
  rw [HT.sIx_none, HT.sIx_nat, List.drop_zero, Nat.sub_zero]
  by_cases h : k ≤ xs.length
  · rw [Nat.min_eq_left h]
  · rw [Nat.min_eq_right (by omega), List.take_of_length_le (Nat.le_refl _), List.take_of_length_le (by omega)]
/-! ### going on as one is answered -/
def cost (st : Bool) (p q : Int) : Nat := if st then (ab (p - q)).toNat else 1
theorem cost_pos {st : Bool} {p q : Int} (h : q ≠ p) : 1 ≤ cost st p q := by
  unfold cost ab
  split
  · split <;> omega
  · omega
/-- the places from a to b at which w is answered to a move from p to q are those from c to d -/
def IsCut (a b p q : Int) (w : Wo) (c d : Int) : Prop := c ≤ d ∧ ∀ t, (c ≤ t ∧ t ≤ d) ↔ (a ≤ t ∧ t ≤ b ∧ mv t p q = w)
/-- n further stands (steps) are enough -/
inductive En (st : Bool) (L : Int) : Nat → Int → Int → Int → Prop
  | one {n : Nat} {a p : Int} : En st L n a a p
  | go {n : Nat} {a b p : Int} (q : Int) (h1 : 1 ≤ q) (h2 : q ≤ L) (ne : q ≠ p) (hc : cost st p q ≤ n) (h : ∀ w c d, IsCut a b p q w c d → En st L (n - cost st p q) c d q) : En st L n a b p
theorem IsCut.inj {a b p q c d c' d' : Int} {w : Wo} (h : IsCut a b p q w c d) (h' : IsCut a b p q w c' d') : c = c' ∧ d = d' := by
  have h1 := ((h'.2 c).mpr ((h.2 c).mp ⟨by omega, h.1⟩))
  have h2 := ((h'.2 d).mpr ((h.2 d).mp ⟨h.1, by omega⟩))
  have h3 := ((h.2 c').mpr ((h'.2 c').mp ⟨by omega, h'.1⟩))
  have h4 := ((h.2 d').mpr ((h'.2 d').mp ⟨h'.1, by omega⟩))
  omega
theorem IsCut.sub {a b p q c d : Int} {w : Wo} (h : IsCut a b p q w c d) : a ≤ c ∧ d ≤ b := by
  have h1 := (h.2 c).mp ⟨by omega, h.1⟩
  have h2 := (h.2 d).mp ⟨h.1, by omega⟩
  omega
/-- some places are a stretch: by the first and the last -/
theorem cut_of {a b p q t : Int} {w : Wo} (h1 : a ≤ t) (h2 : t ≤ b) (h3 : mv t p q = w) : ∃ c d, IsCut a b p q w c d ∧ c ≤ t ∧ t ≤ d := by
  obtain ⟨c, d, e⟩ := rng_convex (p := fun t => decide (mv t p q = w)) (fun x y z h1 h2 hx hz => decide_eq_true (mv_convex w p q x y z h1 h2 (of_decide_eq_true hx) (of_decide_eq_true hz))) _ a (b + 1) rfl
  have key : ∀ t, (c ≤ t ∧ t < d) ↔ (a ≤ t ∧ t ≤ b ∧ mv t p q = w) := fun t => by
    rw [← mem_rng, ← e, List.mem_filter, mem_rng, decide_eq_true_iff]
    constructor
    · rintro ⟨⟨x1, x2⟩, x3⟩
      exact ⟨x1, by omega, x3⟩
    · rintro ⟨x1, x2, x3⟩
      exact ⟨⟨x1, by omega⟩, x3⟩
  have ht := (key t).mpr ⟨h1, h2, h3⟩
  refine ⟨c, d - 1, ⟨by omega, fun x => ?_⟩, by omega, by omega⟩
  rw [← key x]
  constructor <;> intro z <;> omega
theorem En.mono {st : Bool} {L : Int} {n : Nat} {a b p : Int} (h : En st L n a b p) : ∀ {m : Nat}, n ≤ m → En st L m a b p := by
  induction h with
  | one => intro m _; exact .one
  | go q h1 h2 ne hc h ih =>
    intro m hm
    exact .go q h1 h2 ne (by omega) fun w c d hcut => ih w c d hcut (by omega)
theorem En.less {st : Bool} {L : Int} {n : Nat} {a b p : Int} (h : En st L n a b p) : ∀ {c d : Int}, a ≤ c → c ≤ d → d ≤ b → En st L n c d p := by
  induction h with
  | one =>
    intro c d h1 h2 h3
    rw [show c = d by omega]
    exact .one
  | go q h1 h2 ne hc h ih =>
    intro c d g1 g2 g3
    refine .go q h1 h2 ne hc fun w x y hcut => ?_
    have hx := (hcut.2 x).mp ⟨by omega, hcut.1⟩
    have hy := (hcut.2 y).mp ⟨hcut.1, by omega⟩
    obtain ⟨c', d', hc', r1, r2⟩ := cut_of (a := _) (b := _) (t := x) (p := _) (q := q) (w := w) (Int.le_trans g1 hx.1) (Int.le_trans hx.2.1 g3) hx.2.2
    have hy' := (hc'.2 y).mpr ⟨by omega, by omega, hy.2.2⟩
    exact ih w c' d' hc' r1 hcut.1 hy'.2
theorem IsCut.mirror {a b p q c d L : Int} {w : Wo} (h : IsCut a b p q w c d) : IsCut (L - b) (L - a) (L - p) (L - q) w (L - d) (L - c) := by
  refine ⟨by have := h.1; omega, fun t => ?_⟩
  have e := h.2 (L - t)
  have e2 : mv t (L - p) (L - q) = mv (L - t) p q := by
    have := mv_mirror L (L - t) p q
    rw [show L - (L - t) = t by omega] at this
    exact this
  rw [e2]
  constructor
  · intro z
    have := e.mp ⟨by omega, by omega⟩
    exact ⟨by omega, by omega, this.2.2⟩
  · intro z
    have := e.mpr ⟨by omega, by omega, z.2.2⟩
    omega
theorem cost_mirror (st : Bool) (L p q : Int) : cost st (L - p) (L - q) = cost st p q := by
  unfold cost ab
  split
  · split <;> split <;> omega
  · rfl
theorem En.mirror {st : Bool} {L : Int} {n : Nat} {a b p : Int} (h : En st L n a b p) : En st L n (L + 1 - b) (L + 1 - a) (L + 1 - p) := by
  induction h with
  | one => exact .one
  | go q h1 h2 ne hc h ih =>
    refine .go (L + 1 - q) (by omega) (by omega) (by omega) (by rw [cost_mirror]; exact hc) fun w c d hcut => ?_
    rw [cost_mirror]
    have hm := hcut.mirror (L := L + 1)
    have key : ∀ x : Int, L + 1 - (L + 1 - x) = x := fun x => by omega
    simp only [key] at hm
    have := ih w _ _ hm
    rw [show L + 1 - (L + 1 - c) = c by omega, show L + 1 - (L + 1 - d) = d by omega] at this
    exact this
theorem En.mirror_iff {st : Bool} {L : Int} {n : Nat} {a b p : Int} : En st L n (L + 1 - b) (L + 1 - a) (L + 1 - p) ↔ En st L n a b p := by
  refine ⟨fun h => ?_, fun h => h.mirror⟩
  have := h.mirror
  rw [show L + 1 - (L + 1 - a) = a by omega, show L + 1 - (L + 1 - b) = b by omega, show L + 1 - (L + 1 - p) = p by omega] at this
  exact this
/-- steps are stands -/
theorem En.stands {L : Int} {n : Nat} {a b p : Int} (h : En true L n a b p) : En false L n a b p := by
  induction h with
  | one => exact .one
  | go q h1 h2 ne hc h ih =>
    have hp := cost_pos (st := true) ne
    refine .go q h1 h2 ne (by show 1 ≤ _; omega) fun w c d hcut => (ih w c d hcut).mono (by show _ ≤ _ - 1; omega)
theorem mv_next (t c : Int) : mv t c (c + 1) = if t ≤ c then .cold else .warm := by
  unfold mv word ab
  repeat' split
  all_goals first | rfl | (exfalso; omega)
theorem cost_next (st : Bool) (c : Int) : cost st c (c + 1) = 1 := by
  unfold cost ab
  split
  · split <;> omega
  · rfl
/-- from the low end on, place by place -/
theorem en_low {st : Bool} {L : Int} : ∀ (m : Nat) (c d : Int), 1 ≤ c → d ≤ L → (d - c).toNat = m → c ≤ d → En st L m c d c
  | 0, c, d, _, _, h, h' => by
    rw [show c = d by omega]
    exact .one
  | m + 1, c, d, h1, h2, h3, h4 => by
    refine .go (c + 1) (by omega) (by omega) (by omega) (by rw [cost_next]; omega) fun w x y hcut => ?_
    rw [cost_next]
    show En st L m x y (c + 1)
    have hx := (hcut.2 x).mp ⟨by omega, hcut.1⟩
    have hy := (hcut.2 y).mp ⟨hcut.1, by omega⟩
    have e := hx.2.2.trans hy.2.2.symm
    rw [mv_next, mv_next] at e
    by_cases hxc : x ≤ c
    · have : y ≤ c := by
        by_cases z : y ≤ c
        · exact z
        · rw [if_pos hxc, if_neg z] at e
          cases e
      rw [show x = y by omega]
      exact .one
    · exact (en_low m (c + 1) d (by omega) h2 (by omega) (by omega)).less (by omega) hcut.1 hy.2.1
theorem cost_le {st : Bool} {L p q : Int} (h1 : 1 ≤ p) (h2 : p ≤ L) (h3 : 1 ≤ q) (h4 : q ≤ L) (ne : q ≠ p) : cost st p q ≤ (L - 1).toNat := by
  unfold cost ab
  split
  · split <;> omega
  · omega
theorem en_some {st : Bool} {L : Int} : ∀ (m : Nat) (a b p : Int), 1 ≤ a → a ≤ b → b ≤ L → 1 ≤ p → p ≤ L → (b - a).toNat = m → En st L (m * (L - 1).toNat + 1) a b p
  | m, a, b, p, h1, h2, h3, h4, h5, hm => by
    by_cases hab : a = b
    · rw [hab]
      exact .one
    · have hC : 1 ≤ (L - 1).toNat := by omega
      have hmC : m ≤ m * (L - 1).toNat := Nat.le_mul_of_pos_right _ hC
      by_cases hpa : p = a
      · rw [hpa]
        exact (en_low m a b h1 h3 hm h2).mono (by omega)
      · have hcost : cost st p a ≤ (L - 1).toNat := cost_le h4 h5 h1 (by omega) (fun z => hpa z.symm)
        obtain ⟨k, hk⟩ : ∃ k, m = k + 1 := ⟨m - 1, by omega⟩
        have hsm : m * (L - 1).toNat = k * (L - 1).toNat + (L - 1).toNat := by rw [hk, Nat.succ_mul]
        have hkC : k ≤ k * (L - 1).toNat := Nat.le_mul_of_pos_right _ hC
        refine .go a h1 (by omega) (fun z => hpa z.symm) (by omega) fun w c d hcut => ?_
        have hs := hcut.sub
        have hcd := hcut.1
        have hrem : k * (L - 1).toNat + 1 ≤ m * (L - 1).toNat + 1 - cost st p a := by omega
        by_cases hca : c = a
        · rw [hca]
          exact (en_low _ a d h1 (by omega) rfl (by omega)).mono (Nat.le_trans (show _ ≤ k + 1 by omega) (by omega))
        · have hlt : (d - c).toNat ≤ k := by omega
          refine (en_some (d - c).toNat c d a (by omega) hcd (by omega) h1 (by omega) rfl).mono (Nat.le_trans ?_ hrem)
          have := Nat.mul_le_mul_right (L - 1).toNat hlt
          omega
  termination_by m => m
/-- by q so few are enough -/
def Good (st : Bool) (L : Int) (n : Nat) (a b p q : Int) : Prop := cost st p q ≤ n ∧ ∀ w c d, IsCut a b p q w c d → En st L (n - cost st p q) c d q
/-- n is the least number that is enough -/
def LeastN (st : Bool) (L a b p : Int) (n : Nat) : Prop := En st L n a b p ∧ ∀ k, k < n → ¬ En st L k a b p
theorem LeastN.inj {st : Bool} {L a b p : Int} {n m : Nat} (h : LeastN st L a b p n) (h' : LeastN st L a b p m) : n = m := by
  rcases Nat.lt_trichotomy n m with z | z | z
  · exact absurd h.1 (h'.2 n z)
  · exact z
  · exact absurd h'.1 (h.2 m z)
theorem LeastN.le {st : Bool} {L a b p : Int} {n m : Nat} (h : LeastN st L a b p n) (e : En st L m a b p) : n ≤ m := by
  by_cases z : n ≤ m
  · exact z
  · exact absurd e (h.2 m (by omega))
theorem LeastN.iff {st : Bool} {L a b p : Int} {n m : Nat} (h : LeastN st L a b p n) : En st L m a b p ↔ n ≤ m := ⟨h.le, fun z => h.1.mono z⟩
theorem least_of {st : Bool} {L a b p : Int} : ∀ (m : Nat), En st L m a b p → ∃ n, n ≤ m ∧ LeastN st L a b p n
  | 0, h => ⟨0, Nat.le_refl _, h, fun k hk => absurd hk (Nat.not_lt_zero k)⟩
  | m + 1, h => by
    by_cases z : En st L m a b p
    · obtain ⟨n, h1, h2⟩ := least_of m z
      exact ⟨n, by omega, h2⟩
    · exact ⟨m + 1, Nat.le_refl _, h, fun k hk e => z (e.mono (by omega))⟩
theorem least_ex {st : Bool} {L a b p : Int} (h1 : 1 ≤ a) (h2 : a ≤ b) (h3 : b ≤ L) (h4 : 1 ≤ p) (h5 : p ≤ L) : ∃ n, n ≤ (b - a).toNat * (L - 1).toNat + 1 ∧ LeastN st L a b p n :=
  least_of _ (en_some _ a b p h1 h2 h3 h4 h5 rfl)
theorem LeastN.self {st : Bool} {L a p : Int} : LeastN st L a a p 0 := ⟨.one, fun k hk => absurd hk (Nat.not_lt_zero k)⟩
theorem LeastN.pos {st : Bool} {L a b p : Int} {n : Nat} (h : LeastN st L a b p n) (hab : a < b) : 1 ≤ n := by
  cases n with
  | zero =>
    obtain ⟨e, _⟩ := h
    cases e with
    | one => omega
    | go q _ _ ne hc _ =>
      have := cost_pos (st := st) ne
      omega
  | succ n => omega
theorem en_good {st : Bool} {L a b p : Int} {n : Nat} (hab : a < b) : En st L n a b p ↔ ∃ q, (1 ≤ q ∧ q ≤ L) ∧ q ≠ p ∧ Good st L n a b p q := by
  constructor
  · intro h
    cases h with
    | one => omega
    | go q h1 h2 ne hc h => exact ⟨q, ⟨h1, h2⟩, ne, hc, h⟩
  · rintro ⟨q, ⟨h1, h2⟩, ne, hc, h⟩
    exact .go q h1 h2 ne hc h
/-- what is told: the least number, and the first other place by which so few are enough -/
def Told (st : Bool) (L a b p : Int) (n : Nat) (v : V) : Prop :=
  (a = b ∧ n = 0 ∧ v = .non) ∨ (a < b ∧ LeastN st L a b p n ∧ ∃ q, v = .int q ∧ (1 ≤ q ∧ q ≤ L) ∧ q ≠ p ∧ Good st L n a b p q ∧ ∀ r, 1 ≤ r → r < q → r ≠ p → ¬ Good st L n a b p r)
theorem Told.least {st : Bool} {L a b p : Int} {n : Nat} {v : V} (h : Told st L a b p n v) : LeastN st L a b p n := by
  rcases h with ⟨rfl, rfl, _⟩ | ⟨_, h, _⟩
  · exact LeastN.self
  · exact h
theorem Told.inj {st : Bool} {L a b p : Int} {n m : Nat} {v u : V} (h : Told st L a b p n v) (h' : Told st L a b p m u) : n = m ∧ v = u := by
  have e := h.least.inj h'.least
  subst e
  refine ⟨rfl, ?_⟩
  rcases h with ⟨e1, _, e2⟩ | ⟨e1, _, q, e2, h1, h2, h3, h4⟩
  · rcases h' with ⟨_, _, e3⟩ | ⟨z, _⟩
    · rw [e2, e3]
    · omega
  · rcases h' with ⟨z, _⟩ | ⟨_, _, q', e2', h1', h2', h3', h4'⟩
    · omega
    · rcases Int.lt_trichotomy q q' with z | z | z
      · exact absurd h3 (h4' q h1.1 z h2)
      · rw [e2, e2', z]
      · exact absurd h3' (h4 q' h1'.1 z h2')
/-- what q costs, whatever is answered -/
def WorstN (st : Bool) (L a b p q : Int) (m : Nat) : Prop := (∀ w c d, IsCut a b p q w c d → En st L m c d q) ∧ ∃ w c d, IsCut a b p q w c d ∧ LeastN st L c d q m
theorem WorstN.good {st : Bool} {L a b p q : Int} {m n : Nat} (h : WorstN st L a b p q m) : Good st L n a b p q ↔ m + cost st p q ≤ n := by
  constructor
  · rintro ⟨h1, h2⟩
    obtain ⟨w, c, d, h3, h4⟩ := h.2
    have := h4.le (h2 w c d h3)
    omega
  · intro z
    exact ⟨by omega, fun w c d hc => (h.1 w c d hc).mono (by omega)⟩
/-! ### cuts as lists; a check that can be reckoned; the told places followed -/
def cutL (a b p q : Int) (w : Wo) : List Int := (rng a (b + 1)).filter fun t => decide (mv t p q = w)
theorem mem_cutL {a b p q t : Int} {w : Wo} : t ∈ cutL a b p q w ↔ a ≤ t ∧ t ≤ b ∧ mv t p q = w := by
  unfold cutL
  rw [List.mem_filter, mem_rng, decide_eq_true_iff]
  constructor
  · rintro ⟨⟨x1, x2⟩, x3⟩
    exact ⟨x1, by omega, x3⟩
  · rintro ⟨x1, x2, x3⟩
    exact ⟨⟨x1, by omega⟩, x3⟩
theorem IsCut.list {a b p q c d : Int} {w : Wo} (h : IsCut a b p q w c d) : cutL a b p q w = rng c (d + 1) := by
  obtain ⟨c', d', e⟩ := rng_convex (p := fun t => decide (mv t p q = w)) (fun x y z h1 h2 hx hz => decide_eq_true (mv_convex w p q x y z h1 h2 (of_decide_eq_true hx) (of_decide_eq_true hz))) _ a (b + 1) rfl
  have e' : cutL a b p q w = rng c' d' := e
  have key : ∀ t, (c' ≤ t ∧ t < d') ↔ (c ≤ t ∧ t ≤ d) := fun t => by
    rw [← mem_rng, ← e', mem_cutL]
    exact (h.2 t).symm
  have hcd := h.1
  have k1 := (key c).mpr ⟨by omega, hcd⟩
  have k2 := (key d).mpr ⟨hcd, by omega⟩
  have k3 := (key c').mp ⟨by omega, by omega⟩
  have k4 := (key (d' - 1)).mp ⟨by omega, by omega⟩
  rw [e', show c' = c by omega, show d' = d + 1 by omega]
theorem rng_ends {c d : Int} (h : c ≤ d) : (rng c (d + 1)).head? = some c ∧ (rng c (d + 1)).getLast? = some d := by
  constructor
  · rw [rng_cons (by omega)]
    rfl
  · rw [rng_snoc h, List.getLast?_append]
    rfl
theorem cut_ends {a b p q : Int} {w : Wo} {c d : Int} : IsCut a b p q w c d ↔ (cutL a b p q w).head? = some c ∧ (cutL a b p q w).getLast? = some d := by
  constructor
  · intro h
    rw [h.list]
    exact rng_ends h.1
  · rintro ⟨h1, h2⟩
    have hc := mem_cutL.mp (List.mem_of_mem_head? h1)
    obtain ⟨c', d', hcut, r1, r2⟩ := cut_of hc.1 hc.2.1 hc.2.2
    rw [hcut.list] at h1 h2
    obtain ⟨g1, g2⟩ := rng_ends hcut.1
    rw [g1] at h1
    rw [g2] at h2
    rw [← Option.some.inj h1, ← Option.some.inj h2]
    exact hcut
def allW : List Wo := [.warm, .cold, .same]
theorem mem_allW (w : Wo) : w ∈ allW := by
  cases w <;> decide
def enB (st : Bool) (L : Int) : Nat → Nat → Int → Int → Int → Bool
  | 0, _, a, b, _ => decide (a = b)
  | f + 1, n, a, b, p => decide (a = b) || (rng 1 (L + 1)).any fun q => decide (q ≠ p) && (decide (cost st p q ≤ n) && allW.all fun w => match (cutL a b p q w).head?, (cutL a b p q w).getLast? with
    | some c, some d => enB st L f (n - cost st p q) c d q
    | _, _ => true)
theorem enB_iff {st : Bool} {L : Int} : ∀ (f n : Nat) (a b p : Int), n ≤ f → (enB st L f n a b p = true ↔ En st L n a b p)
  | 0, n, a, b, p, h => by
    show decide (a = b) = true ↔ _
    rw [decide_eq_true_iff]
    constructor
    · rintro rfl
      exact .one
    · intro z
      cases z with
      | one => rfl
      | go q _ _ ne hc _ =>
        have := cost_pos (st := st) ne
        omega
  | f + 1, n, a, b, p, h => by
    unfold enB
    rw [Bool.or_eq_true, decide_eq_true_iff, List.any_eq_true]
    constructor
    · rintro (rfl | ⟨q, hq, z⟩)
      · exact .one
      · rw [Bool.and_eq_true, Bool.and_eq_true, decide_eq_true_iff, decide_eq_true_iff, List.all_eq_true] at z
        obtain ⟨ne, hc, hall⟩ := z
        have hr := mem_rng.mp hq
        refine .go q hr.1 (by omega) ne hc fun w c d hcut => ?_
        have z := hall w (mem_allW w)
        obtain ⟨g1, g2⟩ := cut_ends.mp hcut
        rw [g1, g2] at z
        have := cost_pos (st := st) ne
        exact (enB_iff f _ c d q (by omega)).mp z
    · intro z
      cases z with
      | one => exact .inl rfl
      | go q h1 h2 ne hc h3 =>
        refine .inr ⟨q, mem_rng.mpr ⟨h1, by omega⟩, ?_⟩
        rw [Bool.and_eq_true, Bool.and_eq_true, decide_eq_true_iff, decide_eq_true_iff, List.all_eq_true]
        refine ⟨ne, hc, fun w _ => ?_⟩
        have := cost_pos (st := st) ne
        cases g1 : (cutL a b p q w).head? with
        | none => rfl
        | some c =>
          cases g2 : (cutL a b p q w).getLast? with
          | none => rfl
          | some d => exact (enB_iff f _ c d q (by omega)).mpr (h3 w c d (cut_ends.mpr ⟨g1, g2⟩))
theorem en_by {st : Bool} {L : Int} {n : Nat} {a b p : Int} (h : enB st L n n a b p = true) : En st L n a b p := (enB_iff n n a b p (Nat.le_refl n)).mp h
theorem not_en_by {st : Bool} {L : Int} {n : Nat} {a b p : Int} (h : enB st L n n a b p = false) : ¬ En st L n a b p := fun z => by
  have := (enB_iff n n a b p (Nat.le_refl n)).mpr z
  rw [h] at this
  cases this
/-- the told places followed from p for the thing t cost s -/
inductive Fol (st : Bool) (L t : Int) : Int → Int → Int → Nat → Prop
  | one {a p : Int} : Fol st L t a a p 0
  | go {a b p q c d : Int} {n s : Nat} (hab : a < b) (ht : Told st L a b p n (.int q)) (hc : IsCut a b p q (mv t p q) c d) (h : Fol st L t c d q s) : Fol st L t a b p (cost st p q + s)
theorem Fol.le {st : Bool} {L t : Int} {a b p : Int} {s : Nat} (h : Fol st L t a b p s) : ∀ {n : Nat}, LeastN st L a b p n → s ≤ n := by
  induction h with
  | one => intro n _; exact Nat.zero_le _
  | go hab ht hc h ih =>
    intro n hn
    have e := ht.least.inj hn
    subst e
    rcases ht with ⟨z, _⟩ | ⟨_, _, q', e, _, _, hg, _⟩
    · omega
    · cases e
      obtain ⟨m, hm, hl⟩ := least_of _ (hg.2 _ _ _ hc)
      have := ih hl
      have := hg.1
      omega
/-- some cut costs as much as is told -/
theorem Told.worst {st : Bool} {L a b p q : Int} {n : Nat} (h : Told st L a b p n (.int q)) (hab : a < b) : ∃ w c d, IsCut a b p q w c d ∧ LeastN st L c d q (n - cost st p q) := by
  rcases h with ⟨z, _⟩ | ⟨_, hl, q', e, hq, ne, hg, _⟩
  · omega
  · cases e
    have hp := cost_pos (st := st) ne
    apply Classical.byContradiction
    intro hno
    have hall : ∀ w c d, IsCut a b p q w c d → n - cost st p q ≠ 0 → En st L (n - cost st p q - 1) c d q := fun w c d hc hz => by
      obtain ⟨m, hm, hm2⟩ := least_of _ (hg.2 w c d hc)
      by_cases z : m = n - cost st p q
      · rw [z] at hm2
        exact absurd ⟨w, c, d, hc, hm2⟩ hno
      · exact hm2.1.mono (by omega)
    by_cases hz : n - cost st p q = 0
    · obtain ⟨c, d, hc, _, _⟩ := cut_of (a := a) (b := b) (p := p) (q := q) (t := a) (Int.le_refl a) (by omega) rfl
      refine hno ⟨_, c, d, hc, ?_⟩
      rw [hz]
      refine ⟨?_, fun k hk => absurd hk (Nat.not_lt_zero k)⟩
      have := hg.2 _ c d hc
      rw [hz] at this
      exact this
    · refine hl.2 (n - 1) (by have := hg.1; omega) (.go q hq.1 hq.2 ne (by omega) fun w c d hc => ?_)
      have := hall w c d hc hz
      rw [show n - 1 - cost st p q = n - cost st p q - 1 by omega]
      exact this
theorem told_ex {st : Bool} {L a b p : Int} (h1 : 1 ≤ a) (h2 : a ≤ b) (h3 : b ≤ L) (h4 : 1 ≤ p) (h5 : p ≤ L) : ∃ n v, Told st L a b p n v := by
  by_cases hab : a = b
  · exact ⟨0, .non, .inl ⟨hab, rfl, rfl⟩⟩
  · have hlt : a < b := by omega
    obtain ⟨n, _, hn⟩ := least_ex (st := st) h1 h2 h3 h4 h5
    obtain ⟨q, hq, ne, hg⟩ := (en_good hlt).mp hn.1
    have key : ∀ (m : Nat) (q : Int), q.toNat = m → 1 ≤ q → q ≤ L → q ≠ p → Good st L n a b p q → ∃ r, (1 ≤ r ∧ r ≤ L) ∧ r ≠ p ∧ Good st L n a b p r ∧ ∀ x, 1 ≤ x → x < r → x ≠ p → ¬ Good st L n a b p x := by
      intro m
      induction m using Nat.strongRecOn with
      | ind m ih =>
        intro q hm h1 h2 ne hg
        by_cases z : ∃ x, 1 ≤ x ∧ x < q ∧ x ≠ p ∧ Good st L n a b p x
        · obtain ⟨x, x1, x2, x3, x4⟩ := z
          exact ih x.toNat (by omega) x rfl x1 (by omega) x3 x4
        · exact ⟨q, ⟨h1, h2⟩, ne, hg, fun x x1 x2 x3 x4 => z ⟨x, x1, x2, x3, x4⟩⟩
    obtain ⟨r, hr⟩ := key _ q rfl hq.1 hq.2 ne hg
    exact ⟨n, .int r, .inr ⟨hlt, hn, r, rfl, hr⟩⟩
/-- every thing is found so, and some thing costs just what is told -/
theorem fol_ex {st : Bool} {L : Int} : ∀ (n : Nat) {a b p : Int}, 1 ≤ a → a ≤ b → b ≤ L → 1 ≤ p → p ≤ L → LeastN st L a b p n → (∀ t, a ≤ t → t ≤ b → ∃ s, Fol st L t a b p s) ∧ ∃ t, (a ≤ t ∧ t ≤ b) ∧ Fol st L t a b p n := by
  intro n
  induction n using Nat.strongRecOn with
  | ind n ih =>
    intro a b p h1 h2 h3 h4 h5 hl
    by_cases hab : a = b
    · subst hab
      have e : n = 0 := hl.inj LeastN.self
      subst e
      exact ⟨fun t ht1 ht2 => ⟨0, .one⟩, a, ⟨by omega, by omega⟩, .one⟩
    · have hlt : a < b := by omega
      obtain ⟨m, v, ht⟩ := told_ex (st := st) h1 h2 h3 h4 h5
      have e := ht.least.inj hl
      subst e
      rcases id ht with ⟨z, _⟩ | ⟨_, _, q, rfl, hq, ne, hg, _⟩
      · omega
      · have hp := cost_pos (st := st) ne
        constructor
        · intro t ht1 ht2
          obtain ⟨c, d, hc, r1, r2⟩ := cut_of (p := p) (q := q) ht1 ht2 rfl
          have hs := hc.sub
          obtain ⟨k, hk, hk2⟩ := least_of _ (hg.2 _ _ _ hc)
          have := hg.1
          obtain ⟨s, hf⟩ := (ih k (by omega) (by omega) hc.1 (by omega) hq.1 hq.2 hk2).1 t r1 r2
          exact ⟨_, .go hlt ht hc hf⟩
        · obtain ⟨w, c, d, hc, hw⟩ := ht.worst hlt
          have hs := hc.sub
          have := hg.1
          obtain ⟨t, ⟨r1, r2⟩, hf⟩ := (ih (m - cost st p q) (by omega) (by omega) hc.1 (by omega) hq.1 hq.2 hw).2
          have hmv := (hc.2 t).mp ⟨r1, r2⟩
          have hc' : IsCut a b p q (mv t p q) c d := by
            rw [hmv.2.2]
            exact hc
          refine ⟨t, ⟨hmv.1, hmv.2.1⟩, ?_⟩
          have := Fol.go hlt ht hc' hf
          rw [show cost st p q + (m - cost st p q) = m by omega] at this
          exact this
theorem Fol.inj {st : Bool} {L t : Int} {a b p : Int} {s : Nat} (h : Fol st L t a b p s) : ∀ {s' : Nat}, Fol st L t a b p s' → s = s' := by
  induction h with
  | one =>
    intro s' h'
    cases h' with
    | one => rfl
    | go hab _ _ _ => omega
  | go hab ht hc h ih =>
    intro s' h'
    cases h' with
    | one => omega
    | go hab' ht' hc' h2 =>
      obtain ⟨_, e⟩ := ht.inj ht'
      cases e
      obtain ⟨e1, e2⟩ := hc.inj hc'
      subst e1
      subst e2
      rw [ih h2]
/-! ### the parts that a move can leave, and how many steps are least -/
/-- the three parts, empty ones among them -/
def parts3 (a b p q : Int) : List (Int × Int) := [(a, min b ((p + q - 1) / 2)), (max a ((p + q + 1) / 2), min b ((p + q) / 2)), (max a ((p + q) / 2 + 1), b)]
def partsOf (a b p q : Int) : List (Int × Int) := (parts3 a b p q).filter fun z => decide (z.1 ≤ z.2)
theorem mv_low {t p q : Int} (h : p < q) : mv t p q = if 2 * t < p + q then .cold else if 2 * t = p + q then .same else .warm := by
  unfold mv word ab
  repeat' split
  all_goals first | rfl | (exfalso; omega)
theorem mv_high {t p q : Int} (h : q < p) : mv t p q = if 2 * t < p + q then .warm else if 2 * t = p + q then .same else .cold := by
  unfold mv word ab
  repeat' split
  all_goals first | rfl | (exfalso; omega)
theorem mem_parts {a b p q c d : Int} : (c, d) ∈ partsOf a b p q ↔ c ≤ d ∧ ((c = a ∧ d = min b ((p + q - 1) / 2)) ∨ (c = max a ((p + q + 1) / 2) ∧ d = min b ((p + q) / 2)) ∨ (c = max a ((p + q) / 2 + 1) ∧ d = b)) := by
  unfold partsOf parts3
  rw [List.mem_filter]
  simp only [List.mem_cons, List.not_mem_nil, or_false, Prod.mk.injEq, decide_eq_true_eq]
  constructor
  · rintro ⟨h1, h2⟩
    exact ⟨h2, h1⟩
  · rintro ⟨h1, h2⟩
    exact ⟨h2, h1⟩
/-- the word that is answered in a part -/
def wLow (p q : Int) : Wo := if p < q then .cold else .warm
def wHigh (p q : Int) : Wo := if p < q then .warm else .cold
theorem mv_wLow {t p q : Int} (ne : q ≠ p) : mv t p q = wLow p q ↔ 2 * t < p + q := by
  unfold wLow
  by_cases h : p < q
  · rw [if_pos h, mv_low h]
    repeat' split
    all_goals simp_all
    all_goals omega
  · rw [if_neg h, mv_high (by omega)]
    repeat' split
    all_goals simp_all
    all_goals omega
theorem mv_wHigh {t p q : Int} (ne : q ≠ p) : mv t p q = wHigh p q ↔ p + q < 2 * t := by
  unfold wHigh
  by_cases h : p < q
  · rw [if_pos h, mv_low h]
    repeat' split
    all_goals simp_all
    all_goals omega
  · rw [if_neg h, mv_high (by omega)]
    repeat' split
    all_goals simp_all
    all_goals omega
theorem mv_wSame {t p q : Int} (ne : q ≠ p) : mv t p q = .same ↔ 2 * t = p + q := by
  by_cases h : p < q
  · rw [mv_low h]
    repeat' split
    all_goals simp_all
    all_goals omega
  · rw [mv_high (by omega)]
    repeat' split
    all_goals simp_all
    all_goals omega
theorem wo_three (p q : Int) (w : Wo) : w = wLow p q ∨ w = wHigh p q ∨ w = .same := by
  unfold wLow wHigh
  split <;> cases w <;> simp
theorem parts_cut {a b p q c d : Int} (ne : q ≠ p) : (c, d) ∈ partsOf a b p q ↔ ∃ w, IsCut a b p q w c d := by
  rw [mem_parts]
  constructor
  · rintro ⟨hcd, h⟩
    rcases h with ⟨h1, h2⟩ | ⟨h1, h2⟩ | ⟨h1, h2⟩
    · refine ⟨wLow p q, hcd, fun t => ?_⟩
      rw [mv_wLow ne]
      constructor <;> intro z <;> omega
    · refine ⟨.same, hcd, fun t => ?_⟩
      rw [mv_wSame ne]
      constructor <;> intro z <;> omega
    · refine ⟨wHigh p q, hcd, fun t => ?_⟩
      rw [mv_wHigh ne]
      constructor <;> intro z <;> omega
  · rintro ⟨w, hcd, h⟩
    refine ⟨hcd, ?_⟩
    have hc := (h c).mp ⟨by omega, hcd⟩
    have hd := (h d).mp ⟨hcd, by omega⟩
    have hl := h (c - 1)
    have hr := h (d + 1)
    rcases wo_three p q w with rfl | rfl | rfl
    · rw [mv_wLow ne] at hc hd hl hr
      refine .inl ⟨?_, ?_⟩ <;> omega
    · rw [mv_wHigh ne] at hc hd hl hr
      refine .inr (.inr ⟨?_, ?_⟩) <;> omega
    · rw [mv_wSame ne] at hc hd hl hr
      refine .inr (.inl ⟨?_, ?_⟩) <;> omega
theorem parts_len (a b p q : Int) : (partsOf a b p q).length ≤ 3 := List.length_filter_le _ _
theorem good_parts {st : Bool} {L a b p q : Int} {n : Nat} (ne : q ≠ p) : Good st L n a b p q ↔ cost st p q ≤ n ∧ ∀ z ∈ partsOf a b p q, En st L (n - cost st p q) z.1 z.2 q := by
  constructor
  · rintro ⟨h1, h2⟩
    refine ⟨h1, fun z hz => ?_⟩
    obtain ⟨c, d⟩ := z
    obtain ⟨w, hw⟩ := (parts_cut ne).mp hz
    exact h2 w c d hw
  · rintro ⟨h1, h2⟩
    exact ⟨h1, fun w c d hw => h2 (c, d) ((parts_cut ne).mpr ⟨w, hw⟩)⟩
/-- so many stands tell at most so many places apart -/
theorem en_wide {L : Int} {n : Nat} {a b p : Int} (h : En false L n a b p) : b - a + 1 < 2 ^ (n + 1) := by
  induction h with
  | @one n a p =>
    have : (0 : Int) < 2 ^ n := Int.pow_pos (by decide)
    rw [Int.pow_succ]
    omega
  | @go n a b p q h1 h2 ne hc h ih =>
    have hn : 1 ≤ n := hc
    obtain ⟨k, rfl⟩ : ∃ k, n = k + 1 := ⟨n - 1, by omega⟩
    have key : ∀ c d, (c, d) ∈ partsOf a b p q → d - c + 1 < 2 ^ (k + 1) := fun c d hz => by
      obtain ⟨w, hw⟩ := (parts_cut ne).mp hz
      exact ih w c d hw
    have hp : (0 : Int) < 2 ^ (k + 1) := Int.pow_pos (by decide)
    rw [Int.pow_succ (n := k + 1)]
    generalize (2 : Int) ^ (k + 1) = M at key hp ⊢
    have k1 := key a (min b ((p + q - 1) / 2))
    have k3 := key (max a ((p + q) / 2 + 1)) b
    rw [mem_parts] at k1 k3
    have k1' : a ≤ min b ((p + q - 1) / 2) → min b ((p + q - 1) / 2) - a + 1 < M := fun z => k1 ⟨z, .inl ⟨rfl, rfl⟩⟩
    have k3' : max a ((p + q) / 2 + 1) ≤ b → b - max a ((p + q) / 2 + 1) + 1 < M := fun z => k3 ⟨z, .inr (.inr ⟨rfl, rfl⟩)⟩
    clear k1 k3 key ih h
    by_cases z1 : a ≤ min b ((p + q - 1) / 2) <;> by_cases z3 : max a ((p + q) / 2 + 1) ≤ b
    · have := k1' z1
      have := k3' z3
      omega
    · have := k1' z1
      omega
    · have := k3' z3
      omega
    · omega
/-- stands enough: to the low end, then on place by place -/
theorem en_enough {L a b p : Int} (h1 : 1 ≤ a) (h2 : a ≤ b) (h3 : b ≤ L) : En false L ((b - a).toNat + 1) a b p := by
  have hlow := en_low (st := false) (L := L) (b - a).toNat a b h1 h3 rfl h2
  by_cases hp : p = a
  · rw [hp]
    exact hlow.mono (by omega)
  · refine .go a h1 (by omega) (fun z => hp z.symm) (by show 1 ≤ _; omega) fun w c d hcut => ?_
    have hs := hcut.sub
    have hcd := hcut.1
    exact (hlow.less hs.1 hcd hs.2).mono (by show _ ≤ _ - 1; omega)
/-- the least number of steps, as the program reckons it -/
def Stp (a b p : Int) : Int := if a = b then 0 else if p ≤ a then b - p else if b ≤ p then p - a else min (max (b - p) (p - a + 2)) (max (p - a) (b - p + 2))
theorem Stp_nonneg {a b p : Int} (h : a ≤ b) : 0 ≤ Stp a b p := by
  unfold Stp
  repeat' split
  all_goals omega
theorem Stp_mirror (L a b p : Int) (h : a ≤ b) : Stp (L - b) (L - a) (L - p) = Stp a b p := by
  unfold Stp
  repeat' split
  all_goals omega
theorem Stp_pos {a b p : Int} (h : a < b) : 1 ≤ Stp a b p := by
  unfold Stp
  repeat' split
  all_goals omega
/-- no move is better -/
theorem Stp_low {a b p q : Int} (hab : a < b) (ne : q ≠ p) : ∃ z ∈ partsOf a b p q, Stp a b p ≤ ab (p - q) + Stp z.1 z.2 q := by
  apply Classical.byContradiction
  intro hno
  have key : ∀ c d, (c, d) ∈ partsOf a b p q → ab (p - q) + Stp c d q < Stp a b p := fun c d hz => by
    apply Int.not_le.mp
    intro z
    exact hno ⟨(c, d), hz, z⟩
  have k1 : a ≤ min b ((p + q - 1) / 2) → _ := fun z => key a (min b ((p + q - 1) / 2)) (mem_parts.mpr ⟨z, .inl ⟨rfl, rfl⟩⟩)
  have k3 : max a ((p + q) / 2 + 1) ≤ b → _ := fun z => key (max a ((p + q) / 2 + 1)) b (mem_parts.mpr ⟨z, .inr (.inr ⟨rfl, rfl⟩)⟩)
  have k2 : max a ((p + q + 1) / 2) ≤ min b ((p + q) / 2) → _ := fun z => key (max a ((p + q + 1) / 2)) (min b ((p + q) / 2)) (mem_parts.mpr ⟨z, .inr (.inl ⟨rfl, rfl⟩)⟩)
  clear key hno
  by_cases z1 : a ≤ min b ((p + q - 1) / 2) <;> by_cases z3 : max a ((p + q) / 2 + 1) ≤ b
  · have g1 := k1 z1
    have g3 := k3 z3
    clear k1 k2 k3
    unfold Stp ab at g1 g3
    repeat' split at g1
    all_goals (repeat' split at g3)
    all_goals omega
  · have g1 := k1 z1
    clear k1 k3
    unfold Stp ab at g1
    by_cases z2 : max a ((p + q + 1) / 2) ≤ min b ((p + q) / 2)
    · repeat' split at g1
      all_goals omega
    · repeat' split at g1
      all_goals omega
  · have g3 := k3 z3
    clear k1 k3 k2
    unfold Stp ab at g3
    repeat' split at g3
    all_goals omega
  · omega
theorem sx_le {L : Int} {n : Nat} {a b p : Int} (h : En true L n a b p) (hab : a ≤ b) : Stp a b p ≤ n := by
  induction h with
  | one =>
    unfold Stp
    rw [if_pos rfl]
    omega
  | @go n a b p q h1 h2 ne hc h ih =>
    by_cases hlt : a < b
    · obtain ⟨⟨c, d⟩, hz, hle⟩ := Stp_low (q := q) hlt ne
      obtain ⟨w, hw⟩ := (parts_cut ne).mp hz
      have := ih w c d hw hw.1
      have ec : ((cost true p q : Nat) : Int) = ab (p - q) := by
        unfold cost
        rw [if_pos rfl]
        have : 0 ≤ ab (p - q) := by
          unfold ab
          split <;> omega
        omega
      dsimp only at hle
      omega
    · have : a = b := by omega
      unfold Stp
      rw [if_pos this]
      omega
theorem en_up {L : Int} : ∀ (m : Nat) (a b p : Int), 1 ≤ p → p ≤ a → a ≤ b → b ≤ L → (b - p).toNat = m → En true L m a b p
  | 0, a, b, p, h1, h2, h3, h4, hm => by
    rw [show a = b by omega]
    exact .one
  | m + 1, a, b, p, h1, h2, h3, h4, hm => by
    by_cases hab : a = b
    · rw [hab]
      exact .one
    · refine .go (p + 1) (by omega) (by omega) (by omega) (by rw [cost_next]; omega) fun w c d hcut => ?_
      rw [cost_next]
      show En true L m c d (p + 1)
      have hs := hcut.sub
      have hcd := hcut.1
      by_cases hc : c ≤ p
      · have hc' := (hcut.2 c).mp ⟨by omega, hcd⟩
        have hd' := (hcut.2 d).mp ⟨hcd, by omega⟩
        have e := hc'.2.2.trans hd'.2.2.symm
        rw [mv_next, mv_next, if_pos hc] at e
        have hdp : d ≤ p := by
          by_cases z : d ≤ p
          · exact z
          · rw [if_neg z] at e
            cases e
        rw [show c = d by omega]
        exact .one
      · exact (en_up m (max a (p + 1)) b (p + 1) (by omega) (by omega) (by omega) h4 (by omega)).less (by omega) hcd hs.2
theorem en_down {L : Int} (m : Nat) (a b p : Int) (h1 : p ≤ L) (h2 : b ≤ p) (h3 : a ≤ b) (h4 : 1 ≤ a) (hm : (p - a).toNat = m) : En true L m a b p :=
  En.mirror_iff.mp (en_up m (L + 1 - b) (L + 1 - a) (L + 1 - p) (by omega) (by omega) (by omega) (by omega) (by omega))
theorem en_upfirst {L : Int} {a b p : Int} (h1 : 1 ≤ a) (h2 : a < p) (h3 : p < b) (h4 : b ≤ L) : En true L (max (b - p) (p - a + 2)).toNat a b p := by
  refine .go (p + 1) (by omega) (by omega) (by omega) (by rw [cost_next]; omega) fun w c d hcut => ?_
  rw [cost_next]
  have hs := hcut.sub
  have hcd := hcut.1
  have hc' := (hcut.2 c).mp ⟨by omega, hcd⟩
  have hd' := (hcut.2 d).mp ⟨hcd, by omega⟩
  have e := hc'.2.2.trans hd'.2.2.symm
  rw [mv_next, mv_next] at e
  by_cases hc : c ≤ p
  · have hdp : d ≤ p := by
      by_cases z : d ≤ p
      · exact z
      · rw [if_pos hc, if_neg z] at e
        cases e
    exact (en_down (p + 1 - c).toNat c d (p + 1) (by omega) (by omega) hcd (by omega) rfl).mono (by omega)
  · exact (en_up (d - (p + 1)).toNat c d (p + 1) (by omega) (by omega) hcd (by omega) rfl).mono (by omega)
theorem sx_en {L a b p : Int} (h1 : 1 ≤ a) (h2 : a ≤ b) (h3 : b ≤ L) (h4 : 1 ≤ p) (h5 : p ≤ L) : En true L (Stp a b p).toNat a b p := by
  unfold Stp
  split
  · rename_i e
    rw [e]
    exact .one
  · split
    · exact en_up _ a b p h4 (by omega) h2 h3 rfl
    · split
      · exact en_down _ a b p h5 (by omega) h2 h1 rfl
      · by_cases z : max (b - p) (p - a + 2) ≤ max (p - a) (b - p + 2)
        · rw [Int.min_eq_left z]
          exact en_upfirst h1 (by omega) (by omega) h3
        · rw [Int.min_eq_right (by omega)]
          have := en_upfirst (L := L) (a := L + 1 - b) (b := L + 1 - a) (p := L + 1 - p) (by omega) (by omega) (by omega) (by omega)
          have := En.mirror_iff.mp this
          refine this.mono ?_
          omega
theorem sx_least {L a b p : Int} (h1 : 1 ≤ a) (h2 : a ≤ b) (h3 : b ≤ L) (h4 : 1 ≤ p) (h5 : p ≤ L) : LeastN true L a b p (Stp a b p).toNat :=
  ⟨sx_en h1 h2 h3 h4 h5, fun k hk e => by
    have := sx_le e h2
    omega⟩
theorem cost_ab (p q : Int) : ((cost true p q : Nat) : Int) = ab (p - q) := by
  unfold cost
  rw [if_pos rfl]
  have : 0 ≤ ab (p - q) := by
    unfold ab
    split <;> omega
  omega
/-- by q just as few steps are enough: reckoned -/
theorem good_steps {L a b p q m : Int} (h1 : 1 ≤ a) (h2 : a < b) (h3 : b ≤ L) (hq : 1 ≤ q ∧ q ≤ L) (ne : q ≠ p) (hm : ∃ z ∈ partsOf a b p q, m = Stp z.1 z.2 q) (hmax : ∀ z ∈ partsOf a b p q, Stp z.1 z.2 q ≤ m) :
    Good true L (Stp a b p).toNat a b p q ↔ ab (q - p) + m = Stp a b p := by
  have eab : ab (q - p) = ab (p - q) := by
    unfold ab
    repeat' split
    all_goals omega
  rw [good_parts ne, eab]
  have hc := cost_ab p q
  have hin : ∀ z ∈ partsOf a b p q, 1 ≤ z.1 ∧ z.1 ≤ z.2 ∧ z.2 ≤ L := fun z hz => by
    obtain ⟨c, d⟩ := z
    obtain ⟨w, hw⟩ := (parts_cut ne).mp hz
    have := hw.sub
    have := hw.1
    exact ⟨by show 1 ≤ c; omega, this, by show d ≤ L; omega⟩
  have hpos := Stp_pos (p := p) h2
  constructor
  · rintro ⟨g1, g2⟩
    obtain ⟨z, hz, rfl⟩ := hm
    have hle := sx_le (g2 z hz) (hin z hz).2.1
    obtain ⟨y, hy, hyl⟩ := Stp_low (q := q) h2 ne
    have := hmax y hy
    omega
  · intro e
    have hm0 : 0 ≤ m := by
      obtain ⟨z, hz, rfl⟩ := hm
      exact Stp_nonneg (hin z hz).2.1
    refine ⟨by omega, fun z hz => ?_⟩
    have i := hin z hz
    refine (sx_en i.1 i.2.1 i.2.2 hq.1 hq.2).mono ?_
    have := hmax z hz
    have := Stp_nonneg (p := q) i.2.1
    omega
/-! ### min of a list of pairs of ints -/
def lexle (p q : Int × Int) : Prop := p.1 < q.1 ∨ p.1 = q.1 ∧ p.2 ≤ q.2
theorem lt_pair (p q : Int × Int) : PySem.W.DatumOrd.lt p q = true ↔ p.1 < q.1 ∨ p.1 = q.1 ∧ p.2 < q.2 := by
  show (if p.1 = q.1 then decide (p.2 < q.2) else decide (p.1 < q.1)) = true ↔ _
  split
  · rename_i h
    rw [decide_eq_true_iff]
    constructor
    · intro z
      exact .inr ⟨h, z⟩
    · rintro (z | z)
      · omega
      · exact z.2
  · rename_i h
    rw [decide_eq_true_iff]
    constructor
    · intro z
      exact .inl z
    · rintro (z | z)
      · exact z
      · exact absurd z.1 h
theorem minOf_pairs : ∀ (xs : List (Int × Int)) (x : Int × Int), (PySem.W.minOf x xs = x ∨ PySem.W.minOf x xs ∈ xs) ∧ lexle (PySem.W.minOf x xs) x ∧ ∀ y ∈ xs, lexle (PySem.W.minOf x xs) y
  | [], x => ⟨.inl rfl, .inr ⟨rfl, Int.le_refl _⟩, fun y hy => (nomatch hy)⟩
  | z :: xs, x => by
    have tr : ∀ {a b c : Int × Int}, lexle a b → lexle b c → lexle a c := fun {a b c} h1 h2 => by
      unfold lexle at *
      omega
    have e : PySem.W.minOf x (z :: xs) = PySem.W.minOf (if PySem.W.DatumOrd.lt z x = true then z else x) xs := rfl
    rw [e]
    by_cases h : PySem.W.DatumOrd.lt z x = true
    · rw [if_pos h]
      obtain ⟨h1, h2, h3⟩ := minOf_pairs xs z
      have hz : lexle z x := by
        have := (lt_pair z x).mp h
        unfold lexle
        omega
      refine ⟨?_, tr h2 hz, fun y hy => ?_⟩
      · rcases h1 with h1 | h1
        · exact .inr (by rw [h1]; exact List.mem_cons_self)
        · exact .inr (List.mem_cons_of_mem _ h1)
      · rcases List.mem_cons.mp hy with rfl | hy
        · exact h2
        · exact h3 y hy
    · rw [if_neg h]
      obtain ⟨h1, h2, h3⟩ := minOf_pairs xs x
      have hz : lexle x z := by
        have : ¬ (z.1 < x.1 ∨ z.1 = x.1 ∧ z.2 < x.2) := fun t => h ((lt_pair z x).mpr t)
        unfold lexle
        omega
      refine ⟨?_, h2, fun y hy => ?_⟩
      · rcases h1 with h1 | h1
        · exact .inl h1
        · exact .inr (List.mem_cons_of_mem _ h1)
      · rcases List.mem_cons.mp hy with rfl | hy
        · exact tr h2 hz
        · exact h3 y hy
/-- at us stand the pairs ps -/
inductive AtPairs (H : Hp) : List Addr → List (Int × Int) → Prop
  | nil : AtPairs H [] []
  | cons {u : Addr} {us : List Addr} {p : Int × Int} {ps : List (Int × Int)} : H u = some (.tup [.int p.1, .int p.2]) → AtPairs H us ps → AtPairs H (u :: us) (p :: ps)
theorem AtPairs.ex {H H' : Hp} (e : Ex H H') : ∀ {us : List Addr} {ps : List (Int × Int)}, AtPairs H us ps → AtPairs H' us ps
  | _, _, .nil => .nil
  | _, _, .cons h t => .cons (e _ _ h) (t.ex e)
theorem AtPairs.snoc {H : Hp} {u : Addr} {p : Int × Int} (h : H u = some (.tup [.int p.1, .int p.2])) : ∀ {us : List Addr} {ps : List (Int × Int)}, AtPairs H us ps → AtPairs H (us ++ [u]) (ps ++ [p])
  | _, _, .nil => .cons h .nil
  | _, _, .cons g t => .cons g (t.snoc h)
theorem AtPairs.len {H : Hp} : ∀ {us : List Addr} {ps : List (Int × Int)}, AtPairs H us ps → us.length = ps.length
  | _, _, .nil => rfl
  | _, _, .cons _ t => by rw [List.length_cons, List.length_cons, t.len]
theorem AtPairs.at {H : Hp} : ∀ {us : List Addr} {ps : List (Int × Int)}, AtPairs H us ps → ∀ {i : Nat} {u : Addr}, us[i]? = some u → ∃ p, ps[i]? = some p ∧ H u = some (.tup [.int p.1, .int p.2])
  | _, _, .nil, i, u, h => by simp at h
  | _, _, .cons g t, 0, u, h => by
    cases h
    exact ⟨_, rfl, g⟩
  | _, _, .cons g t, i + 1, u, h => t.at (i := i) h
theorem AtPairs.mut {H : Hp} {U : Addr} {xs : List V} {o : HO} (hU : H U = some (.lst xs)) : ∀ {us : List Addr} {ps : List (Int × Int)}, AtPairs H us ps → AtPairs (upd H U o) us ps
  | _, _, .nil => .nil
  | _, _, .cons h t => .cons (by rw [upd_ne (ne_of h hU (by intro z; cases z))]; exact h) (t.mut hU)
def dPr (p : Int × Int) : PyData := .tuple [.int p.1, .int p.2]
theorem AtPairs.dp {K : PySem.W.Frag} {H : Hp} : ∀ {us : List Addr} {ps : List (Int × Int)}, AtPairs H us ps → DpAll K H (us.map V.ref) (ps.map dPr)
  | _, _, .nil => .nil
  | _, _, .cons g t => .cons (.tup (SqT.of g) (.cons (.int _) (.cons (.int _) .nil))) t.dp
def rMinP (K : PySem.W.Frag) : List V → Hp → VK → Prop := fun vs H Q => ∃ (a : Addr) (us : List Addr) (ps : List (Int × Int)), vs = [V.ref a] ∧ SqL K H a (us.map V.ref) ∧ AtPairs H us ps ∧ ps ≠ [] ∧
  ∀ u p, H u = some (.tup [.int p.1, .int p.2]) → p ∈ ps → (∀ q ∈ ps, lexle p q) → Q (.ref u) H
theorem vals_refs : ∀ {us : List Addr} {its : List Value} {i : Nat} {v : Value}, Vals (us.map V.ref) its → its[i]? = some v → ∃ u, us[i]? = some u ∧ v = .ref u
  | [], _, i, v, r, h => by
    cases r
    simp at h
  | u :: us, _, 0, v, r, h => by
    cases r with
    | cons r1 r2 =>
      cases h
      exact ⟨u, rfl, r1⟩
  | u :: us, _, i + 1, v, r, h => by
    cases r with
    | cons r1 r2 => exact vals_refs (us := us) (i := i) r2 h
theorem cr_minP {X : Cx} (hc : X.calm = true) (hu : X.A.units + 65 < cLine) : CallR X (.builtin "min") (rMinP X.K) := by
  intro pins s σ H vs us' Q I r h
  obtain ⟨a, us, ps, rfl, hs, hat, hne, q⟩ := h
  obtain ⟨its, rv, hl, _⟩ := I.list hs
  rw [Vals.ref1 r]
  match ps, hat, hne, q with
  | p :: ps, hat, _, q =>
    obtain ⟨as, hr⟩ := Dp.readsAll I ((p :: ps).map dPr) (us.map V.ref) its hat.dp rv
    have hH : PySem.W.HoldAll s.heap its.toArray.toList (p :: ps) := ⟨as, hr⟩
    refine PySem.W.min_list_datum (I.ok.hd hc) hl.isList hH (by show X.A.units + 1 + (max 0 0 + 1) < cLine; omega) fun i v h' tk hi hh hk => ?_
    have hi' : its[i]? = some v := by
      rw [List.getElem?_toArray] at hi
      exact hi
    obtain ⟨u, hu', rfl⟩ := vals_refs rv hi'
    obtain ⟨p', hp', hup⟩ := hat.at hu'
    obtain ⟨as1, r1⟩ := Dp.reads I (dPr p') (.ref u) (.ref u) (.tup (SqT.of hup) (.cons (.int _) (.cons (.int _) .nil))) rfl
    obtain ⟨as2, r2⟩ := hh
    have e := (PyProof.Rows.reads_det (fun b o hb _ => hk b o hb) r1 r2).1
    have ep : PySem.W.minOf p ps = p' := by
      injection e with e
      injection e with e1 e2
      injection e2 with e3 e4
      injection e1 with e1
      injection e3 with e3
      exact Prod.ext e1 e3
    obtain ⟨m1, m2, m3⟩ := minOf_pairs ps p
    rw [ep] at m2 m3
    refine ⟨.ref u, H, I.kept hk, rfl, q u p' hup (List.mem_of_getElem? hp') fun z hz => ?_⟩
    rcases List.mem_cons.mp hz with rfl | hz
    · exact m2
    · exact m3 z hz
theorem AtPairs.mutG {H : Hp} {U : Addr} {o : HO} (hU : ∀ xs, H U ≠ some (.tup xs)) : ∀ {us : List Addr} {ps : List (Int × Int)}, AtPairs H us ps → AtPairs (upd H U o) us ps
  | _, _, .nil => .nil
  | _, _, .cons h t => .cons (by rw [upd_ne (fun z => hU _ (z ▸ h))]; exact h) (t.mutG hU)
def sp_parts_of (K : PySem.W.Frag) : Sp := fun vs H Q _ => ∃ (s : Addr) (a b p q : Int), vs = [.ref s, .int p, .int q] ∧ H s = some (.tup [.int a, .int b]) ∧
  ∀ D H' us, H D = none → Ex H H' → H' D = some (.lst (us.map V.ref)) → AtPairs H' us (partsOf a b p q) → Q (.ref D) H'
abbrev N_parts_of : List Str := ["stretch", "earlier", "later", "low", "high", "middle_twice", "below", "inside", "above", "part"]
def t_parts_of (K : PySem.W.Frag) : TS := (tSeq (tAsg (tVar 0) (gTup K 2 (gCons (gName 3) (gCons (gName 4) gNil))))
  (tSeq (tAsg (tOp (rI0 fun i j => .int (i + j)) (tVar 1) (tVar 2)) (gName 5))
  (tSeq (tAsg (tTup (tCons (tVar 3) (tCons (tCB rMin2 (tCons (tVar 4) (tCons (tOp (rI CDiv fun i j => .int (i / j)) (tOp (rI0 fun i j => .int (i - j)) (tVar 5) (tC (.int 1))) (tC (.int 2))) tNil))) tNil))) (gName 6))
  (tSeq (tAsg (tTup (tCons (tCB rMax2 (tCons (tVar 3) (tCons (tOp (rI CDiv fun i j => .int (i / j)) (tOp (rI0 fun i j => .int (i + j)) (tVar 5) (tC (.int 1))) (tC (.int 2))) tNil))) (tCons (tCB rMin2 (tCons (tVar 4) (tCons (tOp (rI CDiv fun i j => .int (i / j)) (tVar 5) (tC (.int 2))) tNil))) tNil))) (gName 7))
  (tSeq (tAsg (tTup (tCons (tCB rMax2 (tCons (tVar 3) (tCons (tOp (rI0 fun i j => .int (i + j)) (tOp (rI CDiv fun i j => .int (i / j)) (tVar 5) (tC (.int 2))) (tC (.int 1))) tNil))) (tCons (tVar 4) tNil))) (gName 8))
  (tRet (tLc (iTup K (tTup (tCons (tVar 6) (tCons (tVar 7) (tCons (tVar 8) tNil))))) (gName 9) (tTest (tOp (rI0 fun i j => .bl (decide (i ≤ j))) (tOp (rIxT K) (tVar 9) (tC (.int 0))) (tOp (rIxT K) (tVar 9) (tC (.int 1))))) (tVar 9) [9])))))))
theorem if_min (i j : Int) : (if j < i then j else i) = min i j := by
  split <;> omega
theorem if_max (i j : Int) : (if j > i then j else i) = max i j := by
  split <;> omega
theorem pure_parts_of {K : PySem.W.Frag} {vs : List V} {H : Hp} {Q : VK} {E : XK} (h : sp_parts_of K vs H Q E) : t_parts_of K { nx := fun _ H' => Q .non H', rt := Q } (start N_parts_of vs) H := by
  obtain ⟨s, a, b, p, q', rfl, hs, q⟩ := h
  refine ⟨_, rfl, s, _, rfl, SqT.of hs, rfl, _, _, rfl, _, [], rfl, rfl, ?_⟩
  refine ⟨_, rfl, _, rfl, p, q', rfl, rfl, ?_⟩
  refine ⟨_, rfl, _, rfl, _, rfl, p + q', 1, rfl, rfl, p + q' - 1, 2, rfl, rfl, ⟨by decide, by decide⟩, b, _, rfl, by show 2 ≤ sizeLine; decide, fun u1 n1 => ?_⟩
  dsimp only
  rw [if_min]
  have e1 : Ex H (upd H u1 (.tup [.int a, .int (min b ((p + q' - 1) / 2))])) := Ex.new n1
  have g1 : (upd H u1 (.tup [.int a, .int (min b ((p + q' - 1) / 2))])) u1 = some (.tup [.int a, .int (min b ((p + q' - 1) / 2))]) := upd_same
  generalize upd H u1 (.tup [.int a, .int (min b ((p + q' - 1) / 2))]) = H1 at e1 g1 ⊢
  refine ⟨_, rfl, _, rfl, p + q', 1, rfl, rfl, p + q' + 1, 2, rfl, rfl, ⟨by decide, by decide⟩, a, _, rfl, _, rfl, _, rfl, p + q', 2, rfl, rfl, ⟨by decide, by decide⟩, b, _, rfl, by show 2 ≤ sizeLine; decide, fun u2 n2 => ?_⟩
  dsimp only
  rw [if_min, if_max]
  have e2 : Ex H1 (upd H1 u2 (.tup [.int (max a ((p + q' + 1) / 2)), .int (min b ((p + q') / 2))])) := Ex.new n2
  have g2 : (upd H1 u2 (.tup [.int (max a ((p + q' + 1) / 2)), .int (min b ((p + q') / 2))])) u2 = some (.tup [.int (max a ((p + q' + 1) / 2)), .int (min b ((p + q') / 2))]) := upd_same
  generalize upd H1 u2 (.tup [.int (max a ((p + q' + 1) / 2)), .int (min b ((p + q') / 2))]) = H2 at e2 g2 ⊢
  refine ⟨_, rfl, _, rfl, p + q', 2, rfl, rfl, ⟨by decide, by decide⟩, _, 1, rfl, rfl, a, _, rfl, _, rfl, by show 2 ≤ sizeLine; decide, fun u3 n3 => ?_⟩
  dsimp only
  rw [if_max]
  have e3 : Ex H2 (upd H2 u3 (.tup [.int (max a ((p + q') / 2 + 1)), .int b])) := Ex.new n3
  have g3 : (upd H2 u3 (.tup [.int (max a ((p + q') / 2 + 1)), .int b])) u3 = some (.tup [.int (max a ((p + q') / 2 + 1)), .int b]) := upd_same
  generalize upd H2 u3 (.tup [.int (max a ((p + q') / 2 + 1)), .int b]) = H3 at e3 g3 ⊢
  refine ⟨_, rfl, _, rfl, _, rfl, by show 3 ≤ sizeLine; decide, fun t nt => ?_⟩
  have e4 : Ex H3 (upd H3 t (.tup [.ref u1, .ref u2, .ref u3])) := Ex.new nt
  have gt : (upd H3 t (.tup [.ref u1, .ref u2, .ref u3])) t = some (.tup ([u1, u2, u3].map V.ref)) := upd_same
  have hp3 : AtPairs (upd H3 t (.tup [.ref u1, .ref u2, .ref u3])) [u1, u2, u3] (parts3 a b p q') := .cons (e4 _ _ (e3 _ _ (e2 _ _ g1))) (.cons (e4 _ _ (e3 _ _ g2)) (.cons (e4 _ _ g3) .nil))
  have e04 := ((e1.trans e2).trans e3).trans e4
  generalize upd H3 t (.tup [.ref u1, .ref u2, .ref u3]) = H4 at e04 gt hp3 ⊢
  refine ⟨t, rfl, ⟨_, SqT.of gt⟩, fun D hD => ?_⟩
  refine lc_tup (xs := [u1, u2, u3].map V.ref) (fun i H' => Ex H4 H' ∧ ∃ us : List Addr, H' D = some (.lst (us.map V.ref)) ∧ us.length ≤ i ∧ AtPairs H' us (((parts3 a b p q').take i).filter fun z => decide (z.1 ≤ z.2)))
    ⟨Ex.new hD, [], upd_same, Nat.le_refl _, .nil⟩ (fun i H' _ p => SqT.of (p.1 _ _ gt)) (fun i x H' hx p => ?_) (fun H' p => ?_)
  · obtain ⟨e5, us, hd, hul, hps⟩ := p
    have hi : i < 3 := (List.getElem?_eq_some_iff.mp hx).1
    obtain ⟨u, hu, rfl⟩ : ∃ u, [u1, u2, u3][i]? = some u ∧ x = .ref u := by
      rw [List.getElem?_map] at hx
      cases hg : [u1, u2, u3][i]? with
      | none => rw [hg] at hx; cases hx
      | some u =>
        rw [hg] at hx
        exact ⟨u, rfl, (Option.some.inj hx).symm⟩
    obtain ⟨z, hz, hzu⟩ := hp3.at hu
    have hzu5 := e5 _ _ hzu
    have etk : (((parts3 a b p q').take (i + 1)).filter fun z => decide (z.1 ≤ z.2)) = (((parts3 a b p q').take i).filter fun z => decide (z.1 ≤ z.2)) ++ (if z.1 ≤ z.2 then [z] else []) := by
      rw [List.take_add_one, hz, List.filter_append]
      congr 1
      by_cases hzz : z.1 ≤ z.2
      · rw [if_pos hzz]
        simp [hzz]
      · rw [if_neg hzz]
        simp [hzz]
    refine ⟨rfl, _, rfl, u, _, 0, .int z.1, rfl, rfl, SqT.of hzu5, rfl, _, rfl, u, _, 1, .int z.2, rfl, rfl, SqT.of hzu5, rfl, z.1, z.2, rfl, rfl, _, rfl, ite2 (fun hle => ?_) (fun hle => ?_)⟩
    · have hle := of_decide_eq_true hle
      rw [if_pos hle] at etk
      refine ⟨_, rfl, _, hd, ?_, e5.mut hD, us ++ [u], ?_, ?_, ?_⟩
      · rw [List.length_map]
        exact small1000 (by omega)
      · rw [upd_same, List.map_append]
        rfl
      · rw [List.length_append]
        show us.length + 1 ≤ i + 1
        omega
      · rw [etk]
        exact (hps.snoc hzu5).mutG fun xs zz => by
          rw [hd] at zz
          cases zz
    · rw [if_neg (fun w => hle (decide_eq_true w)), List.append_nil] at etk
      refine ⟨e5, us, hd, by omega, ?_⟩
      rw [etk]
      exact hps
  · obtain ⟨e5, us, hd, hul, hps⟩ := p
    exact q D H' us (fresh_back e04 hD) (e04.trans e5) hd hps
theorem len_parts_of {K : PySem.W.Frag} {vs : List V} {H : Hp} {Q : VK} {E : XK} (h : sp_parts_of K vs H Q E) : vs.length = 3 := by
  obtain ⟨s, a, b, p, q', rfl, _⟩ := h
  rfl
def others (l p : Int) : List Int := (rng 1 (l + 1)).filter fun t => !decide ((V.int t : V) = V.int p)
theorem mem_others {l p t : Int} : t ∈ others l p ↔ (1 ≤ t ∧ t ≤ l) ∧ t ≠ p := by
  unfold others
  rw [List.mem_filter, mem_rng]
  constructor
  · rintro ⟨⟨h1, h2⟩, h3⟩
    refine ⟨⟨h1, by omega⟩, fun z => ?_⟩
    rw [z, decide_eq_true rfl] at h3
    cases h3
  · rintro ⟨⟨h1, h2⟩, h3⟩
    refine ⟨⟨h1, by omega⟩, ?_⟩
    rw [decide_eq_false (fun z => h3 (V.int.inj z))]
    rfl
theorem others_up (l p : Int) : (others l p).Pairwise (· < ·) := by
  unfold others
  refine List.Pairwise.filter _ ?_
  unfold rng
  rw [List.pairwise_map]
  refine List.Pairwise.imp ?_ List.pairwise_lt_range
  intro x y h
  omega
theorem others_len (l p : Int) : (others l p).length ≤ l.toNat := by
  unfold others
  refine Nat.le_trans (List.length_filter_le _ _) ?_
  rw [rng_len]
  omega
/-- what stands ahead of the i-th -/
theorem up_take : ∀ {l : List Int}, l.Pairwise (· < ·) → ∀ {i : Nat} {q r : Int}, l[i]? = some q → r ∈ l → r < q → r ∈ l.take i
  | [], _, _, _, _, h, _, _ => by simp at h
  | x :: l, hp, 0, q, r, h, hr, hlt => by
    have e : x = q := Option.some.inj h
    rcases List.mem_cons.mp hr with z | z
    · omega
    · have := (List.pairwise_cons.mp hp).1 r z
      omega
  | x :: l, hp, i + 1, q, r, h, hr, hlt => by
    rw [List.take_succ_cons]
    rcases List.mem_cons.mp hr with z | z
    · rw [z]
      exact List.mem_cons_self
    · exact List.mem_cons_of_mem _ (up_take (List.pairwise_cons.mp hp).2 h z hlt)
def sp_other_places (K : PySem.W.Frag) : Sp := fun vs H Q _ => ∃ l p : Int, vs = [.int l, .int p] ∧ 0 ≤ l ∧ l ≤ 60 ∧ ∀ D H', H D = none → Ex H H' → H' D = some (.lst ((others l p).map V.int)) → Q (.ref D) H'
abbrev N_other_places : List Str := ["length", "place", "other"]
def t_other_places (K : PySem.W.Frag) : TS := (tRet (tLc (iRng2 (tCons (tC (.int 1)) (tCons (tOp (rI0 fun i j => .int (i + j)) (tVar 0) (tC (.int 1))) tNil))) (gName 2) (tTest (tOp rNe (tVar 2) (tVar 1))) (tVar 2) [2]))
theorem pure_other_places {K : PySem.W.Frag} {vs : List V} {H : Hp} {Q : VK} {E : XK} (h : sp_other_places K vs H Q E) : t_other_places K { nx := fun _ H' => Q .non H', rt := Q } (start N_other_places vs) H := by
  obtain ⟨l, p, rfl, h0, h1, q⟩ := h
  have hc : Evl.EvL (tLc (iRng2 (tCons (tC (.int 1)) (tCons (tOp (rI0 fun i j => .int (i + j)) (tVar 0) (tC (.int 1))) tNil))) (gName 2) (tTest (tOp rNe (tVar 2) (tVar 1))) (tVar 2) [2]) (start N_other_places [.int l, .int p]) H ((others l p).map V.int) := by
    refine el_rng (fun t => !decide ((V.int t : V) = V.int p)) V.int (Evl.ea_cons Evl.ev_c (Evl.ea_cons (Evl.ev_op (Evl.ev_var rfl) Evl.ev_c Evl.rv_I0) Evl.ea_nil)) (by omega) (fun _ => rfl) (fun n H3 e3 _ _ => ?_) (fun n H3 e3 _ _ _ => Evl.ev_var rfl)
    intro H4 e4 Q4 q4
    exact ⟨_, rfl, _, rfl, rfl, _, rfl, q4 H4 (Ex.refl H4)⟩
  exact hc H (Ex.refl H) _ fun D H2 nD e2 h2 => q D H2 nD e2 h2
theorem len_other_places {K : PySem.W.Frag} {vs : List V} {H : Hp} {Q : VK} {E : XK} (h : sp_other_places K vs H Q E) : vs.length = 2 := by
  obtain ⟨l, p, rfl, _⟩ := h
  rfl
/-! ### dicts whose keys are ((lo, hi), place, spare) -/
abbrev SK := Int × Int × Int × Int
def nk (k : SK) : NestedKey := .tup [.tup [.num k.1, .num k.2.1], .num k.2.2.1, .num k.2.2.2]
theorem nk_inj {a b : SK} (h : nk a = nk b) : a = b := by
  unfold nk at h
  injection h with h
  injection h with h1 h2
  injection h1 with h1
  injection h1 with h3 h4
  injection h4 with h4 _
  injection h2 with h5 h6
  injection h6 with h6 _
  injection h3 with h3
  injection h4 with h4
  injection h5 with h5
  injection h6 with h6
  exact Prod.ext h3 (Prod.ext h4 (Prod.ext h5 h6))
/-- the spot k stands at b -/
def SpotAt (H : Hp) (b : Addr) (k : SK) : Prop := ∃ sb, H b = some (.tup [.ref sb, .int k.2.2.1, .int k.2.2.2]) ∧ H sb = some (.tup [.int k.1, .int k.2.1])
theorem SpotAt.ex {H H' : Hp} {b : Addr} {k : SK} (e : Ex H H') (h : SpotAt H b k) : SpotAt H' b k := by
  obtain ⟨sb, h1, h2⟩ := h
  exact ⟨sb, e _ _ h1, e _ _ h2⟩
theorem SpotAt.mutG {H : Hp} {b U : Addr} {k : SK} {o : HO} (hU : ∀ xs, H U ≠ some (.tup xs)) (h : SpotAt H b k) : SpotAt (upd H U o) b k := by
  obtain ⟨sb, h1, h2⟩ := h
  exact ⟨sb, by rw [upd_ne (fun z => hU _ (z ▸ h1))]; exact h1, by rw [upd_ne (fun z => hU _ (z ▸ h2))]; exact h2⟩
abbrev NT := List (SK × Addr × V)
def NP (p : SK × Addr × V) (q : NestedKey × Addr × Value) : Prop := nk p.1 = q.1 ∧ p.2.1 = q.2.1 ∧ RelV p.2.2 q.2.2
def dNo (P : Program) (w : World) (a : Addr) (kvs : NT) : HO := .ext fun h => kvs.length ≤ sizeLine ∧ (a == sysModules) = false ∧ ∃ xs : List (NestedKey × Addr × Value), Paired NP kvs xs ∧
  ∃ o es ep, h.get? a = some o ∧ o.ExactDict ∧ o.data = .dict es ep ∧ es.toList = xs.map (entryOfKey (nestedKind P w)) ∧ (xs.map (·.1)).Nodup
def NAt (H : Hp) (kvs : NT) : Prop := ∀ e ∈ kvs, SpotAt H e.2.1 e.1
def ND (P : Program) (w : World) (H : Hp) (a : Addr) (kvs : NT) : Prop := H a = some (dNo P w a kvs) ∧ NAt H kvs
def valN (kvs : NT) (k : SK) : Option V := (kvs.find? fun e => decide (e.1 = k)).map (·.2.2)
def putN (kvs : NT) (k : SK) (b : Addr) (v : V) : NT := if (valN kvs k).isSome = true then kvs.map (fun e => if e.1 = k then (e.1, e.2.1, v) else e) else kvs ++ [(k, b, v)]
theorem dNo_ne_tup {P : Program} {w : World} {a : Addr} {kvs : NT} {xs : List V} : dNo P w a kvs ≠ .tup xs := fun z => by
  unfold dNo at z
  cases z
theorem dNo_ne_lst {P : Program} {w : World} {a : Addr} {kvs : NT} {xs : List V} : dNo P w a kvs ≠ .lst xs := fun z => by
  unfold dNo at z
  cases z
theorem valN_pos {e : SK × Addr × V} {r : NT} {k : SK} (h : e.1 = k) : valN (e :: r) k = some e.2.2 := by simp [valN, List.find?_cons, h]
theorem valN_neg {e : SK × Addr × V} {r : NT} {k : SK} (h : ¬ e.1 = k) : valN (e :: r) k = valN r k := by simp [valN, List.find?_cons, h]
theorem valN_map (k j : SK) (v : V) : ∀ kvs : NT, valN (kvs.map fun e => if e.1 = k then (e.1, e.2.1, v) else e) j = if j = k then (valN kvs j).map fun _ => v else valN kvs j
  | [] => by
    split <;> rfl
  | e :: r => by
    rw [List.map_cons]
    have hk : (if e.1 = k then (e.1, e.2.1, v) else e).1 = e.1 := by split <;> rfl
    by_cases h : e.1 = j
    · rw [valN_pos (hk.trans h), valN_pos h]
      by_cases hj : j = k
      · rw [if_pos (h.trans hj), if_pos hj]
        rfl
      · rw [if_neg (fun z => hj (h.symm.trans z)), if_neg hj]
    · rw [valN_neg (fun z => h (hk.symm.trans z)), valN_neg h, valN_map k j v r]
theorem valN_snoc (k j : SK) (b : Addr) (v : V) : ∀ kvs : NT, valN kvs k = none → valN (kvs ++ [(k, b, v)]) j = if j = k then some v else valN kvs j
  | [], _ => by
    by_cases h : j = k
    · rw [if_pos h]
      exact valN_pos (e := (k, b, v)) h.symm
    · rw [if_neg h]
      exact valN_neg (e := (k, b, v)) (fun z => h z.symm)
  | e :: r, hn => by
    by_cases he : e.1 = k
    · rw [valN_pos he] at hn
      cases hn
    · rw [valN_neg he] at hn
      rw [List.cons_append]
      by_cases h : e.1 = j
      · rw [valN_pos h, valN_pos h, if_neg (fun z => he (h.trans z))]
      · rw [valN_neg h, valN_neg h, valN_snoc k j b v r hn]
theorem valN_put (kvs : NT) (k j : SK) (b : Addr) (v : V) : valN (putN kvs k b v) j = if j = k then some v else valN kvs j := by
  unfold putN
  by_cases h : (valN kvs k).isSome = true
  · rw [if_pos h, valN_map]
    by_cases hj : j = k
    · rw [if_pos hj, if_pos hj, hj]
      obtain ⟨x, hx⟩ := Option.isSome_iff_exists.mp h
      rw [hx]
      rfl
    · rw [if_neg hj, if_neg hj]
  · rw [if_neg h]
    refine valN_snoc k j b v kvs ?_
    cases hq : valN kvs k with
    | none => rfl
    | some x =>
      rw [hq] at h
      exact absurd rfl h
theorem putN_len (kvs : NT) (k : SK) (b : Addr) (v : V) : (putN kvs k b v).length ≤ kvs.length + 1 := by
  unfold putN
  split
  · rw [List.length_map]
    omega
  · rw [List.length_append]
    exact Nat.le_refl _
theorem NAt.put {H : Hp} {kvs : NT} {k : SK} {b : Addr} {v : V} (h : NAt H kvs) (hb : SpotAt H b k) : NAt H (putN kvs k b v) := fun e he => by
  unfold putN at he
  split at he
  · obtain ⟨x, hx, rfl⟩ := List.mem_map.mp he
    split
    · exact h x hx
    · exact h x hx
  · rcases List.mem_append.mp he with z | z
    · exact h e z
    · rw [List.mem_singleton.mp z]
      exact hb
theorem NAt.ex {H H' : Hp} {kvs : NT} (e : Ex H H') (h : NAt H kvs) : NAt H' kvs := fun x hx => (h x hx).ex e
theorem NAt.mutG {H : Hp} {U : Addr} {kvs : NT} {o : HO} (hU : ∀ xs, H U ≠ some (.tup xs)) (h : NAt H kvs) : NAt (upd H U o) kvs := fun x hx => (h x hx).mutG hU
theorem ND.ex {P : Program} {w : World} {H H' : Hp} {a : Addr} {kvs : NT} (e : Ex H H') (h : ND P w H a kvs) : ND P w H' a kvs := ⟨e _ _ h.1, h.2.ex e⟩
/-! the pairs, side by side -/
theorem np_val {kvs : NT} {xs : List (NestedKey × Addr × Value)} (r : Paired NP kvs xs) (k : SK) : RelO (valN kvs k) ((atKey xs (nk k)).map (·.2)) := by
  induction r with
  | nil => exact True.intro
  | @cons p q ps qs h t ih =>
    obtain ⟨h1, _, h2⟩ := h
    by_cases e : p.1 = k
    · have e' : q.1 = nk k := by rw [← h1, e]
      have b : atKey (q :: qs) (nk k) = some q.2 := by simp [atKey, List.find?_cons, e']
      rw [valN_pos e, b]
      exact h2
    · have e' : ¬ q.1 = nk k := fun z => e (nk_inj (h1.trans z))
      have b : atKey (q :: qs) (nk k) = atKey qs (nk k) := by simp [atKey, List.find?_cons, e']
      rw [valN_neg e, b]
      exact ih
theorem np_repl {kvs : NT} {xs : List (NestedKey × Addr × Value)} (r : Paired NP kvs xs) (k : SK) {y : V} {u : Value} (ry : RelV y u) :
    Paired NP (kvs.map fun e => if e.1 = k then (e.1, e.2.1, y) else e) (xs.map (putAt (nk k) u)) := by
  induction r with
  | nil => exact .nil
  | @cons p q ps qs h t ih =>
    rw [List.map_cons, List.map_cons]
    refine .cons ?_ ih
    obtain ⟨h1, h2, h3⟩ := h
    unfold putAt
    by_cases e : p.1 = k
    · rw [if_pos e, if_pos (by rw [← h1, e])]
      exact ⟨h1, h2, ry⟩
    · rw [if_neg e, if_neg (fun z => e (nk_inj (h1.trans z)))]
      exact ⟨h1, h2, h3⟩
theorem np_put {kvs : NT} {xs : List (NestedKey × Addr × Value)} (r : Paired NP kvs xs) (k : SK) (b : Addr) {y : V} {u : Value} (ry : RelV y u) : Paired NP (putN kvs k b y) (storedH xs (nk k) b u) := by
  have e : (valN kvs k).isSome = (atKey xs (nk k)).isSome := by
    rw [(np_val r k).isSome_eq, Option.isSome_map]
  unfold putN storedH
  rw [e]
  by_cases q : (atKey xs (nk k)).isSome = true
  · rw [if_pos q, if_pos q]
    exact np_repl r k ry
  · rw [if_neg q, if_neg q]
    exact Paired.snoc r ⟨rfl, rfl, ry⟩
section
variable {X : Cx} {pins : List (Addr × Obj)} {σ : L2.St} {H : Hp} {s : Shared}
theorem tup_at {P : Program} {w : World} {H : Hp} {h : Heap} {a : Addr} {xs : List V} (ok : HOk P w H h) (e : H a = some (.tup xs)) : ∃ its o n, Vals xs its ∧ h.get? a = some o ∧ o.cls = .type "tuple" ∧ o.data = .seq its.toArray n := by
  obtain ⟨_, its, r, o, h1, h2, n, h3⟩ := (show ObjOk P w H h a (.tup xs) from ok a _ e)
  exact ⟨its, o, n, r, h1, h2, h3⟩
theorem spot_is {P : Program} {w : World} {H : Hp} {h : Heap} (ok : HOk P w H h) {b : Addr} {k : SK} (e : SpotAt H b k) : (nestedKind P w).is h (nk k) b := by
  obtain ⟨sb, h1, h2⟩ := e
  obtain ⟨its, o, n, r, g1, g2, g3⟩ := tup_at ok h1
  obtain ⟨its2, o2, n2, r2, f1, f2, f3⟩ := tup_at ok h2
  refine ⟨?_, by simp [nk, NestedKey.depth, NestedKey.depthAll]⟩
  cases r with
  | cons r1 r =>
    cases r with
    | cons r2' r =>
      cases r with
      | cons r3 r =>
        cases r
        cases r2 with
        | cons s1 r2 =>
          cases r2 with
          | cons s2 r2 =>
            cases r2
            obtain rfl := (show _ = Value.ref sb from r1)
            obtain ⟨t1, rfl⟩ := (show ∃ t, _ = Value.int _ t from r2')
            obtain ⟨t2, rfl⟩ := (show ∃ t, _ = Value.int _ t from r3)
            obtain ⟨t3, rfl⟩ := (show ∃ t, _ = Value.int _ t from s1)
            obtain ⟨t4, rfl⟩ := (show ∃ t, _ = Value.int _ t from s2)
            exact .tup g1 g2 g3 (.cons (.tup f1 f2 f3 (.cons (.int _ _) (.cons (.int _ _) .nil))) (.cons (.int _ _) (.cons (.int _ _) .nil)))
theorem nd_of {P : Program} {w : World} {H : Hp} {h : Heap} (ok : HOk P w H h) {a : Addr} {kvs : NT} (e : ND P w H a kvs) : kvs.length ≤ sizeLine ∧ (a == sysModules) = false ∧ ∃ xs, Paired NP kvs xs ∧ h.DictOfH (nestedKind P w) a xs := by
  obtain ⟨e1, e2⟩ := e
  have x : ObjOk P w H h a (dNo P w a kvs) := ok a _ e1
  obtain ⟨⟨z, y, xs, r, o, es, ep, h1, h2, h3, h4, h5⟩, _, _⟩ := x
  refine ⟨z, y, xs, r, o, es, ep, h1, h2, h3, h4, ?_, h5⟩
  have all : ∀ {l : NT} {m : List (NestedKey × Addr × Value)}, Paired NP l m → NAt H l → ∀ x ∈ m, (nestedKind P w).is h x.1 x.2.1 := by
    intro l m q
    induction q with
    | nil => intro _ x hx; exact nomatch hx
    | @cons p q ps qs hq t ih =>
      intro hn x hx
      rcases List.mem_cons.mp hx with e | hx
      · subst e
        have := spot_is ok (hn p List.mem_cons_self)
        rw [hq.1, hq.2.1] at this
        exact this
      · exact ih (fun e he => hn e (List.mem_cons_of_mem _ he)) x hx
  exact all r e2
theorem n_room {A : Around} (hu : A.units + 65 < cLine) : (nestedKind X.prog X.w).room A.in1 := by
  show A.units + 1 + 8 < cLine
  omega
theorem dNo_ok {P : Program} {w : World} {H : Hp} {h : Heap} {a : Addr} {kvs : NT} (z : kvs.length ≤ sizeLine) (y : (a == sysModules) = false) {xs : List (NestedKey × Addr × Value)} (r : Paired NP kvs xs)
    (d : ∃ o es ep, h.get? a = some o ∧ o.ExactDict ∧ o.data = .dict es ep ∧ es.toList = xs.map (entryOfKey (nestedKind P w)) ∧ (xs.map (·.1)).Nodup) : ObjOk P w H h a (dNo P w a kvs) := by
  refine ⟨⟨z, y, xs, r, d⟩, ?_, ?_⟩
  · obtain ⟨o, _, _, h1, _⟩ := d
    exact ⟨o, h1⟩
  · rintro h1 h2 ⟨z', y', xs', r', o, es, ep, g1, g2⟩ hk
    exact ⟨z', y', xs', r', o, es, ep, hk o g1, g2⟩
end
/-! the rules -/
def rNotInN (P : Program) (w : World) : R2 := fun x y H Q => ∃ a kvs b k, x = .ref b ∧ y = .ref a ∧ ND P w H a kvs ∧ SpotAt H b k ∧ Q (.bl (!(valN kvs k).isSome)) H
theorem op_notInN {X : Cx} (hu : X.A.units + 65 < cLine) : OpR X (compareOp .NotIn) (rNotInN X.prog X.w) := by
  intro pins s σ H x y v u Q I rx ry h
  obtain ⟨a, kvs, b, k, rfl, rfl, hd, hb, q⟩ := h
  cases (show v = Value.ref b from rx)
  cases (show u = Value.ref a from ry)
  obtain ⟨z, hs, xs, rel, dd⟩ := nd_of I.hok hd
  refine wpAny_notIn_heap (n_room hu) (spot_is I.hok hb) hs dd ?_
  have e := (np_val rel k).isSome_eq
  rw [Option.isSome_map] at e
  rw [← e]
  exact ⟨.bl _, H, I.tok _, rfl, q⟩
def tNGet (P : Program) (w : World) (td ty : TE) : TE := fun σ H Q => td σ H fun x H1 => ty σ H1 fun y H2 => ∃ a kvs b k v, x = .ref a ∧ y = .ref b ∧ ND P w H2 a kvs ∧ SpotAt H2 b k ∧ valN kvs k = some v ∧ Q v H2
theorem pe_nget {X : Cx} {o i : Expr} {pos : Pos} {td ty : TE} (hu : X.A.units + 65 < cLine) (ho : PE X o td) (hi : PE X i ty) (hs : NoSl i) : PE X (.Subscript o i pos) (tNGet X.prog X.w td ty) := by
  refine ⟨fun pins s σ H Q I h => ?_⟩
  refine subD_of PySem.F.slot_dict_getitem.lookup hs (thn (ho.run pins s σ H _ I h) fun u s1 ⟨x, H1, I1, rx, q1⟩ => thn (hi.run pins s1 σ H1 _ I1 q1) fun iv s2 ⟨y, H2, I2, ry, a, kvs, b, k, v, ex, ey, hd, hb, hv, q2⟩ => ?_)
  subst ex ey
  obtain rfl : u = Value.ref a := rx
  obtain rfl : iv = Value.ref b := ry
  obtain ⟨z, hs2, xs, rel, dd⟩ := nd_of I2.hok hd
  refine ⟨dd.typeIs, ?_⟩
  obtain ⟨w', hw, rw'⟩ := RelO.some_of (v := v) (o := (atKey xs (nk k)).map (·.2)) (by rw [← hv]; exact np_val rel k)
  obtain ⟨p, hp, hp2⟩ := Option.map_eq_some_iff.mp hw
  refine wpAny_getItem_heap (n_room hu) (spot_is I2.hok hb) dd hp ?_
  rw [hp2]
  exact ⟨v, H2, I2.tok _, rw', q2⟩
def sNPut (P : Program) (w : World) (td ty tv : TE) : TS := fun D σ H => tv σ H fun v H1 => td σ H1 fun x H2 => ty σ H2 fun y H3 => ∃ a kvs b k, x = .ref a ∧ y = .ref b ∧ ND P w H3 a kvs ∧ SpotAt H3 b k ∧ kvs.length < sizeLine ∧ D.nx σ (upd H3 a (dNo P w a (putN kvs k b v)))
theorem ps_nput {X : Cx} {o i value : Expr} {pos pos' : Pos} {td ty tv : TE} (hu : X.A.units + 65 < cLine) (ho : PE X o td) (hi : PE X i ty) (hv : PE X value tv) (hs : swapsWith value (some (.Subscript o i pos')) pos.line X.env = pure false) :
    PS X (.Assign [.Subscript o i pos'] value pos) (sNPut X.prog X.w td ty tv) := by
  refine ⟨fun pins s σ H D I h => ?_⟩
  refine wpAny_Assign_Subscript (thn (hv.run pins s σ H _ I h) fun r s1 ⟨v, H1, I1, rv, q1⟩ => thn (ho.run pins s1 σ H1 _ I1 q1) fun u s2 ⟨x, H2, I2, rx, q2⟩ => thn (hi.run pins s2 σ H2 _ I2 q2) fun iv s3 ⟨y, H3, I3, ry, a, kvs, b, k, ex, ey, hd, hb, hl, q3⟩ => ?_) hs
  subst ex ey
  obtain rfl : u = Value.ref a := rx
  obtain rfl : iv = Value.ref b := ry
  obtain ⟨z, hs2, xs, rel, dd⟩ := nd_of I3.hok hd
  have hz : xs.length ≤ sizeLine := by rw [← Paired.length rel]; exact z
  have hl2 : (putN kvs k b v).length ≤ sizeLine := by
    have := putN_len kvs k b v
    omega
  refine wpAny_setItem_heap (hsz := hz) (n_room hu) (spot_is I3.hok hb) dd fun h' dd' hsb => ?_
  obtain ⟨q, es, ep, hq, h2, h3, h4, _, h5⟩ := dd'
  refine ⟨σ, _, d_write I3 (by rw [hd.1]; exact True.intro) hsb ⟨q, hq⟩ (dNo_ok hl2 hs2 (np_put rel k b rv) ⟨q, es, ep, hq, h2, h3, h4, h5⟩), q3⟩
def tNNew (P : Program) (w : World) : TE := fun _ H Q => ∀ p, H p = none → Q (.ref p) (upd H p (dNo P w p []))
theorem pe_nnew {X : Cx} {pos : Pos} : PE X (.Dict [] [] pos) (tNNew X.prog X.w) := ⟨fun pins s σ H Q I h =>
  wpAny_Dict_empty ⟨.ref s.heap.objs.size, _, I.laid (a := s.heap.objs.size) (o := dNo X.prog X.w s.heap.objs.size []) (t' := s.toks) (fun _ _ q => Heap.get?_push_of_some _ q) (Nat.le_refl _)
    (dNo_ok (xs := []) (Nat.zero_le _) (beq_eq_false_iff_ne.mpr (Ne.symm (Nat.ne_of_lt I.big))) .nil ⟨_, #[], 0, Heap.get?_push_size _ rfl, ⟨rfl, rfl, rfl⟩, rfl, rfl, List.nodup_nil⟩), rfl, h _ (I.hok.fresh (Nat.le_refl _))⟩⟩
/-! ### rings -/
/-- steps onward from x to y on a ring of l places -/
def fw (l x y : Int) : Int := if x ≤ y then y - x else y - x + l
/-- the shorter way round -/
def rd (l x y : Int) : Int := if fw l y x < fw l x y then fw l y x else fw l x y
def rwordsOf (l t : Int) : List Int → List Wo
  | e :: n :: r => word (rd l t e) (rd l t n) :: rwordsOf l t (n :: r)
  | _ => []
theorem rwordsOf_len (l t : Int) : ∀ ns : List Int, (rwordsOf l t ns).length = ns.length - 1
  | [] => rfl
  | [_] => rfl
  | x :: y :: r => by
    show (rwordsOf l t (y :: r)).length + 1 = (y :: r).length + 1 - 1
    rw [rwordsOf_len l t (y :: r)]
    simp
theorem rwordsOf_get (l t : Int) : ∀ (ns : List Int) (i : Nat) (x y : Int), ns[i]? = some x → ns[i + 1]? = some y → (rwordsOf l t ns)[i]? = some (word (rd l t x) (rd l t y))
  | [], _, _, _, h, _ => by simp at h
  | [_], 0, _, _, _, h => by simp at h
  | [_], i + 1, _, _, h, _ => by simp at h
  | a :: b :: r, 0, x, y, h, h2 => by
    have e1 : a = x := Option.some.inj h
    have e2 : b = y := Option.some.inj h2
    rw [← e1, ← e2]
    rfl
  | a :: b :: r, i + 1, x, y, h, h2 => rwordsOf_get l t (b :: r) i x y h h2
/-- the places of a ring at which just these words are answered -/
def rlies (l : Int) (st : List Int) (ws : List Wo) : List Int := (rng 1 (l + 1)).filter fun t => decide (rwordsOf l t st = ws)
/-- all unlike rows on a ring, each once -/
def RRows (l : Int) (st : List Int) (D : List (List Wo)) : Prop := D.Nodup ∧ ∀ r, r ∈ D ↔ ∃ t, (1 ≤ t ∧ t ≤ l) ∧ rwordsOf l t st = r
theorem RRows.same {l : Int} {st : List Int} {D D' : List (List Wo)} (h : RRows l st D) (h' : RRows l st D') : D.length = D'.length :=
  ((List.perm_ext_iff_of_nodup h.1 h'.1).mpr fun r => (h.2 r).trans (h'.2 r).symm).length_eq
theorem fw_range {l x y : Int} (h1 : 1 ≤ x) (h2 : x ≤ l) (h3 : 1 ≤ y) (h4 : y ≤ l) : 0 ≤ fw l x y ∧ fw l x y < l := by
  unfold fw
  split <;> omega
theorem step_on {l h o : Int} (h1 : 1 ≤ h) (h2 : h ≤ l) (h3 : 1 ≤ o) (h4 : o ≤ l) (ne : ¬ h = o) : 1 ≤ 1 + (h - 1 + 1) % l ∧ 1 + (h - 1 + 1) % l ≤ l ∧ fw l (1 + (h - 1 + 1) % l) o = fw l h o - 1 := by
  have e : (h - 1 + 1) % l = if h = l then 0 else h := by
    split
    · rename_i z
      rw [show h - 1 + 1 = l by omega, Int.emod_self]
    · rw [show h - 1 + 1 = h by omega]
      exact Int.emod_eq_of_lt (by omega) (by omega)
  rw [e]
  unfold fw
  repeat' split
  all_goals omega
theorem step_back {l h o : Int} (h1 : 1 ≤ h) (h2 : h ≤ l) (h3 : 1 ≤ o) (h4 : o ≤ l) (ne : ¬ h = o) : 1 ≤ 1 + (h - 1 + -1) % l ∧ 1 + (h - 1 + -1) % l ≤ l ∧ fw l o (1 + (h - 1 + -1) % l) = fw l o h - 1 := by
  have e : (h - 1 + -1) % l = if h = 1 then l - 1 else h - 2 := by
    split
    · rename_i z
      rw [Int.emod_eq_add_self_emod, show h - 1 + -1 + l = l - 1 by omega]
      exact Int.emod_eq_of_lt (by omega) (by omega)
    · rw [show h - 1 + -1 = h - 2 by omega]
      exact Int.emod_eq_of_lt (by omega) (by omega)
  rw [e]
  unfold fw
  repeat' split
  all_goals omega
/-! ### rings turned, and seen in a mirror -/
theorem fw_mod {l x y : Int} (h1 : 1 ≤ x) (h2 : x ≤ l) (h3 : 1 ≤ y) (h4 : y ≤ l) : (y - x) % l = fw l x y := by
  unfold fw
  split
  · exact Int.emod_eq_of_lt (by omega) (by omega)
  · rw [← Int.add_emod_right]
    exact Int.emod_eq_of_lt (by omega) (by omega)
theorem rd_min {l t p : Int} (h1 : 1 ≤ t) (h2 : t ≤ l) (h3 : 1 ≤ p) (h4 : p ≤ l) : (if (p - t) % l < (t - p) % l then (p - t) % l else (t - p) % l) = rd l t p := by
  rw [fw_mod h1 h2 h3 h4, fw_mod h3 h4 h1 h2]
  unfold rd
  split <;> split <;> omega
def tn (l b x : Int) : Int := 1 + (x - 1 + b) % l
theorem tn_range {l : Int} (b x : Int) (h : 1 ≤ l) : 1 ≤ tn l b x ∧ tn l b x ≤ l := by
  unfold tn
  have h1 := Int.emod_nonneg (x - 1 + b) (show l ≠ 0 by omega)
  have h2 := Int.emod_lt_of_pos (x - 1 + b) (show 0 < l by omega)
  omega
theorem fw_tn {l b x y : Int} (h1 : 1 ≤ x) (h2 : x ≤ l) (h3 : 1 ≤ y) (h4 : y ≤ l) : fw l (tn l b x) (tn l b y) = fw l x y := by
  have hl : 1 ≤ l := by omega
  obtain ⟨a1, a2⟩ := tn_range b x hl
  obtain ⟨a3, a4⟩ := tn_range b y hl
  rw [← fw_mod a1 a2 a3 a4, ← fw_mod h1 h2 h3 h4]
  unfold tn
  rw [show 1 + (y - 1 + b) % l - (1 + (x - 1 + b) % l) = (y - 1 + b) % l - (x - 1 + b) % l by omega, ← Int.sub_emod]
  congr 1
  omega
theorem rd_tn {l b x y : Int} (h1 : 1 ≤ x) (h2 : x ≤ l) (h3 : 1 ≤ y) (h4 : y ≤ l) : rd l (tn l b x) (tn l b y) = rd l x y := by
  unfold rd
  rw [fw_tn h1 h2 h3 h4, fw_tn h3 h4 h1 h2]
theorem rwords_tn {l b t : Int} (h1 : 1 ≤ t) (h2 : t ≤ l) : ∀ {st : List Int}, Places l st → rwordsOf l (tn l b t) (st.map (tn l b)) = rwordsOf l t st
  | [], _ => rfl
  | [_], _ => rfl
  | x :: y :: r, hP => by
    have hx := hP x List.mem_cons_self
    have hy := hP y (List.mem_cons_of_mem _ List.mem_cons_self)
    show word (rd l (tn l b t) (tn l b x)) (rd l (tn l b t) (tn l b y)) :: rwordsOf l (tn l b t) ((y :: r).map (tn l b)) = _
    rw [rd_tn h1 h2 hx.1 hx.2, rd_tn h1 h2 hy.1 hy.2, rwords_tn h1 h2 fun n hn => hP n (List.mem_cons_of_mem _ hn)]
    rfl
theorem tn_back {l b x : Int} (h1 : 1 ≤ x) (h2 : x ≤ l) : tn l b (tn l (-b) x) = x := by
  unfold tn
  rw [show 1 + (x - 1 + -b) % l - 1 + b = (x - 1 + -b) % l + b by omega, Int.emod_add_emod, show x - 1 + -b + b = x - 1 by omega, Int.emod_eq_of_lt (by omega) (by omega)]
  omega
theorem tn_inj {l b x y : Int} (h1 : 1 ≤ x) (h2 : x ≤ l) (h3 : 1 ≤ y) (h4 : y ≤ l) (e : tn l b x = tn l b y) : x = y := by
  have h := fw_tn (b := b) h1 h2 h3 h4
  have h' := fw_tn (b := b) h3 h4 h1 h2
  rw [e] at h h'
  have z : fw l (tn l b y) (tn l b y) = 0 := by
    unfold fw
    split <;> omega
  rw [z] at h h'
  unfold fw at h h'
  split at h <;> split at h' <;> omega
theorem mem_rlies {l t : Int} {st : List Int} {ws : List Wo} : t ∈ rlies l st ws ↔ (1 ≤ t ∧ t ≤ l) ∧ rwordsOf l t st = ws := by
  unfold rlies
  rw [List.mem_filter, mem_rng, decide_eq_true_iff]
  constructor
  · rintro ⟨⟨h1, h2⟩, h3⟩
    exact ⟨⟨h1, by omega⟩, h3⟩
  · rintro ⟨⟨h1, h2⟩, h3⟩
    exact ⟨⟨h1, by omega⟩, h3⟩
theorem rng_up (lo hi : Int) : (rng lo hi).Pairwise (· < ·) := by
  unfold rng
  rw [List.pairwise_map]
  exact List.pairwise_lt_range.imp fun {a b : Nat} (h : a < b) => (by omega : lo + (a : Int) < lo + (b : Int))
theorem rlies_lt (l : Int) (st : List Int) (ws : List Wo) : (rlies l st ws).Pairwise (· < ·) := (rng_up 1 (l + 1)).filter _
theorem rlies_nodup (l : Int) (st : List Int) (ws : List Wo) : (rlies l st ws).Nodup := (rlies_lt l st ws).imp fun {a b} (h : a < b) => (by omega : a ≠ b)
theorem rlies_len (l : Int) (st : List Int) (ws : List Wo) : (rlies l st ws).length ≤ l.toNat := by
  unfold rlies
  refine Nat.le_trans (List.length_filter_le _ _) ?_
  rw [rng_len]
  omega
theorem nodup_map_on {f : Int → Int} : ∀ {l : List Int}, (∀ x ∈ l, ∀ y ∈ l, f x = f y → x = y) → l.Nodup → (l.map f).Nodup
  | [], _, _ => List.nodup_nil
  | a :: r, hf, h => by
    obtain ⟨h1, h2⟩ := List.nodup_cons.mp h
    rw [List.map_cons, List.nodup_cons]
    refine ⟨fun z => ?_, nodup_map_on (fun x hx y hy => hf x (List.mem_cons_of_mem _ hx) y (List.mem_cons_of_mem _ hy)) h2⟩
    obtain ⟨x, hx, e⟩ := List.mem_map.mp z
    exact h1 (hf x (List.mem_cons_of_mem _ hx) a List.mem_cons_self e ▸ hx)
theorem rlies_turned {l b : Int} {st : List Int} {ws : List Wo} (hP : Places l st) : (rlies l (st.map (tn l b)) ws).Perm ((rlies l st ws).map (tn l b)) := by
  refine (List.perm_ext_iff_of_nodup (rlies_nodup _ _ _) (nodup_map_on (fun x hx y hy => ?_) (rlies_nodup _ _ _))).mpr fun t => ?_
  · have h1 := mem_rlies.mp hx
    have h2 := mem_rlies.mp hy
    exact tn_inj h1.1.1 h1.1.2 h2.1.1 h2.1.2
  · rw [mem_rlies, List.mem_map]
    constructor
    · rintro ⟨⟨h1, h2⟩, h3⟩
      obtain ⟨r1, r2⟩ := tn_range (l := l) (-b) t (by omega)
      refine ⟨tn l (-b) t, mem_rlies.mpr ⟨⟨r1, r2⟩, ?_⟩, tn_back h1 h2⟩
      rw [← rwords_tn (b := b) r1 r2 hP, tn_back h1 h2]
      exact h3
    · rintro ⟨x, hx, rfl⟩
      obtain ⟨⟨h1, h2⟩, h3⟩ := mem_rlies.mp hx
      exact ⟨tn_range b x (by omega), by rw [rwords_tn h1 h2 hP]; exact h3⟩
/-- sorted, it is the one -/
theorem rlies_sorted {l b : Int} {st : List Int} {ws : List Wo} {ns : List Int} (hP : Places l st) (h1 : ns.Perm ((rlies l st ws).map (tn l b))) (h2 : ns.Pairwise (· ≤ ·)) : ns = rlies l (st.map (tn l b)) ws :=
  List.Perm.eq_of_pairwise (le := (· ≤ ·)) (fun _ _ _ _ => Int.le_antisymm) h2 ((rlies_lt _ _ _).imp fun {a b} (h : a < b) => (by omega : a ≤ b)) (h1.trans (rlies_turned hP).symm)
theorem rd_mirror {l x y : Int} : rd l (l + 1 - x) (l + 1 - y) = rd l x y := by
  have h1 : fw l (l + 1 - x) (l + 1 - y) = fw l y x := by
    unfold fw
    split <;> split <;> omega
  have h2 : fw l (l + 1 - y) (l + 1 - x) = fw l x y := by
    unfold fw
    split <;> split <;> omega
  unfold rd
  rw [h1, h2]
  split <;> split <;> omega
theorem rwords_mirror (l t : Int) : ∀ st : List Int, rwordsOf l (l + 1 - t) (st.map fun p => l + 1 - p) = rwordsOf l t st
  | [] => rfl
  | [_] => rfl
  | a :: b :: r => by
    show word (rd l (l + 1 - t) (l + 1 - a)) (rd l (l + 1 - t) (l + 1 - b)) :: rwordsOf l (l + 1 - t) ((b :: r).map fun p => l + 1 - p) = _
    rw [rd_mirror, rd_mirror, rwords_mirror l t (b :: r)]
    rfl
theorem rlies_mirror (l : Int) (st : List Int) (ws : List Wo) : rlies l (st.map fun p => l + 1 - p) ws = ((rlies l st ws).reverse).map fun x => l + 1 - x := by
  have e : rng 1 (l + 1) = ((rng 1 (l + 1)).reverse).map fun x => l + 1 - x := by
    rw [rng_mirror _ 1 (l + 1) (l + 1) rfl]
    congr 1 <;> omega
  unfold rlies
  rw [← List.filter_reverse]
  conv => lhs; rw [e]
  rw [List.filter_map]
  congr 1
  refine List.filter_congr fun t _ => ?_
  show decide (rwordsOf l (l + 1 - t) (st.map fun p => l + 1 - p) = ws) = decide (rwordsOf l t st = ws)
  rw [rwords_mirror]
theorem rrows_turned {l b : Int} {st : List Int} {D : List (List Wo)} (hP : Places l st) (h : RRows l st D) : RRows l (st.map (tn l b)) D := by
  refine ⟨h.1, fun r => (h.2 r).trans ⟨?_, ?_⟩⟩
  · rintro ⟨t, ⟨h1, h2⟩, h3⟩
    exact ⟨tn l b t, tn_range b t (by omega), by rw [rwords_tn h1 h2 hP]; exact h3⟩
  · rintro ⟨t, ⟨h1, h2⟩, h3⟩
    obtain ⟨r1, r2⟩ := tn_range (l := l) (-b) t (by omega)
    refine ⟨tn l (-b) t, ⟨r1, r2⟩, ?_⟩
    rw [← rwords_tn (b := b) r1 r2 hP, tn_back h1 h2]
    exact h3
theorem rwords_snoc (l t x : Int) : ∀ st : List Int, (rwordsOf l t (st ++ [x])).take (st.length - 1) = rwordsOf l t st
  | [] => rfl
  | [_] => rfl
  | a :: b :: r => by
    show (word (rd l t a) (rd l t b) :: rwordsOf l t ((b :: r) ++ [x])).take ((b :: r).length - 1 + 1) = _
    rw [List.take_succ_cons, rwords_snoc l t x (b :: r)]
    rfl
theorem nodup_le {α : Type} [DecidableEq α] : ∀ {D D' : List α}, D.Nodup → (∀ r ∈ D, r ∈ D') → D.length ≤ D'.length
  | [], _, _, _ => Nat.zero_le _
  | a :: D, D', h, hs => by
    obtain ⟨h1, h2⟩ := List.nodup_cons.mp h
    have ha := hs a List.mem_cons_self
    have := nodup_le (D := D) (D' := D'.erase a) h2 fun r hr => (List.mem_erase_of_ne (fun (e : r = a) => h1 (e ▸ hr))).mpr (hs r (List.mem_cons_of_mem _ hr))
    rw [List.length_erase_of_mem ha] at this
    have hp := List.length_pos_of_mem ha
    rw [List.length_cons]
    omega
theorem rrows_more {l x : Int} {st : List Int} {D D' : List (List Wo)} (h : RRows l st D) (h' : RRows l (st ++ [x]) D') : D.length ≤ D'.length := by
  rw [← List.length_map (as := D') (f := fun r => r.take (st.length - 1))]
  refine nodup_le h.1 fun r hr => ?_
  obtain ⟨t, ht, e⟩ := (h.2 r).mp hr
  exact List.mem_map.mpr ⟨_, (h'.2 _).mpr ⟨t, ht, rfl⟩, by rw [rwords_snoc]; exact e⟩
/-! ### the table of what is enough -/
/-- all but d stays -/
def KpD (d : Addr) (H H' : Hp) : Prop := ∀ x o, x ≠ d → H x = some o → H' x = some o
theorem KpD.refl (d : Addr) (H : Hp) : KpD d H H := fun _ _ _ h => h
theorem KpD.ex {d : Addr} {H H' : Hp} (e : Ex H H') : KpD d H H' := fun x o _ h => e x o h
theorem KpD.trans {d : Addr} {H H1 H2 : Hp} (a : KpD d H H1) (b : KpD d H1 H2) : KpD d H H2 := fun x o n h => b x o n (a x o n h)
theorem KpD.put {d : Addr} {H H' : Hp} {o : HO} (a : KpD d H H') : KpD d H (upd H' d o) := fun x u n h => by
  rw [upd_ne n]
  exact a x u n h
theorem KpD.at {P : Program} {w : World} {d x : Addr} {H H' : Hp} {kvs : NT} {o : HO} (a : KpD d H H') (hd : H d = some (dNo P w d kvs)) (h : H x = some o) (ne : o ≠ dNo P w d kvs) : H' x = some o := a x o (ne_of h hd ne) h
theorem tup_ne_dNo {P : Program} {w : World} {a : Addr} {kvs : NT} {xs : List V} : HO.tup xs ≠ dNo P w a kvs := fun z => dNo_ne_tup z.symm
theorem lst_ne_dNo {P : Program} {w : World} {a : Addr} {kvs : NT} {xs : List V} : HO.lst xs ≠ dNo P w a kvs := fun z => dNo_ne_lst z.symm
theorem KpD.pairs {P : Program} {w : World} {d : Addr} {H H' : Hp} {kvs : NT} (a : KpD d H H') (hd : H d = some (dNo P w d kvs)) : ∀ {us : List Addr} {ps : List (Int × Int)}, AtPairs H us ps → AtPairs H' us ps
  | _, _, .nil => .nil
  | _, _, .cons h t => .cons (a.at hd h tup_ne_dNo) (a.pairs hd t)
theorem KpD.spot {P : Program} {w : World} {d b : Addr} {H H' : Hp} {kvs : NT} {k : SK} (a : KpD d H H') (hd : H d = some (dNo P w d kvs)) (h : SpotAt H b k) : SpotAt H' b k := by
  obtain ⟨sb, h1, h2⟩ := h
  exact ⟨sb, a.at hd h1 tup_ne_dNo, a.at hd h2 tup_ne_dNo⟩
def InBox (k : SK) : Prop := (1 ≤ k.1 ∧ k.1 ≤ 16) ∧ (1 ≤ k.2.1 ∧ k.2.1 ≤ 16) ∧ (1 ≤ k.2.2.1 ∧ k.2.2.1 ≤ 16) ∧ 0 ≤ k.2.2.2 ∧ k.2.2.2 < 64
/-- a table whose keys stand once, and in bounds -/
structure Tab (kvs : NT) : Prop where
  nd : (kvs.map (·.1)).Nodup
  box : ∀ e ∈ kvs, InBox e.1
def codeK (k : SK) : Nat := ((k.1.toNat * 17 + k.2.1.toNat) * 17 + k.2.2.1.toNat) * 64 + k.2.2.2.toNat
theorem code_inj {a b : SK} (ha : InBox a) (hb : InBox b) (h : codeK a = codeK b) : a = b := by
  unfold InBox at ha hb
  unfold codeK at h
  exact Prod.ext (by omega) (Prod.ext (by omega) (Prod.ext (by omega) (by omega)))
theorem code_lt {a : SK} (ha : InBox a) : codeK a < 400000 := by
  unfold InBox at ha
  unfold codeK
  omega
theorem nodup_code : ∀ {l : List SK}, (∀ x ∈ l, InBox x) → l.Nodup → (l.map codeK).Nodup
  | [], _, _ => List.nodup_nil
  | a :: r, hb, h => by
    obtain ⟨h1, h2⟩ := List.nodup_cons.mp h
    rw [List.map_cons, List.nodup_cons]
    refine ⟨fun z => ?_, nodup_code (fun x hx => hb x (List.mem_cons_of_mem _ hx)) h2⟩
    obtain ⟨x, hx, e⟩ := List.mem_map.mp z
    exact h1 (code_inj (hb x (List.mem_cons_of_mem _ hx)) (hb a List.mem_cons_self) e ▸ hx)
theorem Tab.len {kvs : NT} (h : Tab kvs) : kvs.length < sizeLine := by
  have hb : ∀ x ∈ kvs.map (·.1), InBox x := fun x hx => by
    obtain ⟨e, he, rfl⟩ := List.mem_map.mp hx
    exact h.box e he
  have h1 := nodup_le (D := (kvs.map (·.1)).map codeK) (D' := List.range 400000) (nodup_code hb h.nd) fun r hr => by
    obtain ⟨x, hx, rfl⟩ := List.mem_map.mp hr
    exact List.mem_range.mpr (code_lt (hb x hx))
  rw [List.length_map, List.length_map, List.length_range] at h1
  exact Nat.lt_of_le_of_lt h1 (by decide)
theorem valN_none {kvs : NT} {k : SK} (h : valN kvs k = none) : k ∉ kvs.map (·.1) := fun z => by
  obtain ⟨e, he, hk⟩ := List.mem_map.mp z
  unfold valN at h
  rw [Option.map_eq_none_iff, List.find?_eq_none] at h
  have := h e he
  simp [hk] at this
theorem Tab.put {kvs : NT} {k : SK} {b : Addr} {v : V} (h : Tab kvs) (hk : InBox k) : Tab (putN kvs k b v) := by
  unfold putN
  split
  · constructor
    · have : (kvs.map fun e => if e.1 = k then (e.1, e.2.1, v) else e).map (·.1) = kvs.map (·.1) := by
        rw [List.map_map]
        apply List.map_congr_left
        intro e _
        show (if e.1 = k then (e.1, e.2.1, v) else e).1 = e.1
        split <;> rfl
      rw [this]
      exact h.nd
    · intro e he
      obtain ⟨x, hx, rfl⟩ := List.mem_map.mp he
      split
      · exact h.box x hx
      · exact h.box x hx
  · rename_i hn
    have hn' : valN kvs k = none := by
      cases hq : valN kvs k with
      | none => rfl
      | some x =>
        rw [hq] at hn
        exact absurd rfl hn
    constructor
    · rw [List.map_append, List.nodup_append]
      refine ⟨h.nd, by simp, fun x hx y hy e => ?_⟩
      have : y = k := List.mem_singleton.mp hy
      rw [this] at e
      exact valN_none hn' (e ▸ hx)
    · intro e he
      rcases List.mem_append.mp he with z | z
      · exact h.box e z
      · rw [List.mem_singleton.mp z]
        exact hk
/-- what is told of a spot is right -/
def Right (st : Bool) (L : Int) (k : SK) (v : V) : Prop := ∃ c : Bool, v = .bl c ∧ (c = true ↔ En st L k.2.2.2.toNat k.1 k.2.1 k.2.2.1)
def OKs (st : Bool) (L : Int) (kvs : NT) (n : Int) : Prop := ∀ k v, valN kvs k = some v → k.2.2.2 ≤ n → Right st L k v
/-- the dict, as a call may find it -/
structure Pre1 (P : Program) (w : World) (st : Bool) (L n : Int) (H : Hp) (d : Addr) (kvs : NT) : Prop where
  dict : ND P w H d kvs
  tab : Tab kvs
  ok : OKs st L kvs n
/-- and as it leaves it -/
structure Post1 (P : Program) (w : World) (st : Bool) (L n : Int) (H H' : Hp) (d : Addr) (kvs kvs' : NT) : Prop where
  kp : KpD d H H'
  pre : Pre1 P w st L n H' d kvs'
  up : ∀ k : SK, n < k.2.2.2 → valN kvs' k = valN kvs k
theorem Post1.refl {P : Program} {w : World} {st : Bool} {L n : Int} {H : Hp} {d : Addr} {kvs : NT} (h : Pre1 P w st L n H d kvs) : Post1 P w st L n H H d kvs kvs := ⟨KpD.refl d H, h, fun _ _ => rfl⟩
theorem Post1.trans {P : Program} {w : World} {st : Bool} {L n : Int} {H H1 H2 : Hp} {d : Addr} {k0 k1 k2 : NT} (a : Post1 P w st L n H H1 d k0 k1) (b : Post1 P w st L n H1 H2 d k1 k2) : Post1 P w st L n H H2 d k0 k2 :=
  ⟨a.kp.trans b.kp, b.pre, fun k hk => (b.up k hk).trans (a.up k hk)⟩
theorem Pre1.ex {P : Program} {w : World} {st : Bool} {L n : Int} {H H' : Hp} {d : Addr} {kvs : NT} (e : Ex H H') (h : Pre1 P w st L n H d kvs) : Pre1 P w st L n H' d kvs := ⟨h.dict.ex e, h.tab, h.ok⟩
theorem ND.put {P : Program} {w : World} {H : Hp} {d b : Addr} {kvs : NT} {k : SK} {v : V} (h : ND P w H d kvs) (hb : SpotAt H b k) : ND P w (upd H d (dNo P w d (putN kvs k b v))) d (putN kvs k b v) :=
  ⟨upd_same, (h.2.put hb).mutG fun xs z => dNo_ne_tup (Option.some.inj (h.1.symm.trans z))⟩
/-- to stay is a move that gains nothing -/
theorem en_any {st : Bool} {L a b p : Int} {n : Nat} (hab : a < b) : En st L n a b p ↔ ∃ q, (1 ≤ q ∧ q ≤ L) ∧ 0 < cost st p q ∧ Good st L n a b p q := by
  rw [en_good hab]
  constructor
  · rintro ⟨q, hq, ne, hg⟩
    exact ⟨q, hq, cost_pos ne, hg⟩
  · rintro ⟨q, hq, hc, hg⟩
    by_cases ne : q = p
    · have hcut : IsCut a b p q .same a b := by
        refine ⟨by omega, fun t => ⟨fun z => ⟨z.1, z.2, ?_⟩, fun z => ⟨z.1, z.2.1⟩⟩⟩
        rw [ne]
        exact mv_same.mpr (.inl rfl)
      have he := hg.2 _ _ _ hcut
      rw [ne] at he
      obtain ⟨q', hq', ne', hg'⟩ := (en_good hab).mp (he.mono (Nat.sub_le _ _))
      exact ⟨q', hq', ne', hg'⟩
    · exact ⟨q, hq, ne, hg⟩
def sp__law_enough (K : PySem.W.Frag) (P : Program) (w : World) (N : Nat) : Sp := fun vs H Q _ => ∃ (d s : Addr) (L a b p n : Int) (st : Bool) (kvs : NT), vs = [.ref d, .int L, .ref s, .int p, .int n, .bl st] ∧ 0 ≤ n ∧ n < N ∧ n < 64 ∧ L ≤ 16 ∧ H s = some (.tup [.int a, .int b]) ∧ 1 ≤ a ∧ a ≤ b ∧ b ≤ L ∧ 1 ≤ p ∧ p ≤ L ∧ Pre1 P w st L n H d kvs ∧
  ∀ H' (c : Bool) kvs', Post1 P w st L n H H' d kvs kvs' → (c = true ↔ En st L n.toNat a b p) → Q (.bl c) H'
def sp__law_all_enough (K : PySem.W.Frag) (P : Program) (w : World) (N : Nat) : Sp := fun vs H Q _ => ∃ (d C : Addr) (L q n : Int) (st : Bool) (kvs : NT) (us : List Addr) (cs : List (Int × Int)), vs = [.ref d, .int L, .ref C, .int q, .int n, .bl st] ∧ 0 ≤ n ∧ n < N ∧ n < 64 ∧ L ≤ 16 ∧ H C = some (.lst (us.map V.ref)) ∧ AtPairs H us cs ∧ cs.length ≤ 100 ∧
  (∀ z ∈ cs, 1 ≤ z.1 ∧ z.1 ≤ z.2 ∧ z.2 ≤ L) ∧ 1 ≤ q ∧ q ≤ L ∧ Pre1 P w st L n H d kvs ∧
  ∀ H' (c : Bool) kvs', Post1 P w st L n H H' d kvs kvs' → (c = true ↔ ∀ z ∈ cs, En st L n.toNat z.1 z.2 q) → Q (.bl c) H'
theorem no__law_enough {K : PySem.W.Frag} {P : Program} {w : World} {vs : List V} {H : Hp} {Q : VK} {E : XK} (h : sp__law_enough K P w 0 vs H Q E) : False := by
  obtain ⟨d, s, L, a, b, p, n, st, kvs, _, hn0, hnN, _⟩ := h
  omega
/-! ### dicts whose keys are (lo, hi, place, many) -/
namespace Fl
def nk (k : SK) : NestedKey := .tup [.num k.1, .num k.2.1, .num k.2.2.1, .num k.2.2.2]
theorem nk_inj {a b : SK} (h : nk a = nk b) : a = b := by
  unfold nk at h
  injection h with h
  injection h with h1 h
  injection h with h2 h
  injection h with h3 h
  injection h with h4 _
  injection h1 with h1
  injection h2 with h2
  injection h3 with h3
  injection h4 with h4
  exact Prod.ext h1 (Prod.ext h2 (Prod.ext h3 h4))
/-- the key k stands at b -/
def SpotAt (H : Hp) (b : Addr) (k : SK) : Prop := H b = some (.tup [.int k.1, .int k.2.1, .int k.2.2.1, .int k.2.2.2])
theorem SpotAt.ex {H H' : Hp} {b : Addr} {k : SK} (e : Ex H H') (h : SpotAt H b k) : SpotAt H' b k := e _ _ h
theorem SpotAt.mutG {H : Hp} {b U : Addr} {k : SK} {o : HO} (hU : ∀ xs, H U ≠ some (.tup xs)) (h : SpotAt H b k) : SpotAt (upd H U o) b k := by
  unfold SpotAt at h ⊢
  rw [upd_ne (fun z => hU _ (z ▸ h))]
  exact h
def NP (p : SK × Addr × V) (q : NestedKey × Addr × Value) : Prop := nk p.1 = q.1 ∧ p.2.1 = q.2.1 ∧ RelV p.2.2 q.2.2
def dNo (P : Program) (w : World) (a : Addr) (kvs : NT) : HO := .ext fun h => kvs.length ≤ sizeLine ∧ (a == sysModules) = false ∧ ∃ xs : List (NestedKey × Addr × Value), Paired NP kvs xs ∧
  ∃ o es ep, h.get? a = some o ∧ o.ExactDict ∧ o.data = .dict es ep ∧ es.toList = xs.map (entryOfKey (nestedKind P w)) ∧ (xs.map (·.1)).Nodup
def NAt (H : Hp) (kvs : NT) : Prop := ∀ e ∈ kvs, SpotAt H e.2.1 e.1
def ND (P : Program) (w : World) (H : Hp) (a : Addr) (kvs : NT) : Prop := H a = some (dNo P w a kvs) ∧ NAt H kvs
theorem dNo_ne_tup {P : Program} {w : World} {a : Addr} {kvs : NT} {xs : List V} : dNo P w a kvs ≠ .tup xs := fun z => by
  unfold dNo at z
  cases z
theorem dNo_ne_lst {P : Program} {w : World} {a : Addr} {kvs : NT} {xs : List V} : dNo P w a kvs ≠ .lst xs := fun z => by
  unfold dNo at z
  cases z
theorem NAt.put {H : Hp} {kvs : NT} {k : SK} {b : Addr} {v : V} (h : NAt H kvs) (hb : SpotAt H b k) : NAt H (putN kvs k b v) := fun e he => by
  unfold putN at he
  split at he
  · obtain ⟨x, hx, rfl⟩ := List.mem_map.mp he
    split
    · exact h x hx
    · exact h x hx
  · rcases List.mem_append.mp he with z | z
    · exact h e z
    · rw [List.mem_singleton.mp z]
      exact hb
theorem NAt.ex {H H' : Hp} {kvs : NT} (e : Ex H H') (h : NAt H kvs) : NAt H' kvs := fun x hx => (h x hx).ex e
theorem NAt.mutG {H : Hp} {U : Addr} {kvs : NT} {o : HO} (hU : ∀ xs, H U ≠ some (.tup xs)) (h : NAt H kvs) : NAt (upd H U o) kvs := fun x hx => (h x hx).mutG hU
theorem ND.ex {P : Program} {w : World} {H H' : Hp} {a : Addr} {kvs : NT} (e : Ex H H') (h : ND P w H a kvs) : ND P w H' a kvs := ⟨e _ _ h.1, h.2.ex e⟩
/-! the pairs, side by side -/
theorem np_val {kvs : NT} {xs : List (NestedKey × Addr × Value)} (r : Paired NP kvs xs) (k : SK) : RelO (valN kvs k) ((atKey xs (nk k)).map (·.2)) := by
  induction r with
  | nil => exact True.intro
  | @cons p q ps qs h t ih =>
    obtain ⟨h1, _, h2⟩ := h
    by_cases e : p.1 = k
    · have e' : q.1 = nk k := by rw [← h1, e]
      have b : atKey (q :: qs) (nk k) = some q.2 := by simp [atKey, List.find?_cons, e']
      rw [valN_pos e, b]
      exact h2
    · have e' : ¬ q.1 = nk k := fun z => e (nk_inj (h1.trans z))
      have b : atKey (q :: qs) (nk k) = atKey qs (nk k) := by simp [atKey, List.find?_cons, e']
      rw [valN_neg e, b]
      exact ih
theorem np_repl {kvs : NT} {xs : List (NestedKey × Addr × Value)} (r : Paired NP kvs xs) (k : SK) {y : V} {u : Value} (ry : RelV y u) :
    Paired NP (kvs.map fun e => if e.1 = k then (e.1, e.2.1, y) else e) (xs.map (putAt (nk k) u)) := by
  induction r with
  | nil => exact .nil
  | @cons p q ps qs h t ih =>
    rw [List.map_cons, List.map_cons]
    refine .cons ?_ ih
    obtain ⟨h1, h2, h3⟩ := h
    unfold putAt
    by_cases e : p.1 = k
    · rw [if_pos e, if_pos (by rw [← h1, e])]
      exact ⟨h1, h2, ry⟩
    · rw [if_neg e, if_neg (fun z => e (nk_inj (h1.trans z)))]
      exact ⟨h1, h2, h3⟩
theorem np_put {kvs : NT} {xs : List (NestedKey × Addr × Value)} (r : Paired NP kvs xs) (k : SK) (b : Addr) {y : V} {u : Value} (ry : RelV y u) : Paired NP (putN kvs k b y) (storedH xs (nk k) b u) := by
  have e : (valN kvs k).isSome = (atKey xs (nk k)).isSome := by
    rw [(np_val r k).isSome_eq, Option.isSome_map]
  unfold putN storedH
  rw [e]
  by_cases q : (atKey xs (nk k)).isSome = true
  · rw [if_pos q, if_pos q]
    exact np_repl r k ry
  · rw [if_neg q, if_neg q]
    exact Paired.snoc r ⟨rfl, rfl, ry⟩
section
variable {X : Cx} {pins : List (Addr × Obj)} {σ : L2.St} {H : Hp} {s : Shared}
theorem spot_is {P : Program} {w : World} {H : Hp} {h : Heap} (ok : HOk P w H h) {b : Addr} {k : SK} (e : SpotAt H b k) : (nestedKind P w).is h (nk k) b := by
  obtain ⟨its, o, n, r, g1, g2, g3⟩ := tup_at ok e
  refine ⟨?_, by simp [nk, NestedKey.depth, NestedKey.depthAll]⟩
  cases r with
  | cons r1 r =>
    cases r with
    | cons r2 r =>
      cases r with
      | cons r3 r =>
        cases r with
        | cons r4 r =>
          cases r
          obtain ⟨t1, rfl⟩ := (show ∃ t, _ = Value.int _ t from r1)
          obtain ⟨t2, rfl⟩ := (show ∃ t, _ = Value.int _ t from r2)
          obtain ⟨t3, rfl⟩ := (show ∃ t, _ = Value.int _ t from r3)
          obtain ⟨t4, rfl⟩ := (show ∃ t, _ = Value.int _ t from r4)
          exact .tup g1 g2 g3 (.cons (.int _ _) (.cons (.int _ _) (.cons (.int _ _) (.cons (.int _ _) .nil))))
theorem nd_of {P : Program} {w : World} {H : Hp} {h : Heap} (ok : HOk P w H h) {a : Addr} {kvs : NT} (e : ND P w H a kvs) : kvs.length ≤ sizeLine ∧ (a == sysModules) = false ∧ ∃ xs, Paired NP kvs xs ∧ h.DictOfH (nestedKind P w) a xs := by
  obtain ⟨e1, e2⟩ := e
  have x : ObjOk P w H h a (dNo P w a kvs) := ok a _ e1
  obtain ⟨⟨z, y, xs, r, o, es, ep, h1, h2, h3, h4, h5⟩, _, _⟩ := x
  refine ⟨z, y, xs, r, o, es, ep, h1, h2, h3, h4, ?_, h5⟩
  have all : ∀ {l : NT} {m : List (NestedKey × Addr × Value)}, Paired NP l m → NAt H l → ∀ x ∈ m, (nestedKind P w).is h x.1 x.2.1 := by
    intro l m q
    induction q with
    | nil => intro _ x hx; exact nomatch hx
    | @cons p q ps qs hq t ih =>
      intro hn x hx
      rcases List.mem_cons.mp hx with e | hx
      · subst e
        have := spot_is ok (hn p List.mem_cons_self)
        rw [hq.1, hq.2.1] at this
        exact this
      · exact ih (fun e he => hn e (List.mem_cons_of_mem _ he)) x hx
  exact all r e2
theorem n_room {A : Around} (hu : A.units + 65 < cLine) : (nestedKind X.prog X.w).room A.in1 := by
  show A.units + 1 + 8 < cLine
  omega
theorem dNo_ok {P : Program} {w : World} {H : Hp} {h : Heap} {a : Addr} {kvs : NT} (z : kvs.length ≤ sizeLine) (y : (a == sysModules) = false) {xs : List (NestedKey × Addr × Value)} (r : Paired NP kvs xs)
    (d : ∃ o es ep, h.get? a = some o ∧ o.ExactDict ∧ o.data = .dict es ep ∧ es.toList = xs.map (entryOfKey (nestedKind P w)) ∧ (xs.map (·.1)).Nodup) : ObjOk P w H h a (dNo P w a kvs) := by
  refine ⟨⟨z, y, xs, r, d⟩, ?_, ?_⟩
  · obtain ⟨o, _, _, h1, _⟩ := d
    exact ⟨o, h1⟩
  · rintro h1 h2 ⟨z', y', xs', r', o, es, ep, g1, g2⟩ hk
    exact ⟨z', y', xs', r', o, es, ep, hk o g1, g2⟩
end
/-! the rules -/
def rNotInN (P : Program) (w : World) : R2 := fun x y H Q => ∃ a kvs b k, x = .ref b ∧ y = .ref a ∧ ND P w H a kvs ∧ SpotAt H b k ∧ Q (.bl (!(valN kvs k).isSome)) H
theorem op_notInN {X : Cx} (hu : X.A.units + 65 < cLine) : OpR X (compareOp .NotIn) (rNotInN X.prog X.w) := by
  intro pins s σ H x y v u Q I rx ry h
  obtain ⟨a, kvs, b, k, rfl, rfl, hd, hb, q⟩ := h
  cases (show v = Value.ref b from rx)
  cases (show u = Value.ref a from ry)
  obtain ⟨z, hs, xs, rel, dd⟩ := nd_of I.hok hd
  refine wpAny_notIn_heap (n_room hu) (spot_is I.hok hb) hs dd ?_
  have e := (np_val rel k).isSome_eq
  rw [Option.isSome_map] at e
  rw [← e]
  exact ⟨.bl _, H, I.tok _, rfl, q⟩
def tNGet (P : Program) (w : World) (td ty : TE) : TE := fun σ H Q => td σ H fun x H1 => ty σ H1 fun y H2 => ∃ a kvs b k v, x = .ref a ∧ y = .ref b ∧ ND P w H2 a kvs ∧ SpotAt H2 b k ∧ valN kvs k = some v ∧ Q v H2
theorem pe_nget {X : Cx} {o i : Expr} {pos : Pos} {td ty : TE} (hu : X.A.units + 65 < cLine) (ho : PE X o td) (hi : PE X i ty) (hs : NoSl i) : PE X (.Subscript o i pos) (tNGet X.prog X.w td ty) := by
  refine ⟨fun pins s σ H Q I h => ?_⟩
  refine subD_of PySem.F.slot_dict_getitem.lookup hs (thn (ho.run pins s σ H _ I h) fun u s1 ⟨x, H1, I1, rx, q1⟩ => thn (hi.run pins s1 σ H1 _ I1 q1) fun iv s2 ⟨y, H2, I2, ry, a, kvs, b, k, v, ex, ey, hd, hb, hv, q2⟩ => ?_)
  subst ex ey
  obtain rfl : u = Value.ref a := rx
  obtain rfl : iv = Value.ref b := ry
  obtain ⟨z, hs2, xs, rel, dd⟩ := nd_of I2.hok hd
  refine ⟨dd.typeIs, ?_⟩
  obtain ⟨w', hw, rw'⟩ := RelO.some_of (v := v) (o := (atKey xs (nk k)).map (·.2)) (by rw [← hv]; exact np_val rel k)
  obtain ⟨p, hp, hp2⟩ := Option.map_eq_some_iff.mp hw
  refine wpAny_getItem_heap (n_room hu) (spot_is I2.hok hb) dd hp ?_
  rw [hp2]
  exact ⟨v, H2, I2.tok _, rw', q2⟩
def sNPut (P : Program) (w : World) (td ty tv : TE) : TS := fun D σ H => tv σ H fun v H1 => td σ H1 fun x H2 => ty σ H2 fun y H3 => ∃ a kvs b k, x = .ref a ∧ y = .ref b ∧ ND P w H3 a kvs ∧ SpotAt H3 b k ∧ kvs.length < sizeLine ∧ D.nx σ (upd H3 a (dNo P w a (putN kvs k b v)))
theorem ps_nput {X : Cx} {o i value : Expr} {pos pos' : Pos} {td ty tv : TE} (hu : X.A.units + 65 < cLine) (ho : PE X o td) (hi : PE X i ty) (hv : PE X value tv) (hs : swapsWith value (some (.Subscript o i pos')) pos.line X.env = pure false) :
    PS X (.Assign [.Subscript o i pos'] value pos) (sNPut X.prog X.w td ty tv) := by
  refine ⟨fun pins s σ H D I h => ?_⟩
  refine wpAny_Assign_Subscript (thn (hv.run pins s σ H _ I h) fun r s1 ⟨v, H1, I1, rv, q1⟩ => thn (ho.run pins s1 σ H1 _ I1 q1) fun u s2 ⟨x, H2, I2, rx, q2⟩ => thn (hi.run pins s2 σ H2 _ I2 q2) fun iv s3 ⟨y, H3, I3, ry, a, kvs, b, k, ex, ey, hd, hb, hl, q3⟩ => ?_) hs
  subst ex ey
  obtain rfl : u = Value.ref a := rx
  obtain rfl : iv = Value.ref b := ry
  obtain ⟨z, hs2, xs, rel, dd⟩ := nd_of I3.hok hd
  have hz : xs.length ≤ sizeLine := by rw [← Paired.length rel]; exact z
  have hl2 : (putN kvs k b v).length ≤ sizeLine := by
    have := putN_len kvs k b v
    omega
  refine wpAny_setItem_heap (hsz := hz) (n_room hu) (spot_is I3.hok hb) dd fun h' dd' hsb => ?_
  obtain ⟨q, es, ep, hq, h2, h3, h4, _, h5⟩ := dd'
  refine ⟨σ, _, d_write I3 (by rw [hd.1]; exact True.intro) hsb ⟨q, hq⟩ (dNo_ok hl2 hs2 (np_put rel k b rv) ⟨q, es, ep, hq, h2, h3, h4, h5⟩), q3⟩
def tNNew (P : Program) (w : World) : TE := fun _ H Q => ∀ p, H p = none → Q (.ref p) (upd H p (dNo P w p []))
theorem pe_nnew {X : Cx} {pos : Pos} : PE X (.Dict [] [] pos) (tNNew X.prog X.w) := ⟨fun pins s σ H Q I h =>
  wpAny_Dict_empty ⟨.ref s.heap.objs.size, _, I.laid (a := s.heap.objs.size) (o := dNo X.prog X.w s.heap.objs.size []) (t' := s.toks) (fun _ _ q => Heap.get?_push_of_some _ q) (Nat.le_refl _)
    (dNo_ok (xs := []) (Nat.zero_le _) (beq_eq_false_iff_ne.mpr (Ne.symm (Nat.ne_of_lt I.big))) .nil ⟨_, #[], 0, Heap.get?_push_size _ rfl, ⟨rfl, rfl, rfl⟩, rfl, rfl, List.nodup_nil⟩), rfl, h _ (I.hok.fresh (Nat.le_refl _))⟩⟩
end Fl
/-! ### the program's own table of what is enough -/
theorem Fl.tup_ne {P : Program} {w : World} {a : Addr} {kvs : NT} {xs : List V} : HO.tup xs ≠ Fl.dNo P w a kvs := fun z => Fl.dNo_ne_tup z.symm
theorem Fl.lst_ne {P : Program} {w : World} {a : Addr} {kvs : NT} {xs : List V} : HO.lst xs ≠ Fl.dNo P w a kvs := fun z => Fl.dNo_ne_lst z.symm
theorem KpD.atF {P : Program} {w : World} {d x : Addr} {H H' : Hp} {kvs : NT} {o : HO} (a : KpD d H H') (hd : H d = some (Fl.dNo P w d kvs)) (h : H x = some o) (ne : o ≠ Fl.dNo P w d kvs) : H' x = some o := a x o (ne_of h hd ne) h
theorem KpD.pairsF {P : Program} {w : World} {d : Addr} {H H' : Hp} {kvs : NT} (a : KpD d H H') (hd : H d = some (Fl.dNo P w d kvs)) : ∀ {us : List Addr} {ps : List (Int × Int)}, AtPairs H us ps → AtPairs H' us ps
  | _, _, .nil => .nil
  | _, _, .cons h t => .cons (a.atF hd h Fl.tup_ne) (a.pairsF hd t)
theorem Fl.ND.put {P : Program} {w : World} {H : Hp} {d b : Addr} {kvs : NT} {k : SK} {v : V} (h : Fl.ND P w H d kvs) (hb : Fl.SpotAt H b k) : Fl.ND P w (upd H d (Fl.dNo P w d (putN kvs k b v))) d (putN kvs k b v) :=
  ⟨upd_same, (h.2.put hb).mutG fun xs z => Fl.dNo_ne_tup (Option.some.inj (h.1.symm.trans z))⟩
structure FPre (P : Program) (w : World) (L : Int) (H : Hp) (d : Addr) (kvs : NT) : Prop where
  dict : Fl.ND P w H d kvs
  tab : Tab kvs
  ok : ∀ k v, valN kvs k = some v → Right false L k v
structure FPost (P : Program) (w : World) (L : Int) (H H' : Hp) (d : Addr) (kvs' : NT) : Prop where
  kp : KpD d H H'
  pre : FPre P w L H' d kvs'
theorem FPre.ex {P : Program} {w : World} {L : Int} {H H' : Hp} {d : Addr} {kvs : NT} (e : Ex H H') (h : FPre P w L H d kvs) : FPre P w L H' d kvs := ⟨h.dict.ex e, h.tab, h.ok⟩
theorem FPost.refl {P : Program} {w : World} {L : Int} {H : Hp} {d : Addr} {kvs : NT} (h : FPre P w L H d kvs) : FPost P w L H H d kvs := ⟨KpD.refl d H, h⟩
theorem FPost.ex {P : Program} {w : World} {L : Int} {H H' : Hp} {d : Addr} {kvs : NT} (e : Ex H H') (h : FPre P w L H d kvs) : FPost P w L H H' d kvs := ⟨KpD.ex e, h.ex e⟩
theorem FPost.trans {P : Program} {w : World} {L : Int} {H H1 H2 : Hp} {d : Addr} {k1 k2 : NT} (a : FPost P w L H H1 d k1) (b : FPost P w L H1 H2 d k2) : FPost P w L H H2 d k2 := ⟨a.kp.trans b.kp, b.pre⟩
/-- the first other place by which so many are enough -/
def FirstOn (L m a b p : Int) (v : V) : Prop := (v = .non ∧ ∀ q, 1 ≤ q → q ≤ L → q ≠ p → ¬ Good false L m.toNat a b p q) ∨
  ∃ q, v = .int q ∧ (1 ≤ q ∧ q ≤ L) ∧ q ≠ p ∧ Good false L m.toNat a b p q ∧ ∀ r, 1 ≤ r → r < q → r ≠ p → ¬ Good false L m.toNat a b p r
def sp_stands_are_enough (K : PySem.W.Frag) (P : Program) (w : World) (N : Nat) : Sp := fun vs H Q _ => ∃ (d s : Addr) (L a b p m : Int) (kvs : NT), vs = [.int L, .ref s, .int p, .int m, .ref d] ∧ 0 ≤ m ∧ m < N ∧ m < 64 ∧ L ≤ 16 ∧ H s = some (.tup [.int a, .int b]) ∧ 1 ≤ a ∧ a ≤ b ∧ b ≤ L ∧ 1 ≤ p ∧ p ≤ L ∧ FPre P w L H d kvs ∧
  ∀ H' (c : Bool) kvs', FPost P w L H H' d kvs' → (c = true ↔ En false L m.toNat a b p) → Q (.bl c) H'
def sp_first_onward (K : PySem.W.Frag) (P : Program) (w : World) (N : Nat) : Sp := fun vs H Q _ => ∃ (d s : Addr) (L a b p m : Int) (kvs : NT), vs = [.int L, .ref s, .int p, .int m, .ref d] ∧ 1 ≤ m ∧ m ≤ N ∧ m < 64 ∧ L ≤ 16 ∧ H s = some (.tup [.int a, .int b]) ∧ 1 ≤ a ∧ a ≤ b ∧ b ≤ L ∧ 1 ≤ p ∧ p ≤ L ∧ FPre P w L H d kvs ∧
  ∀ H' v kvs', FPost P w L H H' d kvs' → FirstOn L m a b p v → Q v H'
theorem FPre.new {P : Program} {w : World} {L : Int} {H : Hp} {d : Addr} : FPre P w L (upd H d (Fl.dNo P w d [])) d [] :=
  ⟨⟨upd_same, fun e he => (nomatch he)⟩, ⟨List.nodup_nil, fun e he => (nomatch he)⟩, fun k v hv => (by cases hv)⟩
theorem KpD.new {d : Addr} {H H' : Hp} {o : HO} (nd : H d = none) (k : KpD d (upd H d o) H') : Ex H H' := fun x u hx => by
  have ne : x ≠ d := ne_of_none hx nd
  exact k x u ne (by rw [upd_ne ne]; exact hx)
theorem AtPairs.zips {H : Hp} : ∀ {us : List Addr} {ps : List (Int × Int)}, AtPairs H us ps → ∃ zs : List (Addr × Int × Int), zs.map (·.1) = us ∧ zs.map (·.2) = ps ∧ ∀ z ∈ zs, H z.1 = some (.tup [.int z.2.1, .int z.2.2])
  | _, _, .nil => ⟨[], rfl, rfl, fun z hz => (nomatch hz)⟩
  | _, _, .cons (u := u) (p := p) h t => by
    obtain ⟨zs, rfl, rfl, h3⟩ := t.zips
    refine ⟨(u, p) :: zs, rfl, rfl, fun z hz => ?_⟩
    rcases List.mem_cons.mp hz with e | e
    · rw [e]
      exact h
    · exact h3 z e
theorem no_stands_are_enough {K : PySem.W.Frag} {P : Program} {w : World} {vs : List V} {H : Hp} {Q : VK} {E : XK} (h : sp_stands_are_enough K P w 0 vs H Q E) : False := by
  obtain ⟨d, s, L, a, b, p, m, kvs, _, hm0, hmN, _⟩ := h
  omega
abbrev N_stands_are_enough : List Str := ["length", "stretch", "place", "many", "known", "low", "high", "state"]
def t_stands_are_enough (K : PySem.W.Frag) (P : Program) (w : World) (N : Nat) : TS := (tSeq (tAsg (tVar 1) (gTup K 2 (gCons (gName 5) (gCons (gName 6) gNil))))
  (tSeq (tIfS (tTest (tOp rEq (tVar 5) (tVar 6))) (tRet (tC (.bl true))) tNext)
  (tSeq (tIfS (tTest (tOp (rI0 fun i j => .bl (decide (j ≤ i))) (tOp (rI0 fun i j => .int (i + j)) (tOp (rI0 fun i j => .int (i - j)) (tVar 6) (tVar 5)) (tC (.int 1))) (tOp (rI CPow fun i j => .int (i * 2 ^ j.toNat)) (tC (.int 2)) (tVar 3)))) (tRet (tC (.bl false))) tNext)
  (tSeq (tAsg (tTup (tCons (tVar 5) (tCons (tVar 6) (tCons (tVar 2) (tCons (tVar 3) tNil))))) (gName 7))
  (Evl.tCut (tIfS (tTest (tOp (Fl.rNotInN P w) (tVar 7) (tVar 4))) (Fl.sNPut P w (tVar 4) (tVar 7) (tOp (fun x y H Q => y = .non ∧ Q (.bl (!decide (x = .non))) H) (tCall (sp_first_onward K P w N) [] E0 (tCons (tVar 0) (tCons (tVar 1) (tCons (tVar 2) (tCons (tVar 3) (tCons (tVar 4) tNil)))))) (tC .non))) tNext)
  (tRet (Fl.tNGet P w (tVar 4) (tVar 7))))))))
theorem pure_stands_are_enough {K : PySem.W.Frag} {P : Program} {w : World} {N : Nat} {vs : List V} {H : Hp} {Q : VK} {E : XK} (h : sp_stands_are_enough K P w (N + 1) vs H Q E) : t_stands_are_enough K P w N { nx := fun _ H' => Q .non H', rt := Q } (start N_stands_are_enough vs) H := by
  obtain ⟨d, s, L, a, b, p, m, kvs, rfl, hm0, hmN, hm64, hL, hs, h1, h2, h3, h4, h5, hpre, q⟩ := h
  refine ⟨_, rfl, s, _, rfl, SqT.of hs, rfl, _, _, rfl, _, [], rfl, rfl, ?_⟩
  refine ⟨_, rfl, _, rfl, rfl, _, rfl, ite2 (fun e => ?_) (fun e => ?_)⟩
  · have e := V.int.inj (of_decide_eq_true e)
    subst e
    exact q H true kvs (FPost.refl hpre) ⟨fun _ => .one, fun _ => rfl⟩
  · have n0 : ¬ a = b := fun z => e (decide_eq_true (congrArg V.int z))
    refine ⟨_, rfl, _, rfl, b, a, rfl, rfl, b - a, 1, rfl, rfl, _, rfl, 2, m, rfl, rfl, ⟨hm0, by omega, by decide⟩, _, _, rfl, rfl, _, rfl, ite2 (fun e => ?_) (fun e => ?_)⟩
    · have e := of_decide_eq_true e
      refine q H false kvs (FPost.refl hpre) ⟨fun z => (by cases z), fun z => ?_⟩
      have := en_wide z
      rw [Int.pow_succ, Int.mul_comm] at this
      omega
    · have e : ¬ (2 * 2 ^ m.toNat ≤ b - a + 1) := fun z => e (decide_eq_true z)
      have hm1 : 1 ≤ m := by
        by_cases z : m = 0
        · rw [z] at e
          exfalso
          apply e
          show (2 : Int) * 2 ^ 0 ≤ b - a + 1
          omega
        · omega
      refine ⟨_, rfl, _, rfl, _, rfl, _, rfl, by show 4 ≤ sizeLine; decide, fun t nt => ?_⟩
      have e1 : Ex H (upd H t (.tup [.int a, .int b, .int p, .int m])) := Ex.new nt
      have ht1 : Fl.SpotAt (upd H t (.tup [.int a, .int b, .int p, .int m])) t (a, b, p, m) := upd_same
      have hpre1 := hpre.ex e1
      have hs1 := e1 _ _ hs
      have kp1 : KpD d H (upd H t (.tup [.int a, .int b, .int p, .int m])) := KpD.ex e1
      generalize upd H t (.tup [.int a, .int b, .int p, .int m]) = H1 at ht1 hpre1 hs1 kp1 ⊢
      have hbox : InBox (a, b, p, m) := ⟨⟨h1, by show a ≤ 16; omega⟩, ⟨by show 1 ≤ b; omega, by show b ≤ 16; omega⟩, ⟨h4, by show p ≤ 16; omega⟩, hm0, hm64⟩
      have hd1 := hpre1.dict.1
      have hab : a < b := by omega
      refine ⟨fun σ H' => ∃ (kvs' : NT) (c : Bool), σ = [some (.int L), some (.ref s), some (.int p), some (.int m), some (.ref d), some (.int a), some (.int b), some (.ref t)] ∧ FPost P w L H1 H' d kvs' ∧ valN kvs' (a, b, p, m) = some (.bl c) ∧ (c = true ↔ En false L m.toNat a b p), ?_, ?_⟩
      · refine ⟨_, rfl, _, rfl, d, kvs, t, (a, b, p, m), rfl, rfl, hpre1.dict, ht1, _, rfl, ite2 (fun hin => ?_) (fun hin => ?_)⟩
        · refine ⟨_, rfl, _, rfl, _, rfl, _, rfl, _, rfl, d, s, L, a, b, p, m, kvs, rfl, hm1, by omega, hm64, hL, hs1, h1, h2, h3, h4, h5, hpre1, fun H2 v kvs2 hp2 hv => ?_⟩
          have ht2 : Fl.SpotAt H2 t (a, b, p, m) := hp2.kp.atF hd1 ht1 Fl.tup_ne
          have hc : (!decide (v = V.non)) = true ↔ En false L m.toNat a b p := by
            rw [en_good hab]
            rcases hv with ⟨rfl, hno⟩ | ⟨q', rfl, hq', ne', hg, _⟩
            · constructor
              · intro z
                exact absurd z (by decide)
              · rintro ⟨q', ⟨z1, z2⟩, ne', hg⟩
                exact absurd hg (hno q' z1 z2 ne')
            · exact ⟨fun _ => ⟨q', hq', ne', hg⟩, fun _ => rfl⟩
          refine ⟨rfl, _, rfl, _, rfl, d, kvs2, t, (a, b, p, m), rfl, rfl, hp2.pre.dict, ht2, hp2.pre.tab.len, putN kvs2 (a, b, p, m) t (.bl (!decide (v = V.non))), !decide (v = V.non), rfl, ⟨hp2.kp.put, hp2.pre.dict.put ht2, hp2.pre.tab.put hbox, fun k v2 hv2 => ?_⟩, by rw [valN_put, if_pos rfl], hc⟩
          rw [valN_put] at hv2
          by_cases hk : k = (a, b, p, m)
          · rw [if_pos hk] at hv2
            cases hv2
            rw [hk]
            exact ⟨_, rfl, hc⟩
          · rw [if_neg hk] at hv2
            exact hp2.pre.ok k v2 hv2
        · obtain ⟨v, hv⟩ : ∃ v, valN kvs (a, b, p, m) = some v := by
            cases hv : valN kvs (a, b, p, m) with
            | none =>
              rw [hv] at hin
              exact absurd rfl hin
            | some x => exact ⟨x, rfl⟩
          obtain ⟨c, rfl, hc⟩ := hpre1.ok _ v hv
          exact ⟨kvs, c, rfl, FPost.refl hpre1, hv, hc⟩
      · rintro σ H3 ⟨kvs3, c, rfl, hp3, hval, hiff⟩
        have ht3 : Fl.SpotAt H3 t (a, b, p, m) := hp3.kp.atF hd1 ht1 Fl.tup_ne
        refine ⟨_, rfl, _, rfl, d, kvs3, t, (a, b, p, m), .bl c, rfl, rfl, hp3.pre.dict, ht3, hval, ?_⟩
        exact q H3 c kvs3 ⟨kp1.trans hp3.kp, hp3.pre⟩ hiff
theorem len_stands_are_enough {K : PySem.W.Frag} {P : Program} {w : World} {N : Nat} {vs : List V} {H : Hp} {Q : VK} {E : XK} (h : sp_stands_are_enough K P w N vs H Q E) : vs.length = 5 := by
  obtain ⟨d, s, L, a, b, p, m, kvs, rfl, _⟩ := h
  rfl
abbrev N_first_onward : List Str := ["length", "stretch", "place", "many", "known", "onward", "parts", "part"]
def t_first_onward (K : PySem.W.Frag) (P : Program) (w : World) (N : Nat) : TS := (tSeq (tFor (iList K (tCall (sp_other_places K) [] E0 (tCons (tVar 0) (tCons (tVar 2) tNil)))) (gName 5) (tSeq (tAsg (tCall (sp_parts_of K) [] E0 (tCons (tVar 1) (tCons (tVar 2) (tCons (tVar 5) tNil)))) (gName 6))
  (tIfS (tB (tCB (rAll K) (tCons (tLc (iList K (tVar 6)) (gName 7) tYes (tCall (sp_stands_are_enough K P w N) [] E0 (tCons (tVar 0) (tCons (tVar 7) (tCons (tVar 5) (tCons (tOp (rI0 fun i j => .int (i - j)) (tVar 3) (tC (.int 1))) (tCons (tVar 4) tNil)))))) [7]) tNil))) (tRet (tVar 5)) tNext)))
  (tRet (tC .non)))
theorem pure_first_onward {K : PySem.W.Frag} {P : Program} {w : World} {N : Nat} {vs : List V} {H : Hp} {Q : VK} {E : XK} (h : sp_first_onward K P w N vs H Q E) : t_first_onward K P w N { nx := fun _ H' => Q .non H', rt := Q } (start N_first_onward vs) H := by
  obtain ⟨d, s, L, a, b, p, m, kvs, rfl, hm1, hmN, hm64, hL, hs, h1, h2, h3, h4, h5, hpre, q⟩ := h
  refine ⟨_, rfl, _, rfl, L, p, rfl, by omega, by omega, fun O H1 nO e1 hO => ?_⟩
  refine ⟨O, rfl, ⟨_, SqL.of hO⟩, ?_⟩
  have hpre1 := hpre.ex e1
  have hs1 := e1 _ _ hs
  have hd1 := hpre1.dict.1
  have kp1 : KpD d H H1 := KpD.ex e1
  refine for_list (K := K) (a := O) (xs := (others L p).map V.int) (fun i σ H' => ∃ (x5 x6 x7 : Option V) (kvs' : NT), σ = [some (.int L), some (.ref s), some (.int p), some (.int m), some (.ref d), x5, x6, x7] ∧ FPost P w L H1 H' d kvs' ∧ ∀ r ∈ (others L p).take i, ¬ Good false L m.toNat a b p r)
    ⟨none, none, none, kvs, rfl, FPost.refl hpre1, fun r hr => (nomatch hr)⟩ (fun i σ H' _ ⟨_, _, _, _, _, hp, _⟩ => SqL.of (hp.kp.atF hd1 hO Fl.lst_ne)) ?_ ?_
  · rintro i x σ H2 hx ⟨x5, x6, x7, kvs2, rfl, hp2, hno⟩
    obtain ⟨q', hq', rfl⟩ : ∃ q', (others L p)[i]? = some q' ∧ x = .int q' := by
      rw [List.getElem?_map] at hx
      cases hg : (others L p)[i]? with
      | none => rw [hg] at hx; cases hx
      | some u =>
        rw [hg] at hx
        exact ⟨u, rfl, (Option.some.inj hx).symm⟩
    obtain ⟨⟨hq1, hqL⟩, hne⟩ := mem_others.mp (List.mem_of_getElem? hq')
    have hs2 := hp2.kp.atF hd1 hs1 Fl.tup_ne
    have hd2 := hp2.pre.dict.1
    refine ⟨_, rfl, _, rfl, _, rfl, s, a, b, p, q', rfl, hs2, fun C H3 us nC e3 hC hps => ?_⟩
    have hp3 : FPre P w L H3 d kvs2 := hp2.pre.ex e3
    have hd3 := hp3.dict.1
    have hpl := parts_len a b p q'
    have hul := hps.len
    refine ⟨_, rfl, C, rfl, ⟨_, SqL.of hC⟩, fun D nD => ?_⟩
    have e4 : Ex H3 (upd H3 D (.lst [])) := Ex.new nD
    have nDd : D ≠ d := ne_of_none hd3 nD |>.symm
    have hin : ∀ z ∈ partsOf a b p q', 1 ≤ z.1 ∧ z.1 ≤ z.2 ∧ z.2 ≤ L := fun z hz => by
      obtain ⟨c, e⟩ := z
      obtain ⟨w', hw'⟩ := (parts_cut hne).mp hz
      have := hw'.sub
      have := hw'.1
      exact ⟨by show 1 ≤ c; omega, this, by show e ≤ L; omega⟩
    refine lc_list (K := K) (a := C) (xs := us.map V.ref) (fun j H' => ∃ (kvs' : NT) (bs : List Bool), FPost P w L H3 H' d kvs' ∧ H' D = some (.lst (bs.map V.bl)) ∧ bs.length = j ∧ (bs.all id = true ↔ ∀ z ∈ (partsOf a b p q').take j, En false L (m - 1).toNat z.1 z.2 q'))
      ⟨kvs2, [], FPost.ex e4 hp3, upd_same, rfl, ⟨fun _ z hz => (nomatch hz), fun _ => rfl⟩⟩ (fun j H' _ ⟨kvs', _, hp, _⟩ => SqL.of (hp.kp.atF hd3 hC Fl.lst_ne)) (fun j x H4 hx ⟨kvs', bs, hp, hD, hbl, hiff⟩ => ?_) (fun H4 ⟨kvs', bs, hp, hD, hbl, hiff⟩ => ?_)
    · have hj : j < us.length := by
        have := (List.getElem?_eq_some_iff.mp hx).1
        rw [List.length_map] at this
        exact this
      rw [List.getElem?_map, List.getElem?_eq_getElem hj] at hx
      have ex : x = .ref us[j] := (Option.some.inj hx).symm
      subst ex
      have hps4 := hp.kp.pairsF hd3 hps
      obtain ⟨z, hz, hzat⟩ := hps4.at (List.getElem?_eq_getElem hj)
      have hzv := hin z (List.mem_of_getElem? hz)
      refine ⟨rfl, ?_⟩
      dsimp only [tYes]
      rw [if_pos rfl]
      refine ⟨_, rfl, _, rfl, _, rfl, _, rfl, m, 1, rfl, rfl, _, rfl, d, us[j], L, z.1, z.2, q', m - 1, kvs', rfl, by omega, by omega, by omega, hL, hzat, hzv.1, hzv.2.1, hzv.2.2, hq1, hqL, hp.pre, fun H5 c kvs5 hp5 hc => ?_⟩
      have hD5 : H5 D = some (.lst (bs.map V.bl)) := hp5.kp.atF hp.pre.dict.1 hD Fl.lst_ne
      have hp35 := hp.trans hp5
      refine ⟨_, hD5, ?_, kvs5, bs ++ [c], ⟨?_, ⟨⟨?_, ?_⟩, hp35.pre.tab, hp35.pre.ok⟩⟩, ?_, ?_, ?_⟩
      · rw [List.length_map, hbl]
        exact small1000 (by omega)
      · intro y o ny hy
        rw [upd_ne (ne_of_none hy nD)]
        exact hp35.kp y o ny hy
      · rw [upd_ne nDd.symm]
        exact hp35.pre.dict.1
      · refine hp35.pre.dict.2.mutG fun xs zz => ?_
        rw [hD5] at zz
        cases zz
      · rw [upd_same, List.map_append]
        rfl
      · rw [List.length_append, hbl]
        rfl
      · rw [List.all_append, Bool.and_eq_true, hiff, List.take_add_one, hz]
        have e1 : ([c].all id = true) ↔ c = true := by
          show ((id c && true) = true) ↔ c = true
          rw [Bool.and_true]
          exact Iff.rfl
        rw [e1, hc]
        constructor
        · rintro ⟨g1, g2⟩ y hy
          rcases List.mem_append.mp hy with hy | hy
          · exact g1 y hy
          · have : y = z := by simpa using hy
            rw [this]
            exact g2
        · intro g
          exact ⟨fun y hy => g y (List.mem_append.mpr (.inl hy)), g z (List.mem_append.mpr (.inr (by simp)))⟩
    · rw [List.length_map, hul, List.take_length] at hiff
      refine ⟨D, bs, rfl, SqL.of hD, _, rfl, ?_⟩
      have hpall : FPost P w L H1 H4 d kvs' := ⟨(hp2.kp.trans (KpD.ex e3)).trans hp.kp, hp.pre⟩
      have hg : bs.all id = true ↔ Good false L m.toNat a b p q' := by
        rw [hiff, good_parts hne]
        have ec : cost false p q' = 1 := rfl
        have em : m.toNat - 1 = (m - 1).toNat := by omega
        rw [ec, em]
        exact ⟨fun z => ⟨by omega, z⟩, fun z => z.2⟩
      refine ite2 (fun hall => ?_) (fun hall => ?_)
      · refine ⟨_, rfl, q H4 (.int q') kvs' ⟨kp1.trans hpall.kp, hpall.pre⟩ (.inr ⟨q', rfl, ⟨hq1, hqL⟩, hne, hg.mp hall, fun r r1 r2 r3 => ?_⟩)⟩
        exact hno r (up_take (others_up L p) hq' (mem_others.mpr ⟨⟨r1, by omega⟩, r3⟩) r2)
      · refine ⟨_, _, _, kvs', rfl, hpall, fun r hr => ?_⟩
        rw [List.take_add_one, hq'] at hr
        rcases List.mem_append.mp hr with hr | hr
        · exact hno r hr
        · have : r = q' := by simpa using hr
          rw [this]
          exact fun z => hall (hg.mpr z)
  · rintro σ H2 ⟨x5, x6, x7, kvs2, rfl, hp2, hno⟩
    rw [List.length_map, List.take_length] at hno
    refine q H2 .non kvs2 ⟨kp1.trans hp2.kp, hp2.pre⟩ (.inl ⟨rfl, fun r r1 r2 r3 => hno r (mem_others.mpr ⟨⟨r1, r2⟩, r3⟩)⟩)
theorem len_first_onward {K : PySem.W.Frag} {P : Program} {w : World} {N : Nat} {vs : List V} {H : Hp} {Q : VK} {E : XK} (h : sp_first_onward K P w N vs H Q E) : vs.length = 5 := by
  obtain ⟨d, s, L, a, b, p, m, kvs, rfl, _⟩ := h
  rfl
def sp_stands_from (K : PySem.W.Frag) : Sp := fun vs H Q _ => ∃ (L : Int) (s : Addr) (a b p : Int), vs = [.int L, .ref s, .int p] ∧ L ≤ 16 ∧ H s = some (.tup [.int a, .int b]) ∧ 1 ≤ a ∧ a ≤ b ∧ b ≤ L ∧ 1 ≤ p ∧ p ≤ L ∧
  ∀ H' u n v, Ex H H' → Told false L a b p n v → H' u = some (.tup [.int (n : Nat), v]) → Q (.ref u) H'
abbrev N_stands_from : List Str := ["length", "stretch", "place", "known", "many"]
def t_stands_from (K : PySem.W.Frag) (P : Program) (w : World) : TS := (tSeq (tDrop (tCall (sp_check_going_length K) [] E0 (tCons (tVar 0) tNil)))
  (tSeq (tDrop (tCall (sp_check_stretch K) [] E0 (tCons (tVar 1) (tCons (tVar 0) tNil))))
  (tSeq (tDrop (tCall (sp_check_place K) [] E0 (tCons (tVar 2) (tCons (tVar 0) tNil))))
  (tSeq (tAsg (Fl.tNNew P w) (gName 3))
  (tSeq (tAsg (tC (.int 0)) (gName 4))
  (tSeq (tWhile (tNot (tB (tCall (sp_stands_are_enough K P w 40) [] E0 (tCons (tVar 0) (tCons (tVar 1) (tCons (tVar 2) (tCons (tVar 4) (tCons (tVar 3) tNil)))))))) (tAug 4 (tC (.int 1)) (ipI fun i j => i + j)))
  (tSeq (tIfS (tTest (tOp rEq (tVar 4) (tC (.int 0)))) (tRet (tTup (tCons (tC (.int 0)) (tCons (tC .non) tNil)))) tNext)
  (tRet (tTup (tCons (tVar 4) (tCons (tCall (sp_first_onward K P w 40) [] E0 (tCons (tVar 0) (tCons (tVar 1) (tCons (tVar 2) (tCons (tVar 4) (tCons (tVar 3) tNil)))))) tNil)))))))))))
theorem pure_stands_from {K : PySem.W.Frag} {P : Program} {w : World} {vs : List V} {H : Hp} {Q : VK} {E : XK} (h : sp_stands_from K vs H Q E) : t_stands_from K P w { nx := fun _ H' => Q .non H', rt := Q } (start N_stands_from vs) H := by
  obtain ⟨L, s, a, b, p, rfl, hL, hs, h1, h2, h3, h4, h5, q⟩ := h
  refine ⟨_, rfl, L, rfl, by omega, hL, ?_⟩
  refine ⟨_, rfl, _, rfl, s, L, a, b, rfl, hs, h1, h2, h3, ?_⟩
  refine ⟨_, rfl, _, rfl, p, L, rfl, h4, h5, ?_⟩
  refine fun d nd => ?_
  have hpre : FPre P w L (upd H d (Fl.dNo P w d [])) d [] := FPre.new
  have hs1 : (upd H d (Fl.dNo P w d [])) s = some (.tup [.int a, .int b]) := (Ex.new nd) _ _ hs
  have hnew : ∀ {H'}, KpD d (upd H d (Fl.dNo P w d [])) H' → Ex H H' := fun k => KpD.new nd k
  generalize upd H d (Fl.dNo P w d []) = H1 at hpre hs1 hnew ⊢
  have hd1 := hpre.dict.1
  have hbig := en_enough (L := L) (p := p) h1 h2 h3
  refine ⟨fun k σ H' => ∃ (m : Nat) (kvs' : NT), σ = [some (.int L), some (.ref s), some (.int p), some (.ref d), some (.int (m : Int))] ∧ m + k = (b - a).toNat + 1 ∧ FPost P w L H1 H' d kvs' ∧ ∀ j, j < m → ¬ En false L j a b p,
    ⟨(b - a).toNat + 1, 0, [], rfl, by omega, FPost.refl hpre, fun j hj => absurd hj (Nat.not_lt_zero j)⟩, ?_⟩
  rintro k σ H2 ⟨m, kvs2, rfl, hmk, hp2, hno⟩
  have hs2 := hp2.kp.atF hd1 hs1 Fl.tup_ne
  refine ⟨_, rfl, _, rfl, _, rfl, _, rfl, _, rfl, d, s, L, a, b, p, (m : Int), kvs2, rfl, by omega, by omega, by omega, hL, hs2, h1, h2, h3, h4, h5, hp2.pre, fun H3 c kvs3 hp3 hc => ?_⟩
  rw [Int.toNat_natCast] at hc
  have hp13 := hp2.trans hp3
  refine ⟨_, rfl, ?_⟩
  cases c with
  | false =>
    have hn : ¬ En false L m a b p := fun z => absurd (hc.mpr z) (by decide)
    have hlt : m < (b - a).toNat + 1 := by
      apply Classical.byContradiction
      intro z
      exact hn (hbig.mono (by omega))
    refine iteT ⟨fun σ' H' => σ' = [some (.int L), some (.ref s), some (.int p), some (.ref d), some (.int ((m + 1 : Nat) : Int))] ∧ H' = H3, ?_, ?_⟩
    · rintro σ' H' ⟨rfl, rfl⟩
      refine ⟨k - 1, by omega, m + 1, kvs3, rfl, by omega, hp13, fun j hj => ?_⟩
      by_cases z : j = m
      · rw [z]
        exact hn
      · exact hno j (by omega)
    · exact ⟨_, rfl, _, _, rfl, rfl, rfl, rfl⟩
  | true =>
    have hen : En false L m a b p := hc.mp rfl
    refine iteF ?_
    refine ⟨_, rfl, rfl, _, rfl, ite2 (fun e => ?_) (fun e => ?_)⟩
    · have e0 := V.int.inj (of_decide_eq_true e)
      have em : m = 0 := by omega
      have hab : a = b := by
        rw [em] at hen
        cases hen with
        | one => rfl
        | go q' _ _ ne hc' _ =>
          have := cost_pos (st := false) ne
          omega
      refine ⟨by show 2 ≤ sizeLine; decide, fun u nu => ?_⟩
      exact q _ u 0 .non ((hnew hp13.kp).trans (Ex.new nu)) (.inl ⟨hab, rfl, rfl⟩) upd_same
    · have em : m ≠ 0 := fun z => e (decide_eq_true (by rw [z]; rfl))
      have hab : a < b := by
        have : a ≠ b := fun z => hno 0 (by omega) (by rw [z]; exact .one)
        omega
      have hs3 := hp13.kp.atF hd1 hs1 Fl.tup_ne
      refine ⟨_, rfl, _, rfl, _, rfl, _, rfl, _, rfl, _, rfl, d, s, L, a, b, p, (m : Int), kvs3, rfl, by omega, by omega, by omega, hL, hs3, h1, h2, h3, h4, h5, hp3.pre, fun H4 v kvs4 hp4 hv => ?_⟩
      refine ⟨by show 2 ≤ sizeLine; decide, fun u nu => ?_⟩
      refine q _ u m v ((hnew (hp13.trans hp4).kp).trans (Ex.new nu)) (.inr ⟨hab, ⟨hen, hno⟩, ?_⟩) upd_same
      rcases hv with ⟨_, hv⟩ | ⟨q', rfl, hq', ne, hg, hfirst⟩
      · obtain ⟨q', ⟨z1, z2⟩, ne, hg⟩ := (en_good hab).mp hen
        exact absurd hg (hv q' z1 z2 ne)
      · exact ⟨q', rfl, hq', ne, hg, hfirst⟩
theorem len_stands_from {K : PySem.W.Frag} {vs : List V} {H : Hp} {Q : VK} {E : XK} (h : sp_stands_from K vs H Q E) : vs.length = 3 := by
  obtain ⟨L, s, a, b, p, rfl, _⟩ := h
  rfl
/-- the least number on a whole path, and where to begin -/
def AtAll (L : Int) (n : Nat) (v : V) : Prop := (L = 1 ∧ n = 0 ∧ v = .non) ∨ (2 ≤ L ∧ ∃ (m : Nat) (p : Int), n = m + 1 ∧ v = .int p ∧ (1 ≤ p ∧ p ≤ L) ∧ LeastN false L 1 L p m ∧ (∀ q, 1 ≤ q → q ≤ L → ∀ k, LeastN false L 1 L q k → m ≤ k) ∧ ∀ q, 1 ≤ q → q < p → ∀ k, LeastN false L 1 L q k → m < k)
def sp_stands_at_all (K : PySem.W.Frag) : Sp := fun vs H Q _ => ∃ L : Int, vs = [.int L] ∧ 1 ≤ L ∧ L ≤ 16 ∧ ∀ H' u n v, Ex H H' → AtAll L n v → H' u = some (.tup [.int (n : Nat), v]) → Q (.ref u) H'
abbrev N_stands_at_all : List Str := ["length", "known", "further", "place"]
def t_stands_at_all (K : PySem.W.Frag) (P : Program) (w : World) : TS := (tSeq (tDrop (tCall (sp_check_going_length K) [] E0 (tCons (tVar 0) tNil)))
  (tSeq (tIfS (tTest (tOp rEq (tVar 0) (tC (.int 1)))) (tRet (tTup (tCons (tC (.int 0)) (tCons (tC .non) tNil)))) tNext)
  (tSeq (tAsg (Fl.tNNew P w) (gName 1))
  (tSeq (tAsg (tC (.int 0)) (gName 2))
  (tWhile (tB (tC (.bl true))) (tSeq (tAug 2 (tC (.int 1)) (ipI fun i j => i + j))
  (tFor (iRng2 (tCons (tC (.int 1)) (tCons (tOp (rI0 fun i j => .int (i + j)) (tVar 0) (tC (.int 1))) tNil))) (gName 3) (tIfS (tB (tCall (sp_stands_are_enough K P w 40) [] E0 (tCons (tVar 0) (tCons (tTup (tCons (tC (.int 1)) (tCons (tVar 0) tNil))) (tCons (tVar 3) (tCons (tVar 2) (tCons (tVar 1) tNil))))))) (tRet (tTup (tCons (tOp (rI0 fun i j => .int (i + j)) (tVar 2) (tC (.int 1))) (tCons (tVar 3) tNil)))) tNext))))))))
theorem pure_stands_at_all {K : PySem.W.Frag} {P : Program} {w : World} {vs : List V} {H : Hp} {Q : VK} {E : XK} (h : sp_stands_at_all K vs H Q E) : t_stands_at_all K P w { nx := fun _ H' => Q .non H', rt := Q } (start N_stands_at_all vs) H := by
  obtain ⟨L, rfl, h1, hL, q⟩ := h
  refine ⟨_, rfl, L, rfl, h1, hL, ?_⟩
  refine ⟨_, rfl, rfl, _, rfl, ite2 (fun e => ?_) (fun e => ?_)⟩
  · have e := V.int.inj (of_decide_eq_true e)
    refine ⟨by show 2 ≤ sizeLine; decide, fun u nu => ?_⟩
    exact q _ u 0 .non (Ex.new nu) (.inl ⟨e, rfl, rfl⟩) upd_same
  · have hL2 : 2 ≤ L := by
      have : ¬ L = 1 := fun z => e (decide_eq_true (congrArg V.int z))
      omega
    refine fun d nd => ?_
    have hpre : FPre P w L (upd H d (Fl.dNo P w d [])) d [] := FPre.new
    have hnew : ∀ {H'}, KpD d (upd H d (Fl.dNo P w d [])) H' → Ex H H' := fun k => KpD.new nd k
    generalize upd H d (Fl.dNo P w d []) = H1 at hpre hnew ⊢
    have hd1 := hpre.dict.1
    have hbig := en_low (st := false) (L := L) (L - 1).toNat 1 L (by omega) (by omega) rfl (by omega)
    refine ⟨fun k σ H' => ∃ (m : Nat) (x3 : Option V) (kvs' : NT), σ = [some (.int L), some (.ref d), some (.int (m : Int)), x3] ∧ m + k = (L - 1).toNat ∧ FPost P w L H1 H' d kvs' ∧ ∀ j, j ≤ m → ∀ r, 1 ≤ r → r ≤ L → ¬ En false L j 1 L r,
      ⟨(L - 1).toNat, 0, none, [], rfl, by omega, FPost.refl hpre, fun j hj r _ _ z => ?_⟩, ?_⟩
    · rw [show j = 0 by omega] at z
      have := en_wide z
      omega
    · rintro k σ H2 ⟨m, x3, kvs2, rfl, hmk, hp2, hno⟩
      have hlt : m < (L - 1).toNat := by
        apply Classical.byContradiction
        intro z
        exact hno m (Nat.le_refl m) 1 (by omega) (by omega) (hbig.mono (by omega))
      refine ⟨_, rfl, iteT ⟨fun σ' H' => ∃ (x3' : Option V) (kvs' : NT), σ' = [some (.int L), some (.ref d), some (.int ((m + 1 : Nat) : Int)), x3'] ∧ FPost P w L H1 H' d kvs' ∧ ∀ r, 1 ≤ r → r ≤ L → ¬ En false L (m + 1) 1 L r, ?_, ?_⟩⟩
      · rintro σ' H' ⟨x3', kvs', rfl, hp', hno'⟩
        refine ⟨k - 1, by omega, m + 1, x3', kvs', rfl, by omega, hp', fun j hj r r1 r2 => ?_⟩
        by_cases z : j = m + 1
        · rw [z]
          exact hno' r r1 r2
        · exact hno j (by omega) r r1 r2
      · refine ⟨_, rfl, _, _, rfl, rfl, ?_⟩
        refine ⟨_, rfl, L, 1, rfl, rfl, 1, L + 1, rfl, ⟨by decide, by decide, by omega, by omega⟩, ?_⟩
        refine for_range (lo := 1) (n := (L + 1 - 1).toNat) (fun i σ H' => ∃ (x3' : Option V) (kvs' : NT), σ = [some (.int L), some (.ref d), some (.int ((m + 1 : Nat) : Int)), x3'] ∧ FPost P w L H1 H' d kvs' ∧ ∀ r, 1 ≤ r → r < 1 + (i : Int) → ¬ En false L (m + 1) 1 L r)
          ⟨x3, kvs2, rfl, hp2, fun r r1 r2 => (by omega)⟩ ?_ ?_
        · rintro i σ H3 hi ⟨x3', kvs3, rfl, hp3, hno3⟩
          refine ⟨_, rfl, _, rfl, by show 2 ≤ sizeLine; decide, fun t nt => ?_⟩
          have e4 : Ex H3 (upd H3 t (.tup [.int 1, .int L])) := Ex.new nt
          have ht4 : (upd H3 t (.tup [.int 1, .int L])) t = some (.tup [.int 1, .int L]) := upd_same
          have hp4 : FPost P w L H1 (upd H3 t (.tup [.int 1, .int L])) d kvs3 := hp3.trans (FPost.ex e4 hp3.pre)
          generalize upd H3 t (.tup [.int 1, .int L]) = H4 at ht4 hp4 ⊢
          refine ⟨_, rfl, _, rfl, _, rfl, d, t, L, 1, L, 1 + (i : Int), ((m + 1 : Nat) : Int), kvs3, rfl, by omega, by omega, by omega, hL, ht4, by omega, by omega, by omega, by omega, by omega, hp4.pre, fun H5 c kvs5 hp5 hc => ?_⟩
          rw [Int.toNat_natCast] at hc
          have hp15 := hp4.trans hp5
          refine ⟨_, rfl, ?_⟩
          cases c with
          | true =>
            refine iteT ⟨_, rfl, _, 1, rfl, rfl, _, rfl, by show 2 ≤ sizeLine; decide, fun u nu => ?_⟩
            have hen := hc.mp rfl
            refine q _ u (m + 1 + 1) (.int (1 + (i : Int))) ((hnew hp15.kp).trans (Ex.new nu)) (.inr ⟨hL2, m + 1, 1 + (i : Int), rfl, rfl, ⟨by omega, by omega⟩, ⟨hen, fun j hj => hno j (by omega) _ (by omega) (by omega)⟩, fun r r1 r2 j hj => ?_, fun r r1 r2 j hj => ?_⟩) upd_same
            · apply Classical.byContradiction
              intro z
              exact hno j (by omega) r r1 r2 hj.1
            · apply Classical.byContradiction
              intro z
              exact hno3 r r1 r2 (hj.1.mono (by omega))
          | false =>
            refine iteF ⟨_, kvs5, rfl, hp15, fun r r1 r2 => ?_⟩
            by_cases z : r = 1 + (i : Int)
            · rw [z]
              exact fun z => absurd (hc.mpr z) (by decide)
            · exact hno3 r r1 (by omega)
        · rintro σ H3 ⟨x3', kvs3, rfl, hp3, hno3⟩
          exact ⟨x3', kvs3, rfl, hp3, fun r r1 r2 => hno3 r r1 (by omega)⟩
theorem len_stands_at_all {K : PySem.W.Frag} {vs : List V} {H : Hp} {Q : VK} {E : XK} (h : sp_stands_at_all K vs H Q E) : vs.length = 1 := by
  obtain ⟨L, rfl, _⟩ := h
  rfl
def sp__law_cell_at (K : PySem.W.Frag) : Sp := fun vs H Q _ => ∃ (a : Addr) (ns : List Int) (k : Int), vs = [.ref a, .int k] ∧ SqL K H a (ns.map V.int) ∧ 0 ≤ k ∧ ∀ v : Int, Q (.int v) H
abbrev N__law_cell_at : List Str := ["script", "k"]
def t__law_cell_at (K : PySem.W.Frag) : TS := (tSeq (tIfS (tTest (tOp (rI0 fun i j => .bl (decide (i < j))) (tVar 1) (tCB (rLenQ K) (tCons (tVar 0) tNil)))) (tRet (tOp (rIxL K) (tVar 0) (tVar 1))) tNext)
  (tRet (tC (.int 0))))
theorem pure__law_cell_at {K : PySem.W.Frag} {vs : List V} {H : Hp} {Q : VK} {E : XK} (h : sp__law_cell_at K vs H Q E) : t__law_cell_at K { nx := fun _ H' => Q .non H', rt := Q } (start N__law_cell_at vs) H := by
  obtain ⟨a, ns, k, rfl, hS, hk, q⟩ := h
  refine ⟨_, rfl, _, rfl, a, _, rfl, .inl hS, _, _, rfl, rfl, _, rfl, ite2 (fun e => ?_) (fun _ => ?_)⟩
  · have e1 := of_decide_eq_true e
    rw [List.length_map] at e1
    obtain ⟨j, rfl⟩ := Int.eq_ofNat_of_zero_le hk
    have hj : j < ns.length := by omega
    refine ⟨_, rfl, _, rfl, a, _, _, .int ns[j], rfl, rfl, hS, atI_nat ?_, q _⟩
    rw [List.getElem?_map, List.getElem?_eq_getElem hj]
    rfl
  · exact q 0
theorem len__law_cell_at {K : PySem.W.Frag} {vs : List V} {H : Hp} {Q : VK} {E : XK} (h : sp__law_cell_at K vs H Q E) : vs.length = 2 := by
  obtain ⟨a, ns, k, rfl, _⟩ := h
  rfl
def sp__law_draws (K : PySem.W.Frag) : Sp := fun vs H Q _ => ∃ c : Int, vs = [.int c, .int 400, .int 1000] ∧ ∀ p H' (ds : List Int), H p = none → Ex H H' → H' p = some (.lst (ds.map V.int)) → ds.length = 400 → Q (.ref p) H'
abbrev N__law_draws : List Str := ["cell", "many", "size", "found", "rest", "stirred", "k"]
def t__law_draws (K : PySem.W.Frag) : TS := (tSeq (tAsg (tLst tNil) (gName 3))
  (tSeq (tAsg (tOp (rI CMul fun i j => .int (i * j)) (tVar 0) (tCB rInt1 (tCons (tOp (rI0 fun i j => .bl (decide (j ≤ i))) (tVar 0) (tOp (rI CPow fun i j => .int (i ^ j.toNat)) (tC (.int 10)) (tC (.int 18)))) tNil))) (gName 4))
  (tSeq (tAsg (tOp (rI (fun _ j => 0 < j) fun i j => .int (i % j)) (tVar 0) (tC (.int 2305843009213693951))) (gName 5))
  (tSeq (tFor (iRng1 (tCons (tOp (rI0 fun i j => .int (i + j)) (tVar 1) (tC (.int 3))) tNil)) (gName 6) (tSeq (tAsg (tOp (rI (fun _ j => 0 < j) fun i j => .int (i % j)) (tOp (rI0 fun i j => .int (i + j)) (tOp (rI0 fun i j => .int (i + j)) (tOp (rI0 fun i j => .int (i + j)) (tOp (rI CMul fun i j => .int (i * j)) (tVar 5) (tVar 5)) (tOp (rI CMul fun i j => .int (i * j)) (tC (.int 48271)) (tVar 5))) (tVar 6)) (tC (.int 1))) (tC (.int 2305843009213693951))) (gName 5))
  (tIfS (tAnd (tTest (tOp (rI0 fun i j => .bl (decide (j < i))) (tVar 6) (tC (.int 2)))) (tTest (tOp (rI0 fun i j => .bl (decide (j < i))) (tVar 4) (tC (.int 0))))) (tSeq (tDrop (tBM K "list" rAppend (tVar 3) (tCons (tOp (rI (fun _ j => 0 < j) fun i j => .int (i % j)) (tVar 4) (tVar 2)) tNil)))
  (tAsg (tOp (rI CDiv fun i j => .int (i / j)) (tVar 4) (tVar 2)) (gName 4))) (tIfS (tTest (tOp (rI0 fun i j => .bl (decide (j < i))) (tVar 6) (tC (.int 2)))) (tDrop (tBM K "list" rAppend (tVar 3) (tCons (tOp (rI (fun _ j => 0 < j) fun i j => .int (i % j)) (tOp (rI CDiv fun i j => .int (i / j)) (tVar 5) (tC (.int 4096))) (tVar 2)) tNil))) tNext))))
  (tRet (tVar 3))))))
theorem pure__law_draws {K : PySem.W.Frag} {vs : List V} {H : Hp} {Q : VK} {E : XK} (h : sp__law_draws K vs H Q E) : t__law_draws K { nx := fun _ H' => Q .non H', rt := Q } (start N__law_draws vs) H := by
  obtain ⟨c, rfl, q⟩ := h
  refine ⟨Nat.zero_le _, fun f nf => ?_⟩
  refine ⟨_, rfl, _, rfl, 10, 18, rfl, rfl, ⟨by decide, by decide, by decide⟩, _, _, rfl, rfl, .inr ⟨_, rfl, ?_⟩⟩
  refine ⟨_, _, rfl, rfl, .inr ?_, ?_⟩
  · by_cases hc : decide ((10 : Int) ^ Int.toNat 18 ≤ c) = true
    · rw [if_pos hc]
      exact ⟨by decide, by decide⟩
    · rw [if_neg hc]
      exact ⟨by decide, by decide⟩
  refine ⟨_, rfl, _, _, rfl, rfl, (by decide : (0 : Int) < 2305843009213693951), ?_⟩
  refine ⟨_, rfl, _, _, rfl, rfl, 403, rfl, by decide, by decide, ?_⟩
  refine for_range (lo := 0) (n := (403 : Int).toNat) (fun i σ H' => ∃ (r s : Int) (ds : List Int) (kv : Option V), σ = [some (.int c), some (.int 400), some (.int 1000), some (.ref f), some (.int r), some (.int s), kv] ∧ 0 ≤ s ∧ s < 2305843009213693951 ∧ Ex H H' ∧ H' f = some (.lst (ds.map V.int)) ∧ ds.length = i - 3)
    ⟨_, _, [], none, rfl, Int.emod_nonneg _ (by decide), Int.emod_lt_of_pos _ (by decide), Ex.new nf, upd_same, rfl⟩ ?_ ?_
  · rintro i σ H' hi ⟨r, s, ds, kv, rfl, h0, h1, he, hf, hl⟩
    have hi2 : i < 403 := hi
    have bs : -(2 ^ 64) < s ∧ s < 2 ^ 64 := ⟨by omega, by omega⟩
    refine ⟨_, rfl, _, rfl, s, s, rfl, rfl, .inl bs, _, rfl, 48271, s, rfl, rfl, .inl ⟨by decide, by decide⟩, _, _, rfl, rfl, _, rfl, _, _, rfl, rfl, _, _, rfl, rfl, _, _, rfl, rfl, (by decide : (0 : Int) < 2305843009213693951), ?_⟩
    have s0 : 0 ≤ (s * s + 48271 * s + (0 + (i : Int)) + 1) % 2305843009213693951 := Int.emod_nonneg _ (by decide)
    have s1 : (s * s + 48271 * s + (0 + (i : Int)) + 1) % 2305843009213693951 < 2305843009213693951 := Int.emod_lt_of_pos _ (by decide)
    have hsz : (ds.map V.int).length < sizeLine := by
      rw [List.length_map]
      exact small1000 (by omega)
    refine ⟨_, rfl, _, _, rfl, rfl, _, rfl, ite2 (fun e => ?_) (fun e => ?_)⟩
    · have e1 : (2 : Int) < 0 + (i : Int) := of_decide_eq_true e
      refine ⟨_, rfl, _, _, rfl, rfl, _, rfl, ite2 (fun e2 => ?_) (fun e2 => ?_)⟩
      · refine ⟨_, rfl, .inl ⟨rfl, _, SqL.of hf⟩, _, rfl, _, rfl, _, _, rfl, rfl, (by decide : (0 : Int) < 1000), f, _, _, rfl, rfl, hf, hsz, ?_⟩
        refine ⟨_, rfl, _, rfl, _, _, rfl, rfl, ⟨by decide, by decide⟩, ?_⟩
        refine ⟨_, _, ds ++ [r % 1000], _, rfl, s0, s1, he.mut nf, ?_, ?_⟩
        · rw [upd_same, List.map_append]
          rfl
        · rw [List.length_append, hl]
          show i - 3 + 1 = i + 1 - 3
          omega
      · refine ⟨_, rfl, _, _, rfl, rfl, _, rfl, ite2 (fun e3 => ?_) (fun e3 => absurd e e3)⟩
        refine ⟨_, rfl, .inl ⟨rfl, _, SqL.of hf⟩, _, rfl, _, _, rfl, rfl, ⟨by decide, by decide⟩, _, rfl, _, _, rfl, rfl, (by decide : (0 : Int) < 1000), f, _, _, rfl, rfl, hf, hsz, ?_⟩
        refine ⟨_, _, ds ++ [(s * s + 48271 * s + (0 + (i : Int)) + 1) % 2305843009213693951 / 4096 % 1000], _, rfl, s0, s1, he.mut nf, ?_, ?_⟩
        · rw [upd_same, List.map_append]
          rfl
        · rw [List.length_append, hl]
          show i - 3 + 1 = i + 1 - 3
          omega
    · have e1 : ¬ (2 : Int) < 0 + (i : Int) := fun z => e (decide_eq_true z)
      dsimp only
      rw [if_neg Bool.false_ne_true]
      refine ⟨_, rfl, _, _, rfl, rfl, _, rfl, ite2 (fun e3 => absurd e3 e) (fun e3 => ?_)⟩
      refine ⟨r, _, ds, _, rfl, s0, s1, he, hf, ?_⟩
      omega
  · rintro σ H' ⟨r, s, ds, kv, rfl, h0, h1, he, hf, hl⟩
    exact ⟨_, rfl, q f H' ds nf he hf (hl.trans rfl)⟩
theorem len__law_draws {K : PySem.W.Frag} {vs : List V} {H : Hp} {Q : VK} {E : XK} (h : sp__law_draws K vs H Q E) : vs.length = 3 := by
  obtain ⟨c, rfl, _⟩ := h
  rfl
def sp__law_bag (K : PySem.W.Frag) : Sp := fun vs H Q _ => ∃ (a : Addr) (ns : List Int) (k : Int), vs = [.ref a, .int k] ∧ SqL K H a (ns.map V.int) ∧ 0 ≤ k ∧ ∀ p H', H p = none → Ex H H' → Bag1 H' p → Q (.ref p) H'
abbrev N__law_bag : List Str := ["script", "k"]
def t__law_bag (K : PySem.W.Frag) : TS := (tRet (tLst (tCons (tCall (sp__law_draws K) [] E0 (tCons (tCall (sp__law_cell_at K) [] E0 (tCons (tVar 0) (tCons (tVar 1) tNil))) (tCons (tC (.int 400)) (tCons (tC (.int 1000)) tNil)))) (tCons (tC (.int 0)) tNil))))
theorem pure__law_bag {K : PySem.W.Frag} {vs : List V} {H : Hp} {Q : VK} {E : XK} (h : sp__law_bag K vs H Q E) : t__law_bag K { nx := fun _ H' => Q .non H', rt := Q } (start N__law_bag vs) H := by
  obtain ⟨a, ns, k, rfl, hS, hk, q⟩ := h
  refine ⟨_, rfl, _, rfl, a, ns, k, rfl, hS, hk, fun v => ?_⟩
  refine ⟨v, rfl, fun d H1 ds nd e1 hd hl => ?_⟩
  refine ⟨by show 2 ≤ sizeLine; decide, fun p np => ?_⟩
  refine q p _ (fresh_back e1 np) (e1.trans (Ex.new np)) ⟨d, 0, ds, upd_same, ?_, hl⟩
  rw [upd_ne (ne_of_none hd np)]
  exact hd
theorem len__law_bag {K : PySem.W.Frag} {vs : List V} {H : Hp} {Q : VK} {E : XK} (h : sp__law_bag K vs H Q E) : vs.length = 2 := by
  obtain ⟨a, ns, k, rfl, _⟩ := h
  rfl
def sp__law_bags (K : PySem.W.Frag) : Sp := fun vs H Q _ => ∃ (a : Addr) (ns : List Int) (m : Int), vs = [.ref a, .int m] ∧ SqL K H a (ns.map V.int) ∧ 0 ≤ m ∧ m ≤ 63 ∧ ∀ p H' (bs : List Addr), H p = none → Ex H H' → H' p = some (.lst (bs.map V.ref)) → Bags bs H' → (∀ b ∈ bs, H b = none) → Q (.ref p) H'
abbrev N__law_bags : List Str := ["script", "limit", "k"]
def t__law_bags (K : PySem.W.Frag) : TS := (tRet (tLc (iRng1 (tCons (tCB rMax2 (tCons (tC (.int 1)) (tCons (tCB rMin2 (tCons (tVar 1) (tCons (tCB (rLenQ K) (tCons (tVar 0) tNil)) tNil))) tNil))) tNil)) (gName 2) tYes (tCall (sp__law_bag K) [] E0 (tCons (tVar 0) (tCons (tVar 2) tNil))) [2]))
theorem pure__law_bags {K : PySem.W.Frag} {vs : List V} {H : Hp} {Q : VK} {E : XK} (h : sp__law_bags K vs H Q E) : t__law_bags K { nx := fun _ H' => Q .non H', rt := Q } (start N__law_bags vs) H := by
  obtain ⟨a, ns, m, rfl, hS, h0, h1, q⟩ := h
  refine ⟨_, rfl, _, rfl, a, _, rfl, .inl hS, m, _, rfl, 1, _, rfl, _, rfl, ?_, ?_, fun D hD => ?_⟩
  · split <;> split <;> omega
  · split <;> split <;> omega
  generalize hn : (if (if ((List.map V.int ns).length : Int) < m then ((List.map V.int ns).length : Int) else m) > 1 then (if ((List.map V.int ns).length : Int) < m then ((List.map V.int ns).length : Int) else m) else 1) = n
  have n63 : n ≤ 63 := by
    rw [← hn]
    split <;> split <;> omega
  have hDl : ∀ {H' : Hp} {b : Addr} {bs : List Addr}, Bag1 H' b → H' D = some (.lst (bs.map V.ref)) → b ≠ D := fun {H' b bs} ⟨d, c, ds, h1, _⟩ h2 e => by
    subst e
    rw [h1] at h2
    have e2 := HO.lst.inj (Option.some.inj h2)
    match bs, e2 with
    | [_, _], e2 => simp at e2
  refine lc_range (lo := 0) (n := n.toNat) (fun i H' => ∃ bs : List Addr, bs.length = i ∧ Ex H H' ∧ H' D = some (.lst (bs.map V.ref)) ∧ Bags bs H' ∧ ∀ b ∈ bs, H b = none)
    ⟨[], rfl, Ex.new hD, upd_same, fun _ hb => (nomatch hb), fun _ hb => (nomatch hb)⟩ (fun i H' hi p => ?_) (fun H' p => ?_)
  · obtain ⟨bs, hl, he, hd, hb, hf⟩ := p
    refine ⟨rfl, ?_⟩
    dsimp only [tYes]
    rw [if_pos rfl]
    refine ⟨_, rfl, _, rfl, a, ns, _, rfl, ex_l he hS, by omega, fun b H2 nb e2 hB => ?_⟩
    have nbD : b ≠ D := hDl hB (e2 _ _ hd)
    refine ⟨_, e2 _ _ hd, ?_, bs ++ [b], ?_, (he.trans e2).mut hD, ?_, ?_, ?_⟩
    · rw [List.length_map, hl]
      exact small1000 (by omega)
    · rw [List.length_append, hl]
      rfl
    · rw [upd_same, List.map_append]
      rfl
    · have hB2 : Bags (bs ++ [b]) H2 := fun x hx => by
        rcases List.mem_append.mp hx with z | z
        · exact (hb x z).ex e2
        · rw [List.mem_singleton.mp z]
          exact hB
      refine hB2.mut (fun z => ?_) (fun d ds h2 h3 e => ?_)
      · exact hDl (hB2 D z) (e2 _ _ hd) rfl
      · subst e
        rw [e2 _ _ hd] at h2
        have e3 := HO.lst.inj (Option.some.inj h2)
        match bs, ds, e3, hl with
        | [], ds, e3, _ =>
          have e4 : ds = [] := by simpa using e3.symm
          rw [e4] at h3
          cases h3
        | _ :: _, _ :: _, e3, _ => simp at e3
        | _ :: _, [], e3, _ => simp at e3
    · intro x hx
      rcases List.mem_append.mp hx with z | z
      · exact hf x z
      · rw [List.mem_singleton.mp z]
        exact fresh_back he nb
  · obtain ⟨bs, hl, he, hd, hb, hf⟩ := p
    exact q D H' bs hD he hd hb hf
theorem len__law_bags {K : PySem.W.Frag} {vs : List V} {H : Hp} {Q : VK} {E : XK} (h : sp__law_bags K vs H Q E) : vs.length = 2 := by
  obtain ⟨a, ns, m, rfl, _⟩ := h
  rfl
def sp__law_take (K : PySem.W.Frag) : Sp := fun vs H Q _ => ∃ (bs : List Addr) (b : Addr) (m : Int), vs = [.ref b, .int m] ∧ b ∈ bs ∧ Bags bs H ∧ 0 < m ∧ ∀ r H', 0 ≤ r → r < m → Kp bs H H' → Bags bs H' → Q (.int r) H'
abbrev N__law_take : List Str := ["bag", "many"]
def t__law_take (K : PySem.W.Frag) : TS := (tSeq (tAsg (tOp (rI0 fun i j => .int (i + j)) (tOp (rIxL K) (tVar 0) (tC (.int 1))) (tC (.int 1))) (gSub (tVar 0) (tC (.int 1)) rSetL))
  (tRet (tOp (rI (fun _ j => 0 < j) fun i j => .int (i % j)) (tOp (rIxL K) (tOp (rIxL K) (tVar 0) (tC (.int 0))) (tOp (rI (fun _ j => 0 < j) fun i j => .int (i % j)) (tOp (rIxL K) (tVar 0) (tC (.int 1))) (tCB (rLenQ K) (tCons (tOp (rIxL K) (tVar 0) (tC (.int 0))) tNil)))) (tVar 1))))
theorem pure__law_take {K : PySem.W.Frag} {vs : List V} {H : Hp} {Q : VK} {E : XK} (h : sp__law_take K vs H Q E) : t__law_take K { nx := fun _ H' => Q .non H', rt := Q } (start N__law_take vs) H := by
  obtain ⟨bs, b, m, rfl, hb, hB, hm, q⟩ := h
  obtain ⟨d, c, ds, h1, h2, h3⟩ := hB b hb
  have ndb : d ≠ b := fun e => by
    rw [e, h1] at h2
    have e2 := congrArg List.length (HO.lst.inj (Option.some.inj h2))
    rw [List.length_map, h3] at e2
    cases e2
  refine ⟨_, rfl, b, _, 1, .int c, rfl, rfl, SqL.of h1, rfl, c, 1, rfl, rfl, _, rfl, b, _, 1, 1, rfl, rfl, h1, rfl, ?_⟩
  have g1 : upd H b (.lst [.ref d, .int (c + 1)]) b = some (.lst [.ref d, .int (c + 1)]) := upd_same
  have g2 : upd H b (.lst [.ref d, .int (c + 1)]) d = some (.lst (ds.map V.int)) := by
    rw [upd_ne ndb]
    exact h2
  have hj0 : 0 ≤ (c + 1) % 400 := Int.emod_nonneg _ (by decide)
  have hj1 : (c + 1) % 400 < 400 := Int.emod_lt_of_pos _ (by decide)
  obtain ⟨j, ej⟩ := Int.eq_ofNat_of_zero_le hj0
  have hj : j < ds.length := by omega
  have el : ((ds.map V.int).length : Int) = 400 := by
    rw [List.length_map, h3]
    rfl
  refine ⟨_, rfl, b, _, 0, .ref d, rfl, rfl, SqL.of g1, rfl, _, rfl, b, _, 1, .int (c + 1), rfl, rfl, SqL.of g1, rfl, _, rfl, b, _, 0, .ref d, rfl, rfl, SqL.of g1, rfl, d, _, rfl, .inl (SqL.of g2), c + 1, _, rfl, rfl, ?_, ?_⟩
  · show (0 : Int) < ((ds.map V.int).length : Int)
    rw [el]
    decide
  refine ⟨d, ds.map V.int, _, .int ds[j], rfl, rfl, SqL.of g2, ?_, _, rfl, ds[j], m, rfl, rfl, hm, ?_⟩
  · rw [el, ej]
    refine atI_nat ?_
    rw [List.getElem?_map, List.getElem?_eq_getElem hj]
    rfl
  · refine q _ _ (Int.emod_nonneg _ (by omega)) (Int.emod_lt_of_pos _ hm) (fun a o na ha => ?_) (fun b' hb' => ?_)
    · have nab : a ≠ b := fun e => na (e ▸ hb)
      rw [upd_ne nab]
      exact ha
    · by_cases e : b' = b
      · subst e
        exact ⟨d, c + 1, ds, upd_same, g2, h3⟩
      · obtain ⟨d', c', ds', k1, k2, k3⟩ := hB b' hb'
        have nd' : d' ≠ b := fun z => by
          rw [z, h1] at k2
          have e2 := congrArg List.length (HO.lst.inj (Option.some.inj k2))
          rw [List.length_map, k3] at e2
          cases e2
        exact ⟨d', c', ds', by rw [upd_ne e]; exact k1, by rw [upd_ne nd']; exact k2, k3⟩
theorem len__law_take {K : PySem.W.Frag} {vs : List V} {H : Hp} {Q : VK} {E : XK} (h : sp__law_take K vs H Q E) : vs.length = 2 := by
  obtain ⟨bs, b, m, rfl, _⟩ := h
  rfl
def sp__law_word (K : PySem.W.Frag) : Sp := fun vs H Q _ => ∃ f n : Int, vs = [.int f, .int n] ∧ Q (vW (word f n)) H
abbrev N__law_word : List Str := ["far", "near"]
def t__law_word (K : PySem.W.Frag) : TS := (tSeq (tIfS (tTest (tOp (rI0 fun i j => .bl (decide (i < j))) (tVar 1) (tVar 0))) (tRet (tC (.str (Str.ofString "warm")))) tNext)
  (tRet (tIf (tTest (tOp (rI0 fun i j => .bl (decide (j < i))) (tVar 1) (tVar 0))) (tC (.str (Str.ofString "cold"))) (tC (.str (Str.ofString "same"))))))
theorem pure__law_word {K : PySem.W.Frag} {vs : List V} {H : Hp} {Q : VK} {E : XK} (h : sp__law_word K vs H Q E) : t__law_word K { nx := fun _ H' => Q .non H', rt := Q } (start N__law_word vs) H := by
  obtain ⟨f, n, rfl, q⟩ := h
  refine ⟨_, rfl, _, rfl, n, f, rfl, rfl, _, rfl, ite2 (fun h1 => ?_) (fun h1 => ?_)⟩
  · have e1 : word f n = .warm := if_pos (of_decide_eq_true h1)
    rw [e1] at q
    exact q
  · have n1 : ¬ n < f := fun z => h1 (decide_eq_true z)
    refine ⟨_, rfl, _, rfl, n, f, rfl, rfl, _, rfl, ite2 (fun h2 => ?_) (fun h2 => ?_)⟩
    · have e2 : word f n = .cold := (if_neg n1).trans (if_pos (of_decide_eq_true h2))
      rw [e2] at q
      exact q
    · have n2 : ¬ f < n := fun z => h2 (decide_eq_true z)
      have e3 : word f n = .same := (if_neg n1).trans (if_neg n2)
      rw [e3] at q
      exact q
theorem len__law_word {K : PySem.W.Frag} {vs : List V} {H : Hp} {Q : VK} {E : XK} (h : sp__law_word K vs H Q E) : vs.length = 2 := by
  obtain ⟨f, n, rfl, _⟩ := h
  rfl
def sp_law (K : PySem.W.Frag) : Sp := fun vs H Q _ => ∃ (a : Addr) (ns : List Int), vs = [.ref a] ∧ SqL K H a (ns.map V.int) ∧ ns.length ≤ 63 ∧ ∀ H', Q (.bl true) H'
abbrev N_law : List Str := ["script", "bag", "length", "many", "begin", "worst", "thing", "search", "turns", "open_so", "here", "least", "later"]
def t_law (K : PySem.W.Frag) : TS := (tSeq (tFor (iList K (tCall (sp__law_bags K) [] E0 (tCons (tVar 0) (tCons (tC (.int 3)) tNil)))) (gName 1) (tSeq (tAsg (tOp (rI0 fun i j => .int (i + j)) (tC (.int 1)) (tCall (sp__law_take K) [] E0 (tCons (tVar 1) (tCons (tC (.int 8)) tNil)))) (gName 2))
  (tSeq (tAsg (tCall (sp_stands_at_all K) [] E0 (tCons (tVar 2) tNil)) (gTup K 2 (gCons (gName 3) (gCons (gName 4) gNil))))
  (tSeq (tAsg (tC (.int 0)) (gName 5))
  (tSeq (tFor (iKeysN (tDisp [((tC (.int 1)), (tC (.bl true))), ((tVar 2), (tC (.bl true))), ((tOp (rI0 fun i j => .int (i + j)) (tC (.int 1)) (tCall (sp__law_take K) [] E0 (tCons (tVar 1) (tCons (tVar 2) tNil)))), (tC (.bl true))), ((tOp (rI CDiv fun i j => .int (i / j)) (tOp (rI0 fun i j => .int (i + j)) (tVar 2) (tC (.int 1))) (tC (.int 2))), (tC (.bl true)))])) (gName 6) (tSeq (tAsg (tMake (He.ga K "Search") (sp_Search___init__ K) [] E0 (tCons (tVar 2) tNil)) (gName 7))
  (Evl.tCut (tIfS (tTest (tOp (fun x y H Q => y = .non ∧ Q (.bl (!decide (x = .non))) H) (tVar 4) (tC .non))) (tDrop (tMeth (He.ga K "Search") "stand" (sp_Search_stand K) [] E0 (tVar 7) (tCons (tVar 4) tNil))) tNext)
  (tSeq (tAsg (tC (.int 0)) (gName 8))
  (tSeq (tWhile (tAnd (tTest (tOp (rI0 fun i j => .bl (decide (j < i))) (tCB (rLenQ K) (tCons (tMeth (He.ga K "Search") "can_lie" (sp_Search_can_lie K) [] E0 (tVar 7) tNil) tNil)) (tC (.int 1)))) (tTest (tOp (rI0 fun i j => .bl (decide (i < j))) (tVar 8) (tC (.int 30))))) (tSeq (tPar 9 10 (tCons (tMeth (He.ga K "Search") "can_lie" (sp_Search_can_lie K) [] E0 (tVar 7) tNil) (tCons (tOp (rIxL K) (tMeth (He.ga K "Search") "stands" (sp_Search_stands K) [] E0 (tVar 7) tNil) (tUn (rU fun i => .int (-i)) (tC (.int 1)))) tNil)))
  (tSeq (tAsg (tCall (sp_stands_from K) [] E0 (tCons (tVar 2) (tCons (tTup (tCons (tOp (rIxT K) (tVar 9) (tC (.int 0))) (tCons (tOp (rIxT K) (tVar 9) (tUn (rU fun i => .int (-i)) (tC (.int 1)))) tNil))) (tCons (tVar 10) tNil)))) (gTup K 2 (gCons (gName 11) (gCons (gName 12) gNil))))
  (tSeq (tIfS (tTest (tOp (rI0 fun i j => .bl (decide (j < i))) (tOp (rI0 fun i j => .int (i + j)) (tCB (rLenI (He.ga K "Search") (sp_Search___len__ K) E0) (tCons (tVar 7) tNil)) (tVar 11)) (tVar 3))) (tRet (tC (.bl false))) tNext)
  (tSeq (tDrop (tMeth (He.ga K "Search") "stand" (sp_Search_stand K) [] E0 (tVar 7) (tCons (tVar 12) tNil)))
  (tSeq (tDrop (tMeth (He.ga K "Search") "answer" (sp_Search_answer K) [] E0 (tVar 7) (tCons (tCall (sp__law_word K) [] E0 (tCons (tCB rAbs (tCons (tOp (rI0 fun i j => .int (i - j)) (tVar 6) (tVar 10)) tNil)) (tCons (tCB rAbs (tCons (tOp (rI0 fun i j => .int (i - j)) (tVar 6) (tVar 12)) tNil)) tNil))) tNil)))
  (tAsg (tOp (rI0 fun i j => .int (i + j)) (tVar 8) (tC (.int 1))) (gName 8))))))))
  (tSeq (tIfS (tOr (tTest (tOp (rNeD K) (tMeth (He.ga K "Search") "can_lie" (sp_Search_can_lie K) [] E0 (tVar 7) tNil) (tTup (tCons (tVar 6) tNil)))) (tTest (tOp (rI0 fun i j => .bl (decide (j < i))) (tCB (rLenI (He.ga K "Search") (sp_Search___len__ K) E0) (tCons (tVar 7) tNil)) (tVar 3)))) (tRet (tC (.bl false))) tNext)
  (tAsg (tCB rMax2 (tCons (tVar 5) (tCons (tCB (rLenI (He.ga K "Search") (sp_Search___len__ K) E0) (tCons (tVar 7) tNil)) tNil))) (gName 5))))))))
  (tIfS (tAnd (tTest (tOp (rI0 fun i j => .bl (decide (i < j))) (tVar 2) (tC (.int 4)))) (tTest (tOp rNe (tVar 5) (tVar 3)))) (tRet (tC (.bl false))) tNext))))))
  (tRet (tC (.bl true))))
theorem putK_keys {kvs : List (Key × V)} {k : Key} {v : V} {P : Key → Prop} (h : ∀ e ∈ kvs, P e.1) (hk : P k) : ∀ e ∈ putK kvs k v, P e.1 := fun e he => by
  unfold putK at he
  split at he
  · obtain ⟨y, hy, rfl⟩ := List.mem_map.mp he
    split
    · exact h y hy
    · exact h y hy
  · rcases List.mem_append.mp he with z | z
    · exact h e z
    · rw [List.mem_singleton.mp z]
      exact hk
theorem mergeK_keys {P : Key → Prop} : ∀ (more kvs : List (Key × V)), (∀ e ∈ kvs, P e.1) → (∀ e ∈ more, P e.1) → ∀ e ∈ mergeK kvs more, P e.1
  | [], _, h, _ => h
  | y :: r, kvs, h, h2 => mergeK_keys r (putK kvs y.1 y.2) (putK_keys h (h2 y List.mem_cons_self)) fun e he => h2 e (List.mem_cons_of_mem _ he)
theorem putK_pos {kvs : List (Key × V)} {k : Key} {v : V} : 0 < (putK kvs k v).length := by
  unfold putK
  split
  · rename_i h
    rw [List.length_map]
    cases kvs with
    | nil => cases h
    | cons y r => simp
  · rw [List.length_append]
    show 0 < kvs.length + 1
    omega
theorem mergeK_pos : ∀ (more kvs : List (Key × V)), 0 < kvs.length → 0 < (mergeK kvs more).length
  | [], _, h => h
  | y :: r, kvs, _ => mergeK_pos r (putK kvs y.1 y.2) putK_pos
theorem ex_kp {bs : List Addr} {H0 H H' : Hp} (e : Ex H0 H) (k : Kp bs H H') (n : ∀ a ∈ bs, H0 a = none) : Ex H0 H' := fun a o h => k a o (fun z => by
  rw [n a z] at h
  cases h) (e a o h)
theorem atall_two {L : Int} {n : Nat} {v : V} (h : AtAll L n v) (h2 : 2 ≤ L) (h4 : L < 4) : n = 2 := by
  have hL : L = 2 ∨ L = 3 := by omega
  rcases h with ⟨z, _⟩ | ⟨_, m, p, rfl, _, hp, hm, hall, _⟩
  · omega
  · have hpos := hm.pos (by omega)
    have e1 : En false L 1 1 L 1 := by
      rcases hL with rfl | rfl <;> exact en_by (by decide +kernel)
    obtain ⟨k, hk, hkl⟩ := least_of _ e1
    have := hall 1 (by omega) (by omega) k hkl
    omega
/-- a search as it goes on: nothing waits, the thing is still in -/
structure Going (L thing : Int) (n : Nat) (st : List Int) (ws : List Wo) (fs : List (List Int)) (c d : Int) (turns : Nat) : Prop where
  c1 : 1 ≤ c
  ct : c ≤ thing
  td : thing ≤ d
  dL : d ≤ L
  len : st.length ≤ n
  wl : st.length ≤ ws.length + 1
  wl2 : ws.length ≤ st.length - 1
  fl : fs.length ≤ ws.length
  two : L = 1 ∨ (c = 1 ∧ d = L ∧ st.length = 1) ∨ 2 ≤ st.length
  more : c < d → ∃ (st' : List Int) (here : Int) (m : Nat), st = st' ++ [here] ∧ (1 ≤ here ∧ here ≤ L) ∧ LeastN false L c d here m ∧ st.length + m ≤ n ∧ turns + m ≤ 9
theorem pure_law {K : PySem.W.Frag} (T : SrF K) {vs : List V} {H : Hp} {Q : VK} {E : XK} (h : sp_law K vs H Q E) : t_law K { nx := fun _ H' => Q .non H', rt := Q } (start N_law vs) H := by
  obtain ⟨a, ns, rfl, hS, hlen, q⟩ := h
  refine ⟨_, rfl, a, ns, 3, rfl, hS, by decide, by decide, fun L0 H1 bs nL e1 hL hB nb => ?_⟩
  refine ⟨L0, rfl, ⟨_, SqL.of hL⟩, ?_⟩
  have nLb : L0 ∉ bs := bags_list hB hL
  refine for_list (K := K) (a := L0) (xs := bs.map V.ref) (fun i σ H' => ∃ x1 x2 x3 x4 x5 x6 x7 x8 x9 x10 x11 x12 : Option V, σ = [some (.ref a), x1, x2, x3, x4, x5, x6, x7, x8, x9, x10, x11, x12] ∧ Kp bs H1 H' ∧ Bags bs H')
    ⟨none, none, none, none, none, none, none, none, none, none, none, none, rfl, Kp.refl bs H1, hB⟩ (fun i σ H' _ ⟨_, _, _, _, _, _, _, _, _, _, _, _, _, k, _⟩ => SqL.of (k L0 _ nLb hL)) ?_ ?_
  · rintro i x σ H2 hx ⟨x1, x2, x3, x4, x5, x6, x7, x8, x9, x10, x11, x12, rfl, k2, B2⟩
    obtain ⟨b, hb, rfl⟩ := ref_at hx
    refine ⟨_, rfl, bs, b, 8, rfl, hb, B2, by decide, fun l0 H3 hl0 hl1 k3 B3 => ⟨1, l0, rfl, rfl, ?_⟩⟩
    have hl1' : 1 ≤ 1 + l0 := by omega
    have hl8 : 1 + l0 ≤ 8 := by omega
    dsimp only
    generalize 1 + l0 = l at hl1' hl8 ⊢
    refine ⟨_, rfl, l, rfl, hl1', by omega, fun H4 u n v e4 hat hu => ?_⟩
    refine ⟨u, _, rfl, SqT.of hu, rfl, _, _, rfl, _, [], rfl, rfl, ?_⟩
    have B4 := B3.ex e4
    have k14 : Kp bs H1 H4 := (k2.trans k3).trans (Kp.ex e4)
    -- the dict
    refine fun p np => ⟨_, rfl, ?_⟩
    have e5 : Ex H4 (upd H4 p (.dK [])) := Ex.new np
    have hp5 : (upd H4 p (.dK [])) p = some (.dK []) := upd_same
    have B5 := B4.ex e5
    have npb : p ∉ bs := B4.fresh np
    have k15 : Kp bs H1 (upd H4 p (.dK [])) := k14.trans (Kp.ex e5)
    have k45 : Kp bs H4 (upd H4 p (.dK [])) := Kp.ex e5
    generalize upd H4 p (.dK []) = H5 at hp5 B5 k15 k45 ⊢
    refine ⟨_, rfl, _, rfl, bs, b, l, rfl, hb, B5, by omega, fun t0 H6 ht0 ht1 k6 B6 => ⟨1, t0, rfl, rfl, ?_⟩⟩
    refine ⟨_, rfl, l, 1, rfl, rfl, l + 1, 2, rfl, rfl, ⟨by decide, by decide⟩, ?_⟩
    have hp6 := k6 _ _ npb hp5
    have k16 := k15.trans k6
    refine ⟨hp6, [(Sum.inl 1, .bl true), (Sum.inl l, .bl true), (Sum.inl (1 + t0), .bl true), (Sum.inl ((l + 1) / 2), .bl true)], rfl, by show 4 ≤ 15; decide, ?_⟩
    have hkeys : ∀ y ∈ mergeK [] [(Sum.inl 1, V.bl true), (Sum.inl l, .bl true), (Sum.inl (1 + t0), .bl true), (Sum.inl ((l + 1) / 2), .bl true)], ∃ t : Int, y.1 = Sum.inl t ∧ 1 ≤ t ∧ t ≤ l := by
      refine mergeK_keys (P := fun k => ∃ t : Int, k = Sum.inl t ∧ 1 ≤ t ∧ t ≤ l) _ [] (fun y hy => (nomatch hy)) fun y hy => ?_
      rcases List.mem_cons.mp hy with rfl | hy
      · exact ⟨1, rfl, by omega, by omega⟩
      rcases List.mem_cons.mp hy with rfl | hy
      · exact ⟨l, rfl, by omega, by omega⟩
      rcases List.mem_cons.mp hy with rfl | hy
      · exact ⟨1 + t0, rfl, by omega, by omega⟩
      rcases List.mem_cons.mp hy with rfl | hy
      · exact ⟨(l + 1) / 2, rfl, by omega, by omega⟩
      · cases hy
    have hkpos : 0 < (mergeK [] [(Sum.inl 1, V.bl true), (Sum.inl l, .bl true), (Sum.inl (1 + t0), .bl true), (Sum.inl ((l + 1) / 2), .bl true)]).length := mergeK_pos _ (putK [] (Sum.inl 1) (V.bl true)) putK_pos
    generalize mergeK [] [(Sum.inl 1, V.bl true), (Sum.inl l, .bl true), (Sum.inl (1 + t0), .bl true), (Sum.inl ((l + 1) / 2), .bl true)] = kvs at hkeys hkpos ⊢
    refine ⟨p, kvs, rfl, upd_same, fun o => ?_⟩
    have hp7 : (upd (upd H6 p (.dK kvs)) p (.frz o (.dK kvs))) p = some (.frz o (.dK kvs)) := upd_same
    have n4p : H4 p = none := np
    have k17 : Kp bs H4 (upd (upd H6 p (.dK kvs)) p (.frz o (.dK kvs))) := ((k45.trans k6).mut np).mut np
    have B7 : Bags bs (upd (upd H6 p (.dK kvs)) p (.frz o (.dK kvs))) := by
      have m1 : Bags bs (upd H6 p (.dK kvs)) := B6.mut npb fun d ds hd _ z => by
        rw [z, hp6] at hd
        cases hd
      exact m1.mut npb fun d ds hd _ z => by
        rw [z, upd_same] at hd
        cases hd
    have k17' := k14.trans k17
    generalize upd (upd H6 p (.dK kvs)) p (.frz o (.dK kvs)) = H7 at hp7 k17' B7 ⊢
    -- the things
    refine for_it (walk_keys (d := p) (o := o) (kvs := kvs)) (fun i σ H' => ∃ (w : Int) (y6 y7 y8 y9 y10 y11 y12 : Option V), σ = [some (.ref a), some (.ref b), some (.int l), some (.int (n : Nat)), some v, some (.int w), y6, y7, y8, y9, y10, y11, y12] ∧ Ex H7 H' ∧ 0 ≤ w ∧ (l < 4 → w = if i = 0 then 0 else (n : Int)))
      ⟨0, _, _, _, _, _, _, _, rfl, Ex.refl H7, by omega, fun _ => rfl⟩ (fun i σ H' _ ⟨_, _, _, _, _, _, _, _, _, k, _⟩ => k _ _ hp7) ?_ ?_
    · rintro i y σ H8x H8 hi ⟨w, y6, y7, y8, y9, y10, y11, y12, rfl, e8, hw0, hw⟩ ⟨rfl, k, v', hk, rfl⟩
      obtain ⟨thing, ek, ht1, htl⟩ := hkeys _ (List.mem_of_getElem? hk)
      dsimp only at ek
      subst ek
      show gName 6 (V.int thing) _ _ _
      refine ⟨_, rfl, fun x dx nx ndx ndxx => ⟨x, dx, l, rfl, upd_same, by omega, by omega, fun H9 S W F u9 k9 nS nW nF r9 => ⟨rfl, ?_⟩⟩⟩
      have e9 : Ex H8 H9 := fun c oc hc => by
        have n1 : c ≠ x := ne_of_none hc nx
        have n2 : c ≠ dx := ne_of_none hc ndx
        refine k9 c oc (fun z => n1 (List.mem_singleton.mp z)) ?_
        rw [upd_ne n1, upd_ne n2]
        exact hc
      have back : ∀ c, (upd (upd H8 dx (.own x)) x (.ins (SC K) dx [])) c = none → H8 c = none := fun c hc => by
        have n1 : c ≠ x := fun z => by
          rw [z, upd_same] at hc
          cases hc
        rw [upd_ne n1] at hc
        have n2 : c ≠ dx := fun z => by
          rw [z, upd_same] at hc
          cases hc
        rw [upd_ne n2] at hc
        exact hc
      have nS8 := back S nS
      have nW8 := back W nW
      have nF8 := back F nF
      -- the first stand
      refine ⟨fun σ' H' => ∃ st : List Int, σ' = [some (.ref a), some (.ref b), some (.int l), some (.int (n : Nat)), some v, some (.int w), some (.int thing), some (.ref x), y8, y9, y10, y11, y12] ∧ Ex H8 H' ∧ Sr (SC K) H' x dx S W F l st [] [u9] ([] ++ [rng 1 (l + 1)]) ∧ Going l thing n st [] [] 1 l 0, ?_, ?_⟩
      · refine ⟨_, rfl, rfl, _, rfl, ?_⟩
        rcases id hat with ⟨rfl, rfl, rfl⟩ | ⟨hl2, m, p0, rfl, rfl, hp0, hm, _, _⟩
        · rw [decide_eq_true rfl]
          refine iteF ⟨[], rfl, e9, r9, ⟨by omega, by omega, by omega, by omega, by show 0 ≤ 0; omega, by show 0 ≤ _; omega, Nat.le_refl _, Nat.le_refl _, .inl rfl, fun z => (by omega)⟩⟩
        · rw [decide_eq_false (by intro z; cases z)]
          refine iteT ⟨_, rfl, x, dx, _, rfl, r9.ins, rfl, _, rfl, x, dx, S, W, F, l, p0, [], [], [u9], _, rfl, r9, hp0.1, hp0.2, by show 0 ≤ _; omega, by show 0 ≤ _; omega, fun H10 k10 r10 => ?_⟩
          have hm9 : m ≤ 8 := by
            have := hm.le (en_enough (p := p0) (by omega) (by omega) (by omega))
            omega
          refine ⟨[p0], rfl, ex_kp e9 k10 (fun c hc => by rw [List.mem_singleton.mp hc]; exact nS8), r10, ⟨by omega, ht1, htl, by omega, by show 1 ≤ m + 1; omega, by show 1 ≤ 1; omega, Nat.zero_le _, Nat.le_refl _, .inr (.inl ⟨rfl, rfl, rfl⟩), fun _ => ⟨[], p0, m, rfl, hp0, hm, by show 1 + m ≤ m + 1; omega, by omega⟩⟩⟩
      · rintro σ' H10 ⟨st0, rfl, e10, r10, g10⟩
        -- going on
        refine ⟨fun k σ H' => ∃ (turns : Nat) (st : List Int) (ws : List Wo) (us : List Addr) (fs : List (List Int)) (c d : Int) (z9 z10 z11 z12 : Option V), σ = [some (.ref a), some (.ref b), some (.int l), some (.int (n : Nat)), some v, some (.int w), some (.int thing), some (.ref x), some (.int (turns : Nat)), z9, z10, z11, z12] ∧ turns + k = 10 ∧ Ex H8 H' ∧ Sr (SC K) H' x dx S W F l st ws us (fs ++ [rng c (d + 1)]) ∧ Going l thing n st ws fs c d turns,
          ⟨10, 0, st0, [], [u9], [], 1, l, _, _, _, _, rfl, rfl, e10, r10, g10⟩, ?_⟩
        rintro k σ H11 ⟨turns, st, ws, us, fs, c, d, z9, z10, z11, z12, rfl, htk, e11, r11, g11⟩
        have hn9 : n ≤ 10 := by
          rcases id hat with ⟨_, rfl, _⟩ | ⟨hl2, m, p0, rfl, _, _, hm, _, _⟩
          · omega
          · have := hm.le (en_enough (p := p0) (by omega) (by omega) (by omega))
            omega
        have hcd : c ≤ d := by have := g11.ct; have := g11.td; omega
        refine ⟨_, rfl, x, dx, _, rfl, r11.ins, rfl, x, dx, S, W, F, l, st, ws, us, fs, rng c (d + 1), rfl, r11, fun pp hpp => ?_⟩
        refine ⟨pp, _, rfl, .inr (SqT.of hpp), _, 1, rfl, rfl, _, rfl, ite2 (fun hgt => ?_) (fun hgt => ?_)⟩
        · have hlt : c < d := by
            have := of_decide_eq_true hgt
            rw [List.length_map, rng_len] at this
            omega
          obtain ⟨st', here, m, rfl, hhere, hm, hlm, htm⟩ := g11.more hlt
          have hm1 := hm.pos hlt
          refine ⟨_, rfl, _, 30, rfl, rfl, _, rfl, ?_⟩
          rw [decide_eq_true (show ((turns : Nat) : Int) < 30 by omega)]
          refine iteT ⟨fun σ' H' => ∃ (st2 : List Int) (ws2 : List Wo) (us2 : List Addr) (fs2 : List (List Int)) (c2 d2 : Int) (z9 z10 z11 z12 : Option V), σ' = [some (.ref a), some (.ref b), some (.int l), some (.int (n : Nat)), some v, some (.int w), some (.int thing), some (.ref x), some (.int ((turns + 1 : Nat) : Int)), z9, z10, z11, z12] ∧ Ex H8 H' ∧ Sr (SC K) H' x dx S W F l st2 ws2 us2 (fs2 ++ [rng c2 (d2 + 1)]) ∧ Going l thing n st2 ws2 fs2 c2 d2 (turns + 1), ?_, ?_⟩
          · rintro σ' H' ⟨st2, ws2, us2, fs2, c2, d2, w9, w10, w11, w12, rfl, e', r', g'⟩
            exact ⟨k - 1, by omega, turns + 1, st2, ws2, us2, fs2, c2, d2, w9, w10, w11, w12, rfl, by omega, e', r', g'⟩
          · refine ⟨_, rfl, x, dx, _, rfl, r11.ins, rfl, x, dx, S, W, F, l, _, ws, us, fs, rng c (d + 1), rfl, r11, fun pp hpp => ?_⟩
            refine ⟨_, rfl, x, dx, _, rfl, r11.ins, rfl, x, dx, S, W, F, l, _, ws, us, _, rfl, r11, fun sq H12 nsq e12 hsq => ?_⟩
            rw [List.map_append] at hsq
            refine ⟨1, rfl, sq, _, -1, .int here, rfl, rfl, SqL.of hsq, atI_last _ _, _, _, rfl, ?_⟩
            have hpp12 := e12 _ _ hpp
            have r12 := r11.ex e12
            have a0 : atI ((rng c (d + 1)).map V.int) 0 = some (.int c) := by
              rw [rng_cons (by omega)]
              exact at_of (j := 0) rfl rfl
            have a1 : atI ((rng c (d + 1)).map V.int) (-1) = some (.int d) := by
              rw [rng_snoc (by omega), List.map_append]
              exact atI_last _ _
            refine ⟨_, rfl, _, rfl, pp, _, 0, .int c, rfl, rfl, SqT.of hpp12, a0, _, rfl, 1, rfl, pp, _, -1, .int d, rfl, rfl, SqT.of hpp12, a1, by show 2 ≤ sizeLine; decide, fun tt ntt => ?_⟩
            have e13 : Ex H12 (upd H12 tt (.tup [.int c, .int d])) := Ex.new ntt
            refine ⟨_, rfl, l, tt, c, d, here, rfl, by omega, upd_same, g11.c1, hcd, g11.dL, hhere.1, hhere.2, fun H14 u2 n2 v2 e14 ht2 hu2 => ?_⟩
            have r14 := (r12.ex e13).ex e14
            have e814 : Ex H8 H14 := ((e11.trans e12).trans e13).trans e14
            have en2 : n2 = m := ht2.least.inj hm
            subst en2
            rcases id ht2 with ⟨z, _⟩ | ⟨_, _, q', rfl, hq', hne, hg, _⟩
            · omega
            refine ⟨u2, _, rfl, SqT.of hu2, rfl, _, _, rfl, _, [], rfl, rfl, ?_⟩
            refine ⟨_, rfl, x, dx, _, rfl, r14.ins, x, dx, S, W, F, l, _, ws, us, _, rfl, r14, _, rfl, by omega, by have := g11.len; omega, ?_⟩
            refine ⟨_, rfl, _, _, rfl, rfl, _, rfl, _, _, rfl, rfl, _, rfl, ?_⟩
            rw [decide_eq_false (show ¬ ((n : Nat) : Int) < (((st' ++ [here]).length : Nat) : Int) + ((n2 : Nat) : Int) by omega)]
            refine iteF ?_
            refine ⟨_, rfl, x, dx, _, rfl, r14.ins, rfl, _, rfl, x, dx, S, W, F, l, q', _, ws, us, _, rfl, r14, hq'.1, hq'.2, g11.wl, by have := g11.len; omega, fun H15 k15 r15 => ?_⟩
            have e815 : Ex H8 H15 := ex_kp e814 k15 (fun c hc => by rw [List.mem_singleton.mp hc]; exact nS8)
            have est : st' ++ [here] ++ [q'] = st' ++ [here, q'] := by rw [List.append_assoc]; rfl
            rw [est] at r15
            have hwl := g11.wl
            have hwl2 := g11.wl2
            have hfl := g11.fl
            have hln := g11.len
            rw [List.length_append] at hwl hln
            have hwl' : st'.length + 1 ≤ ws.length + 1 := hwl
            have hln' : st'.length + 1 ≤ n := hln
            -- what is left
            obtain ⟨c2, d2, hcut, hc2, hd2⟩ := cut_of (p := here) (q := q') (w := mv thing here q') g11.ct g11.td rfl
            have hlist := hcut.list
            have hw15 : ws.length ≤ st'.length := by
              rw [List.length_append] at hwl2
              exact hwl2
            refine ⟨_, rfl, x, dx, _, rfl, r15.ins, rfl, _, rfl, _, rfl, thing, here, rfl, rfl, _, rfl, _, rfl, _, rfl, thing, q', rfl, rfl, _, rfl, _, _, rfl, ?_⟩
            have hne2 : ((rng c (d + 1)).filter fun t => decide (mv t here q' = mv thing here q')) ≠ [] := fun z => by
              have : thing ∈ (rng c (d + 1)).filter fun t => decide (mv t here q' = mv thing here q') := List.mem_filter.mpr ⟨mem_rng.mpr ⟨g11.ct, by have := g11.td; omega⟩, decide_eq_true rfl⟩
              rw [z] at this
              cases this
            refine ⟨x, dx, S, W, F, l, here, q', mv thing here q', st', ws, us, fs, rng c (d + 1), rfl, r15, by omega, by omega, by omega, by rw [rng_len]; have := g11.c1; have := g11.dL; omega, hne2, fun H16 u16 k16 r16 => ?_⟩
            have e816 : Ex H8 H16 := ex_kp e815 k16 (fun y hy => by
              rcases List.mem_cons.mp hy with rfl | hy
              · exact nW8
              · rw [List.mem_singleton.mp hy]
                exact nF8)
            have efl : ((rng c (d + 1)).filter fun t => decide (mv t here q' = mv thing here q')) = rng c2 (d2 + 1) := hlist
            rw [efl] at r16
            have hsub := hcut.sub
            have hen : En false l (n2 - 1) c2 d2 q' := hg.2 _ c2 d2 hcut
            obtain ⟨m2, hm2, hm2l⟩ := least_of _ hen
            refine ⟨_, rfl, _, 1, rfl, rfl, ?_⟩
            refine ⟨st' ++ [here, q'], ws ++ [mv thing here q'], us ++ [u16], fs ++ [rng c (d + 1)], c2, d2, _, _, _, _, rfl, e816, r16, ⟨?_, hc2, hd2, ?_, ?_, ?_, ?_, ?_, ?_, ?_⟩⟩
            · have := g11.c1
              omega
            · have := g11.dL
              omega
            · rw [List.length_append]
              show st'.length + 2 ≤ n
              rw [List.length_append] at hlm
              have hlm' : st'.length + 1 + n2 ≤ n := hlm
              omega
            · rw [List.length_append, List.length_append]
              show st'.length + 2 ≤ ws.length + 1 + 1
              omega
            · rw [List.length_append, List.length_append]
              show ws.length + 1 ≤ st'.length + 2 - 1
              omega
            · rw [List.length_append, List.length_append]
              show fs.length + 1 ≤ ws.length + 1
              omega
            · refine .inr (.inr ?_)
              rw [List.length_append]
              show 2 ≤ st'.length + 2
              omega
            · intro _
              refine ⟨st' ++ [here], q', m2, est.symm, hq', hm2l, ?_, by omega⟩
              rw [List.length_append] at hlm ⊢
              have hlm' : st'.length + 1 + n2 ≤ n := hlm
              show st'.length + 2 + m2 ≤ n
              omega
        · have hcd2 : c = d := by
            have : ¬ c < d := fun z => hgt (decide_eq_true (by rw [List.length_map, rng_len]; omega))
            omega
          have hct : c = thing := by
            have := g11.ct
            have := g11.td
            omega
          subst hcd2
          subst hct
          have er : rng c (c + 1) = [c] := by
            rw [rng_cons (by omega), rng_nil (by omega)]
          rw [er] at r11
          refine ⟨_, rfl, x, dx, _, rfl, r11.ins, rfl, x, dx, S, W, F, l, st, ws, us, fs, [c], rfl, r11, fun pp hpp => ?_⟩
          refine ⟨_, rfl, by show 1 ≤ sizeLine; decide, fun tt ntt => ?_⟩
          have e12 : Ex H11 (upd H11 tt (.tup [.int c])) := Ex.new ntt
          refine neTT (ns := [c]) (ms := [c]) (SqT.of (e12 _ _ hpp)) (SqT.of upd_same) ⟨_, rfl, ?_⟩
          rw [decide_eq_true rfl]
          have r12 := r11.ex e12
          generalize upd H11 tt (.tup [.int c]) = H12 at e12 r12 ⊢
          have hln := g11.len
          refine iteF ⟨_, rfl, x, dx, _, rfl, r12.ins, x, dx, S, W, F, l, st, ws, us, _, rfl, r12, _, rfl, by omega, by omega, ?_⟩
          refine ⟨_, rfl, _, _, rfl, rfl, _, rfl, ?_⟩
          rw [decide_eq_false (show ¬ ((n : Nat) : Int) < ((st.length : Nat) : Int) by omega)]
          refine iteF ?_
          refine ⟨_, rfl, _, rfl, x, dx, _, rfl, r12.ins, x, dx, S, W, F, l, st, ws, us, _, rfl, r12, _, rfl, by omega, by omega, ?_⟩
          refine ⟨_, _, rfl, ?_⟩
          refine ⟨_, _, _, _, _, _, _, _, rfl, (e8.trans e11).trans e12, ?_, fun hl4 => ?_⟩
          · split <;> omega
          · rw [if_neg (Nat.succ_ne_zero i)]
            have hwv := hw hl4
            have hsl : (st.length : Int) = (n : Int) := by
              rcases g11.two with z | ⟨z1, z2, _⟩ | z
              · rcases id hat with ⟨_, rfl, _⟩ | ⟨hl2, _⟩
                · omega
                · omega
              · rcases id hat with ⟨_, rfl, _⟩ | ⟨hl2, _⟩
                · omega
                · omega
              · have h2l : 2 ≤ l := by
                  rcases id hat with ⟨_, rfl, _⟩ | ⟨hl2, _⟩
                  · omega
                  · exact hl2
                have := atall_two hat h2l hl4
                omega
            rw [hwv, hsl]
            repeat' split
            all_goals omega
    · rintro σ H8 ⟨w, y6, y7, y8, y9, y10, y11, y12, rfl, e8, hw0, hw⟩
      refine ⟨_, rfl, l, 4, rfl, rfl, _, rfl, ite2 (fun hl4 => ?_) (fun hl4 => ?_)⟩
      · have hl4 := of_decide_eq_true hl4
        have ew := hw hl4
        rw [if_neg (by omega)] at ew
        subst ew
        refine ⟨_, rfl, _, rfl, rfl, _, rfl, ?_⟩
        rw [decide_eq_true rfl]
        exact iteF ⟨_, _, _, _, _, _, _, _, _, _, _, _, rfl, k17'.trans (Kp.ex e8), B7.ex e8⟩
      · exact ⟨_, _, _, _, _, _, _, _, _, _, _, _, rfl, k17'.trans (Kp.ex e8), B7.ex e8⟩
  · rintro σ H2 ⟨x1, x2, x3, x4, x5, x6, x7, x8, x9, x10, x11, x12, rfl, k2, B2⟩
    exact q _
theorem len_law {K : PySem.W.Frag} {vs : List V} {H : Hp} {Q : VK} {E : XK} (h : sp_law K vs H Q E) : vs.length = 1 := by
  obtain ⟨a, ns, rfl, _⟩ := h
  rfl
def topS (i : Nat) : Stmt := PySem.Challenge.pw_warmcold_k14_whole_searches_by_told_plac.main.body.getD i (.Pass ⟨0, 0, 0, 0⟩)
def clsS (i j : Nat) : Stmt := match topS i with
  | .ClassDef _ _ _ b _ _ _ _ _ _ _ => b.getD j (.Pass ⟨0, 0, 0, 0⟩)
  | _ => .Pass ⟨0, 0, 0, 0⟩
abbrev s_is_whole : Stmt := topS 14
theorem sc_is_whole : FnScope N_is_whole ["value"] (defScope s_is_whole) := ⟨rfl, rfl, rfl, by decide +kernel, rfl, by decide +kernel, by decide +kernel⟩
abbrev s_is_place : Stmt := topS 15
theorem sc_is_place : FnScope N_is_place ["value", "length"] (defScope s_is_place) := ⟨rfl, rfl, rfl, by decide +kernel, rfl, by decide +kernel, by decide +kernel⟩
abbrev s_is_word : Stmt := topS 16
theorem sc_is_word : FnScope N_is_word ["value"] (defScope s_is_word) := ⟨rfl, rfl, rfl, by decide +kernel, rfl, by decide +kernel, by decide +kernel⟩
abbrev s_check_length : Stmt := topS 17
theorem sc_check_length : FnScope N_check_length ["length"] (defScope s_check_length) := ⟨rfl, rfl, rfl, by decide +kernel, rfl, by decide +kernel, by decide +kernel⟩
abbrev s_check_going_length : Stmt := topS 18
theorem sc_check_going_length : FnScope N_check_going_length ["length"] (defScope s_check_going_length) := ⟨rfl, rfl, rfl, by decide +kernel, rfl, by decide +kernel, by decide +kernel⟩
abbrev s_check_place : Stmt := topS 19
theorem sc_check_place : FnScope N_check_place ["place", "length"] (defScope s_check_place) := ⟨rfl, rfl, rfl, by decide +kernel, rfl, by decide +kernel, by decide +kernel⟩
abbrev s_check_answer : Stmt := topS 20
theorem sc_check_answer : FnScope N_check_answer ["word"] (defScope s_check_answer) := ⟨rfl, rfl, rfl, by decide +kernel, rfl, by decide +kernel, by decide +kernel⟩
abbrev s_check_stretch : Stmt := topS 21
theorem sc_check_stretch : FnScope N_check_stretch ["stretch", "length"] (defScope s_check_stretch) := ⟨rfl, rfl, rfl, by decide +kernel, rfl, by decide +kernel, by decide +kernel⟩
abbrev s_word_for : Stmt := topS 23
theorem sc_word_for : FnScope N_word_for ["before", "after"] (defScope s_word_for) := ⟨rfl, rfl, rfl, by decide +kernel, rfl, by decide +kernel, by decide +kernel⟩
abbrev s_answer_to_move : Stmt := topS 24
theorem sc_answer_to_move : FnScope N_answer_to_move ["thing", "earlier", "later"] (defScope s_answer_to_move) := ⟨rfl, rfl, rfl, by decide +kernel, rfl, by decide +kernel, by decide +kernel⟩
abbrev s_Search___init__ : Stmt := clsS 26 0
theorem sc_Search___init__ : FnScope N_Search___init__ ["self", "length"] (defScope s_Search___init__) := ⟨rfl, rfl, rfl, by decide +kernel, rfl, by decide +kernel, by decide +kernel⟩
abbrev s_Search_stand : Stmt := clsS 26 1
theorem sc_Search_stand : FnScope N_Search_stand ["self", "place"] (defScope s_Search_stand) := ⟨rfl, rfl, rfl, by decide +kernel, rfl, by decide +kernel, by decide +kernel⟩
abbrev s_Search_answer : Stmt := clsS 26 2
theorem sc_Search_answer : FnScope N_Search_answer ["self", "word"] (defScope s_Search_answer) := ⟨rfl, rfl, rfl, by decide +kernel, rfl, by decide +kernel, by decide +kernel⟩
abbrev s_Search_stands : Stmt := clsS 26 4
theorem sc_Search_stands : FnScope N_Search_stands ["self"] (defScope s_Search_stands) := ⟨rfl, rfl, rfl, by decide +kernel, rfl, by decide +kernel, by decide +kernel⟩
abbrev s_Search_can_lie : Stmt := clsS 26 6
theorem sc_Search_can_lie : FnScope N_Search_can_lie ["self"] (defScope s_Search_can_lie) := ⟨rfl, rfl, rfl, by decide +kernel, rfl, by decide +kernel, by decide +kernel⟩
abbrev s_Search_waits : Stmt := clsS 26 7
theorem sc_Search_waits : FnScope N_Search_waits ["self"] (defScope s_Search_waits) := ⟨rfl, rfl, rfl, by decide +kernel, rfl, by decide +kernel, by decide +kernel⟩
abbrev s_Search___len__ : Stmt := clsS 26 8
theorem sc_Search___len__ : FnScope N_Search___len__ ["self"] (defScope s_Search___len__) := ⟨rfl, rfl, rfl, by decide +kernel, rfl, by decide +kernel, by decide +kernel⟩
abbrev s_parts_of : Stmt := topS 28
theorem sc_parts_of : FnScope N_parts_of ["stretch", "earlier", "later"] (defScope s_parts_of) := ⟨rfl, rfl, rfl, by decide +kernel, rfl, by decide +kernel, by decide +kernel⟩
abbrev s_other_places : Stmt := topS 29
theorem sc_other_places : FnScope N_other_places ["length", "place"] (defScope s_other_places) := ⟨rfl, rfl, rfl, by decide +kernel, rfl, by decide +kernel, by decide +kernel⟩
abbrev s_stands_are_enough : Stmt := topS 30
theorem sc_stands_are_enough : FnScope N_stands_are_enough ["length", "stretch", "place", "many", "known"] (defScope s_stands_are_enough) := ⟨rfl, rfl, rfl, by decide +kernel, rfl, by decide +kernel, by decide +kernel⟩
abbrev s_first_onward : Stmt := topS 31
theorem sc_first_onward : FnScope N_first_onward ["length", "stretch", "place", "many", "known"] (defScope s_first_onward) := ⟨rfl, rfl, rfl, by decide +kernel, rfl, by decide +kernel, by decide +kernel⟩
abbrev s_stands_from : Stmt := topS 32
theorem sc_stands_from : FnScope N_stands_from ["length", "stretch", "place"] (defScope s_stands_from) := ⟨rfl, rfl, rfl, by decide +kernel, rfl, by decide +kernel, by decide +kernel⟩
abbrev s_stands_at_all : Stmt := topS 33
theorem sc_stands_at_all : FnScope N_stands_at_all ["length"] (defScope s_stands_at_all) := ⟨rfl, rfl, rfl, by decide +kernel, rfl, by decide +kernel, by decide +kernel⟩
abbrev s__law_cell_at : Stmt := topS 35
theorem sc__law_cell_at : FnScope N__law_cell_at ["script", "k"] (defScope s__law_cell_at) := ⟨rfl, rfl, rfl, by decide +kernel, rfl, by decide +kernel, by decide +kernel⟩
abbrev s__law_draws : Stmt := topS 36
theorem sc__law_draws : FnScope N__law_draws ["cell", "many", "size"] (defScope s__law_draws) := ⟨rfl, rfl, rfl, by decide +kernel, rfl, by decide +kernel, by decide +kernel⟩
abbrev s__law_bag : Stmt := topS 37
theorem sc__law_bag : FnScope N__law_bag ["script", "k"] (defScope s__law_bag) := ⟨rfl, rfl, rfl, by decide +kernel, rfl, by decide +kernel, by decide +kernel⟩
abbrev s__law_bags : Stmt := topS 38
theorem sc__law_bags : FnScope N__law_bags ["script", "limit"] (defScope s__law_bags) := ⟨rfl, rfl, rfl, by decide +kernel, rfl, by decide +kernel, by decide +kernel⟩
abbrev s__law_take : Stmt := topS 39
theorem sc__law_take : FnScope N__law_take ["bag", "many"] (defScope s__law_take) := ⟨rfl, rfl, rfl, by decide +kernel, rfl, by decide +kernel, by decide +kernel⟩
abbrev s__law_word : Stmt := topS 40
theorem sc__law_word : FnScope N__law_word ["far", "near"] (defScope s__law_word) := ⟨rfl, rfl, rfl, by decide +kernel, rfl, by decide +kernel, by decide +kernel⟩
abbrev s_law : Stmt := topS 41
theorem sc_law : FnScope N_law ["script"] (defScope s_law) := ⟨rfl, rfl, rfl, by decide +kernel, rfl, by decide +kernel, by decide +kernel⟩
structure Wd (K : PySem.W.Frag) (mg : Str → Option Value) : Prop where
  T : SrF K
  z_abs : mg "abs" = none
  z_all : mg "all" = none
  z_bool : mg "bool" = none
  z_int : mg "int" = none
  z_isinstance : mg "isinstance" = none
  z_len : mg "len" = none
  z_list : mg "list" = none
  z_max : mg "max" = none
  z_min : mg "min" = none
  z_range : mg "range" = none
  z_str : mg "str" = none
  z_tuple : mg "tuple" = none
  c_LONGEST_GOING : ∃ t, mg "LONGEST_GOING" = some (.int 16 t)
  c_LONGEST_PATH : ∃ t, mg "LONGEST_PATH" = some (.int 60 t)
  c_WORDS : mg "WORDS" = some (.ref (He.ga K "WORDS"))
  q_WORDS : ∀ H, SqT K H (He.ga K "WORDS") [.str "warm", .str "cold", .str "same"]
section
variable {P : Program} {w : World} {K : PySem.W.Frag} {mg : Str → Option Value} {base : Heap}
theorem ok_is_whole {f : Addr} {fd : FuncData} (F : FunD K "is_whole" "is_whole" (defArgs s_is_whole) (defBody s_is_whole) (defScope s_is_whole) [] [] f fd) (W : Wd K mg)  : FnOk P w K mg base CX0 1 f fd ["value"] (sp_is_whole K) := by
  refine F.ok sc_is_whole (fun vs H Q E h => len_is_whole h) (fun cdv A outer s H vs Q E hr h => ⟨t_is_whole K, PSs.nox ?_, pure_is_whole h⟩)
  exact (pss_one (ps_ret (pe_and (pe_callB call_isi (by rfl) W.z_isinstance bb_isinstance (pa_cons (pv 0) (pa_cons (pe_bltn (v := .ty "int") (by rfl) W.z_int bt_int rfl) pa_nil))) (pe_one (pe_not (pe_callB call_isi (by rfl) W.z_isinstance bb_isinstance (pa_cons (pv 0) (pa_cons (pe_bltn (v := .ty "bool") (by rfl) W.z_bool bt_bool rfl) pa_nil))))))))
theorem ok_is_place {f : Addr} {fd : FuncData} (F : FunD K "is_place" "is_place" (defArgs s_is_place) (defBody s_is_place) (defScope s_is_place) [] [] f fd) (W : Wd K mg) (O_is_whole : Own P w K mg base 1 "is_whole" ["value"] (sp_is_whole K)) : FnOk P w K mg base CX0 2 f fd ["value", "length"] (sp_is_place K) := by
  refine F.ok sc_is_place (fun vs H Q E h => len_is_place h) (fun cdv A outer s H vs Q E hr h => ⟨t_is_place K, PSs.nox ?_, pure_is_place h⟩)
  exact (pss_one (ps_ret (pe_and (pe_callO O_is_whole hr (by first | decide | omega) (by rfl) (pa_cons (pv 0) pa_nil)) (pe_one (pe_chain op_le op_le pe_int (pv 0) (pv 1))))))
theorem ok_is_word {f : Addr} {fd : FuncData} (F : FunD K "is_word" "is_word" (defArgs s_is_word) (defBody s_is_word) (defScope s_is_word) [] [] f fd) (W : Wd K mg)  : FnOk P w K mg base CX0 1 f fd ["value"] (sp_is_word K) := by
  refine F.ok sc_is_word (fun vs H Q E h => len_is_word h) (fun cdv A outer s H vs Q E hr h => ⟨t_is_word K, PSs.nox ?_, pure_is_word W.q_WORDS h⟩)
  exact (pss_one (ps_ret (pe_and (pe_callB call_isi (by rfl) W.z_isinstance bb_isinstance (pa_cons (pv 0) (pa_cons (pe_bltn (v := .ty "str") (by rfl) W.z_str bt_str rfl) pa_nil))) (pe_one (pe_cmpR op_in_seq (pv 0) (pe_glob (by rfl) W.c_WORDS rfl) rfl)))))
theorem ok_check_length {f : Addr} {fd : FuncData} (F : FunD K "check_length" "check_length" (defArgs s_check_length) (defBody s_check_length) (defScope s_check_length) [] [] f fd) (W : Wd K mg) (O_is_place : Own P w K mg base 2 "is_place" ["value", "length"] (sp_is_place K)) : FnOk P w K mg base CX0 3 f fd ["length"] (sp_check_length K) := by
  refine F.ok sc_check_length (fun vs H Q E h => len_check_length h) (fun cdv A outer s H vs Q E hr h => ⟨t_check_length K, PSs.nox ?_, pure_check_length h⟩)
  exact (pss_one (ps_if (pt_not (pt_val (pe_callO O_is_place hr (by first | decide | omega) (by rfl) (pa_cons (pv 0) (pa_cons (pe_glob (by rfl) W.c_LONGEST_PATH.choose_spec ⟨_, rfl⟩) pa_nil))))) (pss_one ps_never) pss_nil))
theorem ok_check_going_length {f : Addr} {fd : FuncData} (F : FunD K "check_going_length" "check_going_length" (defArgs s_check_going_length) (defBody s_check_going_length) (defScope s_check_going_length) [] [] f fd) (W : Wd K mg) (O_check_length : Own P w K mg base 3 "check_length" ["length"] (sp_check_length K)) : FnOk P w K mg base CX0 4 f fd ["length"] (sp_check_going_length K) := by
  refine F.ok sc_check_going_length (fun vs H Q E h => len_check_going_length h) (fun cdv A outer s H vs Q E hr h => ⟨t_check_going_length K, PSs.nox ?_, pure_check_going_length h⟩)
  exact (pss_cons (ps_expr (pe_callO O_check_length hr (by first | decide | omega) (by rfl) (pa_cons (pv 0) pa_nil)))   (pss_one (ps_if (pt_cmpR op_gt (pv 0) (pe_glob (by rfl) W.c_LONGEST_GOING.choose_spec ⟨_, rfl⟩) (nomark _)) (pss_one ps_never) pss_nil)))
theorem ok_check_place {f : Addr} {fd : FuncData} (F : FunD K "check_place" "check_place" (defArgs s_check_place) (defBody s_check_place) (defScope s_check_place) [] [] f fd) (W : Wd K mg) (O_is_place : Own P w K mg base 2 "is_place" ["value", "length"] (sp_is_place K)) : FnOk P w K mg base CX0 3 f fd ["place", "length"] (sp_check_place K) := by
  refine F.ok sc_check_place (fun vs H Q E h => len_check_place h) (fun cdv A outer s H vs Q E hr h => ⟨t_check_place K, PSs.nox ?_, pure_check_place h⟩)
  exact (pss_one (ps_if (pt_not (pt_val (pe_callO O_is_place hr (by first | decide | omega) (by rfl) (pa_cons (pv 0) (pa_cons (pv 1) pa_nil))))) (pss_one ps_never) pss_nil))
theorem ok_check_answer {f : Addr} {fd : FuncData} (F : FunD K "check_answer" "check_answer" (defArgs s_check_answer) (defBody s_check_answer) (defScope s_check_answer) [] [] f fd) (W : Wd K mg) (O_is_word : Own P w K mg base 1 "is_word" ["value"] (sp_is_word K)) : FnOk P w K mg base CX0 2 f fd ["word"] (sp_check_answer K) := by
  refine F.ok sc_check_answer (fun vs H Q E h => len_check_answer h) (fun cdv A outer s H vs Q E hr h => ⟨t_check_answer K, PSs.nox ?_, pure_check_answer h⟩)
  exact (pss_one (ps_if (pt_not (pt_val (pe_callO O_is_word hr (by first | decide | omega) (by rfl) (pa_cons (pv 0) pa_nil)))) (pss_one ps_never) pss_nil))
theorem ok_check_stretch {f : Addr} {fd : FuncData} (F : FunD K "check_stretch" "check_stretch" (defArgs s_check_stretch) (defBody s_check_stretch) (defScope s_check_stretch) [] [] f fd) (W : Wd K mg) (O_is_place : Own P w K mg base 2 "is_place" ["value", "length"] (sp_is_place K)) : FnOk P w K mg base CX0 3 f fd ["stretch", "length"] (sp_check_stretch K) := by
  refine F.ok sc_check_stretch (fun vs H Q E h => len_check_stretch h) (fun cdv A outer s H vs Q E hr h => ⟨t_check_stretch K, PSs.nox ?_, pure_check_stretch h⟩)
  exact (pss_cons (ps_if (PW.pt (pw_or (pt_not (pt_val (pe_callB call_isi (by rfl) W.z_isinstance bb_isinstance (pa_cons (pv 0) (pa_cons (pe_bltn (v := .ty "tuple") (by rfl) W.z_tuple bt_tuple rfl) pa_nil))))) (pw_or1 (pt_cmpR op_ne (pe_callB call_len_seq (by rfl) W.z_len PySem.boot_len (pa_cons (pv 0) pa_nil)) pe_int (nomark _))))) (pss_one ps_never) pss_nil)   (pss_cons (ps_asg (pv 0) (pg_tup rfl (pgs_cons (pg_name (i := 2) sc_check_stretch.nd rfl (Or.inl rfl)) (pgs_cons (pg_name (i := 3) sc_check_stretch.nd rfl (Or.inl rfl)) pgs_nil))))   (pss_one (ps_if (PW.pt (pw_or (pt_not (pt_val (pe_callO O_is_place hr (by first | decide | omega) (by rfl) (pa_cons (pv 2) (pa_cons (pv 1) pa_nil))))) (pw_or (pt_not (pt_val (pe_callO O_is_place hr (by first | decide | omega) (by rfl) (pa_cons (pv 3) (pa_cons (pv 1) pa_nil))))) (pw_or1 (pt_cmpR op_gt (pv 2) (pv 3) (nomark _)))))) (pss_one ps_never) pss_nil))))
theorem ok_word_for {f : Addr} {fd : FuncData} (F : FunD K "word_for" "word_for" (defArgs s_word_for) (defBody s_word_for) (defScope s_word_for) [] [] f fd) (W : Wd K mg)  : FnOk P w K mg base CX0 1 f fd ["before", "after"] (sp_word_for K) := by
  refine F.ok sc_word_for (fun vs H Q E h => len_word_for h) (fun cdv A outer s H vs Q E hr h => ⟨t_word_for K, PSs.nox ?_, pure_word_for h⟩)
  exact (pss_cons (ps_if (pt_cmpR op_lt (pv 1) (pv 0) (nomark _)) (pss_one (ps_ret pe_str)) pss_nil)   (pss_cons (ps_if (pt_cmpR op_gt (pv 1) (pv 0) (nomark _)) (pss_one (ps_ret pe_str)) pss_nil)   (pss_one (ps_ret pe_str))))
theorem ok_answer_to_move {f : Addr} {fd : FuncData} (F : FunD K "answer_to_move" "answer_to_move" (defArgs s_answer_to_move) (defBody s_answer_to_move) (defScope s_answer_to_move) [] [] f fd) (W : Wd K mg) (O_word_for : Own P w K mg base 1 "word_for" ["before", "after"] (sp_word_for K)) : FnOk P w K mg base CX0 2 f fd ["thing", "earlier", "later"] (sp_answer_to_move K) := by
  refine F.ok sc_answer_to_move (fun vs H Q E h => len_answer_to_move h) (fun cdv A outer s H vs Q E hr h => ⟨t_answer_to_move K, PSs.nox ?_, pure_answer_to_move h⟩)
  exact (pss_one (ps_ret (pe_callO O_word_for hr (by first | decide | omega) (by rfl) (pa_cons (pe_callB call_abs (by rfl) W.z_abs bb_abs (pa_cons (pe_op op_sub (pv 0) (pv 1)) pa_nil)) (pa_cons (pe_callB call_abs (by rfl) W.z_abs bb_abs (pa_cons (pe_op op_sub (pv 0) (pv 2)) pa_nil)) pa_nil)))))
theorem ok_Search___init__ {f : Addr} {fd : FuncData} (F : FunD K "__init__" "Search.__init__" (defArgs s_Search___init__) (defBody s_Search___init__) (defScope s_Search___init__) [] [] f fd) (W : Wd K mg) (O_check_length : Own P w K mg base 3 "check_length" ["length"] (sp_check_length K)) : FnOk P w K mg base CX0 4 f fd ["self", "length"] (sp_Search___init__ K) := by
  refine F.ok sc_Search___init__ (fun vs H Q E h => len_Search___init__ h) (fun cdv A outer s H vs Q E hr h => ⟨t_Search___init__ K, PSs.nox ?_, pure_Search___init__ W.T h⟩)
  exact (pss_cons (ps_expr (pe_callO O_check_length hr (by first | decide | omega) (by rfl) (pa_cons (pv 1) pa_nil)))   (pss_cons (ps_fld (pv 0) (pv 1) (by rfl))   (pss_cons (ps_fld (pv 0) (pe_lst pa_nil) (by rfl))   (pss_cons (ps_fld (pv 0) (pe_lst pa_nil) (by rfl))   (pss_one (ps_fld (pv 0) (pe_lst (pa_cons (pe_tupRg (by rfl) (by rfl) W.z_tuple (prg_2 (by rfl) W.z_range pe_int (pe_op op_add (pv 1) pe_int))) pa_nil)) (by rfl)))))))
theorem ok_Search_stand {f : Addr} {fd : FuncData} (F : FunD K "stand" "Search.stand" (defArgs s_Search_stand) (defBody s_Search_stand) (defScope s_Search_stand) [] [] f fd) (W : Wd K mg) (O_check_place : Own P w K mg base 3 "check_place" ["place", "length"] (sp_check_place K)) (O_Search_waits : OwnM P w K mg base CX0 1 (He.ga K "Search") "waits" ["self"] (sp_Search_waits K)) : FnOk P w K mg base CX0 4 f fd ["self", "place"] (sp_Search_stand K) := by
  refine F.ok sc_Search_stand (fun vs H Q E h => len_Search_stand h) (fun cdv A outer s H vs Q E hr h => ⟨t_Search_stand K, PSs.nox ?_, pure_Search_stand W.T h⟩)
  exact (pss_cons (ps_expr (pe_callO O_check_place hr (by first | decide | omega) (by rfl) (pa_cons (pv 1) (pa_cons (pe_fld (pv 0) (by rfl)) pa_nil))))   (pss_cons (ps_if (pt_val (pe_methO0 W.T.cl O_Search_waits hr (by first | decide | omega) pass0 (pv 0))) (pss_one ps_never) pss_nil)   (pss_one (ps_expr (pe_bm PySem.F.plainAttrs_list PySem.F.slot_list_append PySem.F.type_list_append mt_append (pe_fld (pv 0) (by rfl)) (pa_cons (pv 1) pa_nil))))))
theorem ok_Search_answer {f : Addr} {fd : FuncData} (F : FunD K "answer" "Search.answer" (defArgs s_Search_answer) (defBody s_Search_answer) (defScope s_Search_answer) [] [] f fd) (W : Wd K mg) (O_check_answer : Own P w K mg base 2 "check_answer" ["word"] (sp_check_answer K)) (O_Search_waits : OwnM P w K mg base CX0 1 (He.ga K "Search") "waits" ["self"] (sp_Search_waits K)) (O_answer_to_move : Own P w K mg base 2 "answer_to_move" ["thing", "earlier", "later"] (sp_answer_to_move K)) : FnOk P w K mg base CX0 3 f fd ["self", "word"] (sp_Search_answer K) := by
  refine F.ok sc_Search_answer (fun vs H Q E h => len_Search_answer h) (fun cdv A outer s H vs Q E hr h => ⟨t_Search_answer K, PSs.nox ?_, pure_Search_answer W.T h⟩)
  exact (pss_cons (ps_expr (pe_callO O_check_answer hr (by first | decide | omega) (by rfl) (pa_cons (pv 1) pa_nil)))   (pss_cons (ps_if (pt_not (pt_val (pe_methO0 W.T.cl O_Search_waits hr (by first | decide | omega) pass0 (pv 0)))) (pss_one ps_never) pss_nil)   (pss_cons (ps_asg (pe_slice sl_list (pe_fld (pv 0) (by rfl)) (po_some (pe_un un_neg pe_int)) po_none) (pg_unl rfl (pgs_cons (pg_name (i := 2) sc_Search_answer.nd rfl (Or.inr rfl)) (pgs_cons (pg_name (i := 3) sc_Search_answer.nd rfl (Or.inr rfl)) pgs_nil))))   (pss_cons (ps_setLc (i := 4) (own := [("place", 5)]) (g := (gName 5)) (tt := (tTest (tOp rEq (tCall (sp_answer_to_move K) [] E0 (tCons (tVar 5) (tCons (tVar 2) (tCons (tVar 3) tNil)))) (tVar 1)))) (by rfl) sc_Search_answer.nd rfl rfl (sw_true rfl rfl rfl (by decide +kernel)) (pi_tup (pe_ix ix_list (pe_fld (pv 0) (by rfl)) (pe_un un_neg pe_int) (fun _ _ => rfl))) (blkOk_by (own := [("place", 5)]) (N := N_Search_answer) (sc := defScope s_Search_answer) (by decide +kernel)) (fun _ _ _ _ _ => (pg_name (i := 5) sc_Search_answer.nd rfl (Or.inl rfl))) (fun _ _ _ _ _ => (pts_one (pt_cmpR op_eq (pe_callO O_answer_to_move hr (by first | decide | omega) (by rfl) (pa_cons (pv 5) (pa_cons (pv 2) (pa_cons (pv 3) pa_nil)))) (pv 1) (nomark _)))) (fun _ _ _ _ _ => (pv 5)))   (pss_cons (ps_if (pt_not (pt_truth (pv 4) (by intro _; rfl))) (pss_one ps_never) pss_nil)   (pss_cons (ps_expr (pe_bm PySem.F.plainAttrs_list PySem.F.slot_list_append PySem.F.type_list_append mt_append (pe_fld (pv 0) (by rfl)) (pa_cons (pv 1) pa_nil)))   (pss_one (ps_expr (pe_bm PySem.F.plainAttrs_list PySem.F.slot_list_append PySem.F.type_list_append mt_append (pe_fld (pv 0) (by rfl)) (pa_cons (pe_callTy call_tuple_of (by rfl) W.z_tuple bt_tuple (pa_cons (pv 4) pa_nil)) pa_nil))))))))))
theorem ok_Search_stands {f : Addr} {fd : FuncData} (F : FunD K "stands" "Search.stands" (defArgs s_Search_stands) (defBody s_Search_stands) (defScope s_Search_stands) [] [] f fd) (W : Wd K mg)  : FnOk P w K mg base CX0 1 f fd ["self"] (sp_Search_stands K) := by
  refine F.ok sc_Search_stands (fun vs H Q E h => len_Search_stands h) (fun cdv A outer s H vs Q E hr h => ⟨t_Search_stands K, PSs.nox ?_, pure_Search_stands W.T h⟩)
  exact (pss_one (ps_ret (pe_callTy call_list_of (by rfl) W.z_list bt_list (pa_cons (pe_fld (pv 0) (by rfl)) pa_nil))))
theorem ok_Search_can_lie {f : Addr} {fd : FuncData} (F : FunD K "can_lie" "Search.can_lie" (defArgs s_Search_can_lie) (defBody s_Search_can_lie) (defScope s_Search_can_lie) [] [] f fd) (W : Wd K mg)  : FnOk P w K mg base CX0 1 f fd ["self"] (sp_Search_can_lie K) := by
  refine F.ok sc_Search_can_lie (fun vs H Q E h => len_Search_can_lie h) (fun cdv A outer s H vs Q E hr h => ⟨t_Search_can_lie K, PSs.nox ?_, pure_Search_can_lie W.T h⟩)
  exact (pss_one (ps_ret (pe_ix ix_list (pe_fld (pv 0) (by rfl)) (pe_un un_neg pe_int) (fun _ _ => rfl))))
theorem ok_Search_waits {f : Addr} {fd : FuncData} (F : FunD K "waits" "Search.waits" (defArgs s_Search_waits) (defBody s_Search_waits) (defScope s_Search_waits) [] [] f fd) (W : Wd K mg)  : FnOk P w K mg base CX0 1 f fd ["self"] (sp_Search_waits K) := by
  refine F.ok sc_Search_waits (fun vs H Q E h => len_Search_waits h) (fun cdv A outer s H vs Q E hr h => ⟨t_Search_waits K, PSs.nox ?_, pure_Search_waits W.T h⟩)
  exact (pss_one (ps_ret (pe_cmpR op_gt (pe_callB call_len_seq (by rfl) W.z_len PySem.boot_len (pa_cons (pe_fld (pv 0) (by rfl)) pa_nil)) (pe_op op_add (pe_callB call_len_seq (by rfl) W.z_len PySem.boot_len (pa_cons (pe_fld (pv 0) (by rfl)) pa_nil)) pe_int) (nomark _))))
theorem ok_Search___len__ {f : Addr} {fd : FuncData} (F : FunD K "__len__" "Search.__len__" (defArgs s_Search___len__) (defBody s_Search___len__) (defScope s_Search___len__) [] [] f fd) (W : Wd K mg)  : FnOk P w K mg base CX0 1 f fd ["self"] (sp_Search___len__ K) := by
  refine F.ok sc_Search___len__ (fun vs H Q E h => len_Search___len__ h) (fun cdv A outer s H vs Q E hr h => ⟨t_Search___len__ K, PSs.nox ?_, pure_Search___len__ W.T h⟩)
  exact (pss_one (ps_ret (pe_callB call_len_seq (by rfl) W.z_len PySem.boot_len (pa_cons (pe_fld (pv 0) (by rfl)) pa_nil))))
theorem ok_parts_of {f : Addr} {fd : FuncData} (F : FunD K "parts_of" "parts_of" (defArgs s_parts_of) (defBody s_parts_of) (defScope s_parts_of) [] [] f fd) (W : Wd K mg)  : FnOk P w K mg base CX0 1 f fd ["stretch", "earlier", "later"] (sp_parts_of K) := by
  refine F.ok sc_parts_of (fun vs H Q E h => len_parts_of h) (fun cdv A outer s H vs Q E hr h => ⟨t_parts_of K, PSs.nox ?_, pure_parts_of h⟩)
  exact (pss_cons (ps_asg (pv 0) (pg_tup rfl (pgs_cons (pg_name (i := 3) sc_parts_of.nd rfl (Or.inl rfl)) (pgs_cons (pg_name (i := 4) sc_parts_of.nd rfl (Or.inl rfl)) pgs_nil))))   (pss_cons (ps_set (i := 5) sc_parts_of.nd rfl (Or.inl rfl) (pe_op op_add (pv 1) (pv 2)))   (pss_cons (ps_set (i := 6) sc_parts_of.nd rfl (Or.inl rfl) (pe_tup (pa_cons (pv 3) (pa_cons (pe_callB (call_min2 rfl) (by rfl) W.z_min bb_min (pa_cons (pv 4) (pa_cons (pe_op op_fdiv (pe_op op_sub (pv 5) pe_int) pe_int) pa_nil))) pa_nil))))   (pss_cons (ps_set (i := 7) sc_parts_of.nd rfl (Or.inl rfl) (pe_tup (pa_cons (pe_callB (call_max2 rfl) (by rfl) W.z_max bb_max (pa_cons (pv 3) (pa_cons (pe_op op_fdiv (pe_op op_add (pv 5) pe_int) pe_int) pa_nil))) (pa_cons (pe_callB (call_min2 rfl) (by rfl) W.z_min bb_min (pa_cons (pv 4) (pa_cons (pe_op op_fdiv (pv 5) pe_int) pa_nil))) pa_nil))))   (pss_cons (ps_set (i := 8) sc_parts_of.nd rfl (Or.inl rfl) (pe_tup (pa_cons (pe_callB (call_max2 rfl) (by rfl) W.z_max bb_max (pa_cons (pv 3) (pa_cons (pe_op op_add (pe_op op_fdiv (pv 5) pe_int) pe_int) pa_nil))) (pa_cons (pv 4) pa_nil))))   (pss_one (ps_ret (pe_lc (own := [("part", 9)]) (g := (gName 9)) (tt := (tTest (tOp (rI0 fun i j => .bl (decide (i ≤ j))) (tOp (rIxT K) (tVar 9) (tC (.int 0))) (tOp (rIxT K) (tVar 9) (tC (.int 1)))))) (by rfl) sc_parts_of.nd (pi_tup (pe_tup (pa_cons (pv 6) (pa_cons (pv 7) (pa_cons (pv 8) pa_nil))))) (blkOk_by (own := [("part", 9)]) (N := N_parts_of) (sc := defScope s_parts_of) (by decide +kernel)) (fun _ _ _ _ _ => (pg_name (i := 9) sc_parts_of.nd rfl (Or.inl rfl))) (fun _ _ _ _ _ => (pts_one (pt_cmpR op_le (pe_ix ix_tup (pv 9) pe_int (fun _ _ => rfl)) (pe_ix ix_tup (pv 9) pe_int (fun _ _ => rfl)) (nomark _)))) (fun _ _ _ _ _ => (pv 9))))))))))
theorem ok_other_places {f : Addr} {fd : FuncData} (F : FunD K "other_places" "other_places" (defArgs s_other_places) (defBody s_other_places) (defScope s_other_places) [] [] f fd) (W : Wd K mg)  : FnOk P w K mg base CX0 1 f fd ["length", "place"] (sp_other_places K) := by
  refine F.ok sc_other_places (fun vs H Q E h => len_other_places h) (fun cdv A outer s H vs Q E hr h => ⟨t_other_places K, PSs.nox ?_, pure_other_places h⟩)
  exact (pss_one (ps_ret (pe_lc (own := [("other", 2)]) (g := (gName 2)) (tt := (tTest (tOp rNe (tVar 2) (tVar 1)))) (by rfl) sc_other_places.nd (pi_range2 (by rfl) W.z_range (pa_cons pe_int (pa_cons (pe_op op_add (pv 0) pe_int) pa_nil))) (blkOk_by (own := [("other", 2)]) (N := N_other_places) (sc := defScope s_other_places) (by decide +kernel)) (fun _ _ _ _ _ => (pg_name (i := 2) sc_other_places.nd rfl (Or.inl rfl))) (fun _ _ _ _ _ => (pts_one (pt_cmpR op_ne (pv 2) (pv 1) (nomark _)))) (fun _ _ _ _ _ => (pv 2)))))
theorem ok_stands_are_enough {N : Nat} {f : Addr} {fd : FuncData} (F : FnP K "stands_are_enough" s_stands_are_enough f fd) (W : Wd K mg)  (O_first_onward : Own P w K mg base (1 + 2 + 2 * N) "first_onward" ["length", "stretch", "place", "many", "known"] (sp_first_onward K P w N)) : FnOk P w K mg base CX0 ((1 + 2 + 2 * N) + 1) f fd ["length", "stretch", "place", "many", "known"] (sp_stands_are_enough K P w (N + 1)) := by
  refine F.ok sc_stands_are_enough (fun vs H Q E h => len_stands_are_enough h) (fun cdv A outer s H vs Q E hr h => ⟨t_stands_are_enough K P w N, PSs.nox ?_, pure_stands_are_enough h⟩)
  exact (pss_cons (ps_asg (pv 1) (pg_tup rfl (pgs_cons (pg_name (i := 5) sc_stands_are_enough.nd rfl (Or.inl rfl)) (pgs_cons (pg_name (i := 6) sc_stands_are_enough.nd rfl (Or.inl rfl)) pgs_nil))))   (pss_cons (ps_if (pt_cmpR op_eq (pv 5) (pv 6) (nomark _)) (pss_one (ps_ret pe_bl)) pss_nil)   (pss_cons (ps_if (pt_cmpR op_ge (pe_op op_add (pe_op op_sub (pv 6) (pv 5)) pe_int) (pe_op op_shl pe_int (pv 3)) (nomark _)) (pss_one (ps_ret pe_bl)) pss_nil)   (pss_cons (ps_set (i := 7) sc_stands_are_enough.nd rfl (Or.inl rfl) (pe_tup (pa_cons (pv 5) (pa_cons (pv 6) (pa_cons (pv 2) (pa_cons (pv 3) pa_nil))))))   (Evl.pss_cut (ps_if (pt_cmpR (Fl.op_notInN (units65 hr)) (pv 7) (pv 4) rfl) (pss_one (Fl.ps_nput (units65 hr) (pv 4) (pv 7) (pe_cmpR op_notN (pe_callO O_first_onward hr (by first | decide | omega) (by rfl) (pa_cons (pv 0) (pa_cons (pv 1) (pa_cons (pv 2) (pa_cons (pv 3) (pa_cons (pv 4) pa_nil)))))) pe_non (nomark _)) (by rfl))) pss_nil)   (pss_one (ps_ret (Fl.pe_nget (units65 hr) (pv 4) (pv 7) (fun _ _ => rfl)))))))))
theorem ok0_stands_are_enough {f : Addr} {fd : FuncData} (F : FnP K "stands_are_enough" s_stands_are_enough f fd) : FnOk P w K mg base CX0 (1 + 1) f fd ["length", "stretch", "place", "many", "known"] (sp_stands_are_enough K P w 0) := F.ok sc_stands_are_enough (fun vs H Q E h => len_stands_are_enough h) (fun cdv A outer s H vs Q E hr h => (no_stands_are_enough h).elim)
theorem ok_first_onward {N : Nat} {f : Addr} {fd : FuncData} (F : FnP K "first_onward" s_first_onward f fd) (W : Wd K mg) (O_other_places : Own P w K mg base 1 "other_places" ["length", "place"] (sp_other_places K)) (O_parts_of : Own P w K mg base 1 "parts_of" ["stretch", "earlier", "later"] (sp_parts_of K)) (O_stands_are_enough : Own P w K mg base (1 + 1 + 2 * N) "stands_are_enough" ["length", "stretch", "place", "many", "known"] (sp_stands_are_enough K P w N)) : FnOk P w K mg base CX0 ((1 + 1 + 2 * N) + 1) f fd ["length", "stretch", "place", "many", "known"] (sp_first_onward K P w N) := by
  refine F.ok sc_first_onward (fun vs H Q E h => len_first_onward h) (fun cdv A outer s H vs Q E hr h => ⟨t_first_onward K P w N, PSs.nox ?_, pure_first_onward h⟩)
  exact (pss_cons (ps_for PassesOwn.never rfl (pi_list (pe_callO O_other_places hr (by first | decide | omega) (by rfl) (pa_cons (pv 0) (pa_cons (pv 2) pa_nil)))) (pg_name (i := 5) sc_first_onward.nd rfl (Or.inr rfl)) (pss_cons (ps_set (i := 6) sc_first_onward.nd rfl (Or.inl rfl) (pe_callO O_parts_of hr (by first | decide | omega) (by rfl) (pa_cons (pv 1) (pa_cons (pv 2) (pa_cons (pv 5) pa_nil)))))   (pss_one (ps_if (pt_val (pe_callB (cr_all rfl) (by rfl) W.z_all bb_all (pa_cons (pe_lc (own := [("part", 7)]) (g := (gName 7)) (tt := tYes) (by rfl) sc_first_onward.nd (pi_list (pv 6)) (blkOk_by (own := [("part", 7)]) (N := N_first_onward) (sc := defScope s_first_onward) (by decide +kernel)) (fun _ _ _ _ _ => (pg_name (i := 7) sc_first_onward.nd rfl (Or.inl rfl))) (fun _ _ _ _ _ => pts_nil) (fun _ _ _ _ _ => (pe_callO O_stands_are_enough hr (by first | decide | omega) (by rfl) (pa_cons (pv 0) (pa_cons (pv 7) (pa_cons (pv 5) (pa_cons (pe_op op_sub (pv 3) pe_int) (pa_cons (pv 4) pa_nil)))))))) pa_nil))) (pss_one (ps_ret (pv 5))) pss_nil))))   (pss_one (ps_ret pe_non)))
theorem ok_stands_from {f : Addr} {fd : FuncData} (F : FunD K "stands_from" "stands_from" (defArgs s_stands_from) (defBody s_stands_from) (defScope s_stands_from) [] [] f fd) (W : Wd K mg) (O_check_going_length : Own P w K mg base 4 "check_going_length" ["length"] (sp_check_going_length K)) (O_check_stretch : Own P w K mg base 3 "check_stretch" ["stretch", "length"] (sp_check_stretch K)) (O_check_place : Own P w K mg base 3 "check_place" ["place", "length"] (sp_check_place K)) (O_stands_are_enough : Own P w K mg base 82 "stands_are_enough" ["length", "stretch", "place", "many", "known"] (sp_stands_are_enough K P w 40)) (O_first_onward : Own P w K mg base 83 "first_onward" ["length", "stretch", "place", "many", "known"] (sp_first_onward K P w 40)) : FnOk P w K mg base CX0 84 f fd ["length", "stretch", "place"] (sp_stands_from K) := by
  refine F.ok sc_stands_from (fun vs H Q E h => len_stands_from h) (fun cdv A outer s H vs Q E hr h => ⟨t_stands_from K P w, PSs.nox ?_, pure_stands_from h⟩)
  exact (pss_cons (ps_expr (pe_callO O_check_going_length hr (by first | decide | omega) (by rfl) (pa_cons (pv 0) pa_nil)))   (pss_cons (ps_expr (pe_callO O_check_stretch hr (by first | decide | omega) (by rfl) (pa_cons (pv 1) (pa_cons (pv 0) pa_nil))))   (pss_cons (ps_expr (pe_callO O_check_place hr (by first | decide | omega) (by rfl) (pa_cons (pv 2) (pa_cons (pv 0) pa_nil))))   (pss_cons (ps_set (i := 3) sc_stands_from.nd rfl (Or.inl rfl) Fl.pe_nnew)   (pss_cons (ps_set (i := 4) sc_stands_from.nd rfl (Or.inl rfl) pe_int)   (pss_cons (ps_while PassesOwn.never (pt_not (pt_val (pe_callO O_stands_are_enough hr (by first | decide | omega) (by rfl) (pa_cons (pv 0) (pa_cons (pv 1) (pa_cons (pv 2) (pa_cons (pv 4) (pa_cons (pv 3) pa_nil)))))))) (pss_one (ps_aug (i := 4) sc_stands_from.nd rfl (Or.inl rfl) pe_int ip_add)))   (pss_cons (ps_if (pt_cmpR op_eq (pv 4) pe_int (nomark _)) (pss_one (ps_ret (pe_tup (pa_cons pe_int (pa_cons pe_non pa_nil))))) pss_nil)   (pss_one (ps_ret (pe_tup (pa_cons (pv 4) (pa_cons (pe_callO O_first_onward hr (by first | decide | omega) (by rfl) (pa_cons (pv 0) (pa_cons (pv 1) (pa_cons (pv 2) (pa_cons (pv 4) (pa_cons (pv 3) pa_nil)))))) pa_nil))))))))))))
theorem ok_stands_at_all {f : Addr} {fd : FuncData} (F : FunD K "stands_at_all" "stands_at_all" (defArgs s_stands_at_all) (defBody s_stands_at_all) (defScope s_stands_at_all) [] [] f fd) (W : Wd K mg) (O_check_going_length : Own P w K mg base 4 "check_going_length" ["length"] (sp_check_going_length K)) (O_stands_are_enough : Own P w K mg base 82 "stands_are_enough" ["length", "stretch", "place", "many", "known"] (sp_stands_are_enough K P w 40)) : FnOk P w K mg base CX0 83 f fd ["length"] (sp_stands_at_all K) := by
  refine F.ok sc_stands_at_all (fun vs H Q E h => len_stands_at_all h) (fun cdv A outer s H vs Q E hr h => ⟨t_stands_at_all K P w, PSs.nox ?_, pure_stands_at_all h⟩)
  exact (pss_cons (ps_expr (pe_callO O_check_going_length hr (by first | decide | omega) (by rfl) (pa_cons (pv 0) pa_nil)))   (pss_cons (ps_if (pt_cmpR op_eq (pv 0) pe_int (nomark _)) (pss_one (ps_ret (pe_tup (pa_cons pe_int (pa_cons pe_non pa_nil))))) pss_nil)   (pss_cons (ps_set (i := 1) sc_stands_at_all.nd rfl (Or.inl rfl) Fl.pe_nnew)   (pss_cons (ps_set (i := 2) sc_stands_at_all.nd rfl (Or.inl rfl) pe_int)   (pss_one (ps_while PassesOwn.never (pt_val pe_bl) (pss_cons (ps_aug (i := 2) sc_stands_at_all.nd rfl (Or.inl rfl) pe_int ip_add)   (pss_one (ps_for PassesOwn.never rfl (pi_range2 (by rfl) W.z_range (pa_cons pe_int (pa_cons (pe_op op_add (pv 0) pe_int) pa_nil))) (pg_name (i := 3) sc_stands_at_all.nd rfl (Or.inl rfl)) (pss_one (ps_if (pt_val (pe_callO O_stands_are_enough hr (by first | decide | omega) (by rfl) (pa_cons (pv 0) (pa_cons (pe_tup (pa_cons pe_int (pa_cons (pv 0) pa_nil))) (pa_cons (pv 3) (pa_cons (pv 2) (pa_cons (pv 1) pa_nil))))))) (pss_one (ps_ret (pe_tup (pa_cons (pe_op op_add (pv 2) pe_int) (pa_cons (pv 3) pa_nil))))) pss_nil)))))))))))
theorem ok__law_cell_at {f : Addr} {fd : FuncData} (F : FunD K "_law_cell_at" "_law_cell_at" (defArgs s__law_cell_at) (defBody s__law_cell_at) (defScope s__law_cell_at) [] [] f fd) (W : Wd K mg)  : FnOk P w K mg base CX0 1 f fd ["script", "k"] (sp__law_cell_at K) := by
  refine F.ok sc__law_cell_at (fun vs H Q E h => len__law_cell_at h) (fun cdv A outer s H vs Q E hr h => ⟨t__law_cell_at K, PSs.nox ?_, pure__law_cell_at h⟩)
  exact (pss_cons (ps_if (pt_cmpR op_lt (pv 1) (pe_callB call_len_seq (by rfl) W.z_len PySem.boot_len (pa_cons (pv 0) pa_nil)) (nomark _)) (pss_one (ps_ret (pe_ix ix_list (pv 0) (pv 1) (fun _ _ => rfl)))) pss_nil)   (pss_one (ps_ret pe_int)))
theorem ok__law_draws {f : Addr} {fd : FuncData} (F : FunD K "_law_draws" "_law_draws" (defArgs s__law_draws) (defBody s__law_draws) (defScope s__law_draws) [] [] f fd) (W : Wd K mg)  : FnOk P w K mg base CX0 1 f fd ["cell", "many", "size"] (sp__law_draws K) := by
  refine F.ok sc__law_draws (fun vs H Q E h => len__law_draws h) (fun cdv A outer s H vs Q E hr h => ⟨t__law_draws K, PSs.nox ?_, pure__law_draws h⟩)
  exact (pss_cons (ps_set (i := 3) sc__law_draws.nd rfl (Or.inl rfl) (pe_lst pa_nil))   (pss_cons (ps_set (i := 4) sc__law_draws.nd rfl (Or.inl rfl) (pe_op op_mul (pv 0) (pe_callTy call_int1 (by rfl) W.z_int bt_int (pa_cons (pe_cmpR op_ge (pv 0) (pe_op op_pow pe_int pe_int) (nomark _)) pa_nil))))   (pss_cons (ps_set (i := 5) sc__law_draws.nd rfl (Or.inl rfl) (pe_op op_mod (pv 0) pe_int))   (pss_cons (ps_for PassesOwn.never rfl (pi_range1 (by rfl) W.z_range (pa_cons (pe_op op_add (pv 1) pe_int) pa_nil)) (pg_name (i := 6) sc__law_draws.nd rfl (Or.inl rfl)) (pss_cons (ps_set (i := 5) sc__law_draws.nd rfl (Or.inl rfl) (pe_op op_mod (pe_op op_add (pe_op op_add (pe_op op_add (pe_op op_mul (pv 5) (pv 5)) (pe_op op_mul pe_int (pv 5))) (pv 6)) pe_int) pe_int))   (pss_one (ps_if (PW.pt (pw_and (pt_cmpR op_gt (pv 6) pe_int (nomark _)) (pw_and1 (pt_cmpR op_gt (pv 4) pe_int (nomark _))))) (pss_cons (ps_expr (pe_bm PySem.F.plainAttrs_list PySem.F.slot_list_append PySem.F.type_list_append mt_append (pv 3) (pa_cons (pe_op op_mod (pv 4) (pv 2)) pa_nil)))   (pss_one (ps_set (i := 4) sc__law_draws.nd rfl (Or.inl rfl) (pe_op op_fdiv (pv 4) (pv 2))))) (pss_one (ps_if (pt_cmpR op_gt (pv 6) pe_int (nomark _)) (pss_one (ps_expr (pe_bm PySem.F.plainAttrs_list PySem.F.slot_list_append PySem.F.type_list_append mt_append (pv 3) (pa_cons (pe_op op_mod (pe_op op_fdiv (pv 5) pe_int) (pv 2)) pa_nil)))) pss_nil))))))   (pss_one (ps_ret (pv 3)))))))
theorem ok__law_bag {f : Addr} {fd : FuncData} (F : FunD K "_law_bag" "_law_bag" (defArgs s__law_bag) (defBody s__law_bag) (defScope s__law_bag) [] [] f fd) (W : Wd K mg) (O__law_draws : Own P w K mg base 1 "_law_draws" ["cell", "many", "size"] (sp__law_draws K)) (O__law_cell_at : Own P w K mg base 1 "_law_cell_at" ["script", "k"] (sp__law_cell_at K)) : FnOk P w K mg base CX0 2 f fd ["script", "k"] (sp__law_bag K) := by
  refine F.ok sc__law_bag (fun vs H Q E h => len__law_bag h) (fun cdv A outer s H vs Q E hr h => ⟨t__law_bag K, PSs.nox ?_, pure__law_bag h⟩)
  exact (pss_one (ps_ret (pe_lst (pa_cons (pe_callO O__law_draws hr (by first | decide | omega) (by rfl) (pa_cons (pe_callO O__law_cell_at hr (by first | decide | omega) (by rfl) (pa_cons (pv 0) (pa_cons (pv 1) pa_nil))) (pa_cons pe_int (pa_cons pe_int pa_nil)))) (pa_cons pe_int pa_nil)))))
theorem ok__law_bags {f : Addr} {fd : FuncData} (F : FunD K "_law_bags" "_law_bags" (defArgs s__law_bags) (defBody s__law_bags) (defScope s__law_bags) [] [] f fd) (W : Wd K mg) (O__law_bag : Own P w K mg base 2 "_law_bag" ["script", "k"] (sp__law_bag K)) : FnOk P w K mg base CX0 3 f fd ["script", "limit"] (sp__law_bags K) := by
  refine F.ok sc__law_bags (fun vs H Q E h => len__law_bags h) (fun cdv A outer s H vs Q E hr h => ⟨t__law_bags K, PSs.nox ?_, pure__law_bags h⟩)
  exact (pss_one (ps_ret (pe_lc (own := [("k", 2)]) (g := (gName 2)) (tt := tYes) (by rfl) sc__law_bags.nd (pi_range1 (by rfl) W.z_range (pa_cons (pe_callB (call_max2 rfl) (by rfl) W.z_max bb_max (pa_cons pe_int (pa_cons (pe_callB (call_min2 rfl) (by rfl) W.z_min bb_min (pa_cons (pv 1) (pa_cons (pe_callB call_len_seq (by rfl) W.z_len PySem.boot_len (pa_cons (pv 0) pa_nil)) pa_nil))) pa_nil))) pa_nil)) (blkOk_by (own := [("k", 2)]) (N := N__law_bags) (sc := defScope s__law_bags) (by decide +kernel)) (fun _ _ _ _ _ => (pg_name (i := 2) sc__law_bags.nd rfl (Or.inl rfl))) (fun _ _ _ _ _ => pts_nil) (fun _ _ _ _ _ => (pe_callO O__law_bag hr (by first | decide | omega) (by rfl) (pa_cons (pv 0) (pa_cons (pv 2) pa_nil)))))))
theorem ok__law_take {f : Addr} {fd : FuncData} (F : FunD K "_law_take" "_law_take" (defArgs s__law_take) (defBody s__law_take) (defScope s__law_take) [] [] f fd) (W : Wd K mg)  : FnOk P w K mg base CX0 1 f fd ["bag", "many"] (sp__law_take K) := by
  refine F.ok sc__law_take (fun vs H Q E h => len__law_take h) (fun cdv A outer s H vs Q E hr h => ⟨t__law_take K, PSs.nox ?_, pure__law_take h⟩)
  exact (pss_cons (ps_asg (pe_op op_add (pe_ix ix_list (pv 0) pe_int (fun _ _ => rfl)) pe_int) (pg_sub (pv 0) pe_int set_list))   (pss_one (ps_ret (pe_op op_mod (pe_ix ix_list (pe_ix ix_list (pv 0) pe_int (fun _ _ => rfl)) (pe_op op_mod (pe_ix ix_list (pv 0) pe_int (fun _ _ => rfl)) (pe_callB call_len_seq (by rfl) W.z_len PySem.boot_len (pa_cons (pe_ix ix_list (pv 0) pe_int (fun _ _ => rfl)) pa_nil))) (fun _ _ => rfl)) (pv 1)))))
theorem ok__law_word {f : Addr} {fd : FuncData} (F : FunD K "_law_word" "_law_word" (defArgs s__law_word) (defBody s__law_word) (defScope s__law_word) [] [] f fd) (W : Wd K mg)  : FnOk P w K mg base CX0 1 f fd ["far", "near"] (sp__law_word K) := by
  refine F.ok sc__law_word (fun vs H Q E h => len__law_word h) (fun cdv A outer s H vs Q E hr h => ⟨t__law_word K, PSs.nox ?_, pure__law_word h⟩)
  exact (pss_cons (ps_if (pt_cmpR op_lt (pv 1) (pv 0) (nomark _)) (pss_one (ps_ret pe_str)) pss_nil)   (pss_one (ps_ret (pe_ifExp (pt_cmpR op_gt (pv 1) (pv 0) (nomark _)) pe_str pe_str))))
theorem ok_law {f : Addr} {fd : FuncData} (F : FunD K "law" "law" (defArgs s_law) (defBody s_law) (defScope s_law) [] [] f fd) (W : Wd K mg) (O__law_bags : Own P w K mg base 3 "_law_bags" ["script", "limit"] (sp__law_bags K)) (O__law_take : Own P w K mg base 1 "_law_take" ["bag", "many"] (sp__law_take K)) (O_stands_at_all : Own P w K mg base 83 "stands_at_all" ["length"] (sp_stands_at_all K)) (O_Search___init__ : OwnI P w K mg base CX0 4 (He.ga K "Search") "Search" ["self", "length"] (sp_Search___init__ K)) (O_Search_stand : OwnM P w K mg base CX0 4 (He.ga K "Search") "stand" ["self", "place"] (sp_Search_stand K)) (O_Search_can_lie : OwnM P w K mg base CX0 1 (He.ga K "Search") "can_lie" ["self"] (sp_Search_can_lie K)) (O_Search_stands : OwnM P w K mg base CX0 1 (He.ga K "Search") "stands" ["self"] (sp_Search_stands K)) (O_stands_from : Own P w K mg base 84 "stands_from" ["length", "stretch", "place"] (sp_stands_from K)) (O_Search___len__ : OwnM P w K mg base CX0 1 (He.ga K "Search") "__len__" ["self"] (sp_Search___len__ K)) (O__law_word : Own P w K mg base 1 "_law_word" ["far", "near"] (sp__law_word K)) (O_Search_answer : OwnM P w K mg base CX0 3 (He.ga K "Search") "answer" ["self", "word"] (sp_Search_answer K)) : FnOk P w K mg base CX0 85 f fd ["script"] (sp_law K) := by
  refine F.ok sc_law (fun vs H Q E h => len_law h) (fun cdv A outer s H vs Q E hr h => ⟨t_law K, PSs.nox ?_, pure_law W.T h⟩)
  exact (pss_cons (ps_for PassesOwn.never rfl (pi_list (pe_callO O__law_bags hr (by first | decide | omega) (by rfl) (pa_cons (pv 0) (pa_cons pe_int pa_nil)))) (pg_name (i := 1) sc_law.nd rfl (Or.inl rfl)) (pss_cons (ps_set (i := 2) sc_law.nd rfl (Or.inl rfl) (pe_op op_add pe_int (pe_callO O__law_take hr (by first | decide | omega) (by rfl) (pa_cons (pv 1) (pa_cons pe_int pa_nil)))))   (pss_cons (ps_asg (pe_callO O_stands_at_all hr (by first | decide | omega) (by rfl) (pa_cons (pv 2) pa_nil)) (pg_tup rfl (pgs_cons (pg_name (i := 3) sc_law.nd rfl (Or.inl rfl)) (pgs_cons (pg_name (i := 4) sc_law.nd rfl (Or.inl rfl)) pgs_nil))))   (pss_cons (ps_set (i := 5) sc_law.nd rfl (Or.inl rfl) pe_int)   (pss_cons (ps_for PassesOwn.never rfl (pi_keysN (pe_disp (pps_cons pe_int pe_bl (pps_cons (pv 2) pe_bl (pps_cons (pe_op op_add pe_int (pe_callO O__law_take hr (by first | decide | omega) (by rfl) (pa_cons (pv 1) (pa_cons (pv 2) pa_nil)))) pe_bl (pps_cons (pe_op op_fdiv (pe_op op_add (pv 2) pe_int) pe_int) pe_bl pps_nil)))) (by rfl) (by rfl) (fun z => by cases z) (by decide))) (pg_name (i := 6) sc_law.nd rfl (Or.inl rfl)) (pss_cons (ps_set (i := 7) sc_law.nd rfl (Or.inl rfl) (pe_makeO O_Search___init__ hr (by first | decide | omega) (by rfl) pass0 (pa_cons (pv 2) pa_nil)))   (Evl.pss_cut (ps_if (pt_cmpR op_notN (pv 4) pe_non (nomark _)) (pss_one (ps_expr (pe_methO W.T.cl O_Search_stand hr (by first | decide | omega) pass0 (pv 7) (pa_cons (pv 4) pa_nil)))) pss_nil)   (pss_cons (ps_set (i := 8) sc_law.nd rfl (Or.inl rfl) pe_int)   (pss_cons (ps_while PassesOwn.never (PW.pt (pw_and (pt_cmpR op_gt (pe_callB call_len_seq (by rfl) W.z_len PySem.boot_len (pa_cons (pe_methO0 W.T.cl O_Search_can_lie hr (by first | decide | omega) pass0 (pv 7)) pa_nil)) pe_int (nomark _)) (pw_and1 (pt_cmpR op_lt (pv 8) pe_int (nomark _))))) (pss_cons (ps_par (i := 9) (j := 10) (by rfl) sc_law.nd rfl rfl (by decide) rfl rfl (pa_cons (pe_methO0 W.T.cl O_Search_can_lie hr (by first | decide | omega) pass0 (pv 7)) (pa_cons (pe_ix ix_list (pe_methO0 W.T.cl O_Search_stands hr (by first | decide | omega) pass0 (pv 7)) (pe_un un_neg pe_int) (fun _ _ => rfl)) pa_nil)) (by rfl))   (pss_cons (ps_asg (pe_callO O_stands_from hr (by first | decide | omega) (by rfl) (pa_cons (pv 2) (pa_cons (pe_tup (pa_cons (pe_ix ix_tup (pv 9) pe_int (fun _ _ => rfl)) (pa_cons (pe_ix ix_tup (pv 9) (pe_un un_neg pe_int) (fun _ _ => rfl)) pa_nil))) (pa_cons (pv 10) pa_nil)))) (pg_tup rfl (pgs_cons (pg_name (i := 11) sc_law.nd rfl (Or.inl rfl)) (pgs_cons (pg_name (i := 12) sc_law.nd rfl (Or.inl rfl)) pgs_nil))))   (pss_cons (ps_if (pt_cmpR op_gt (pe_op op_add (pe_callB (call_lenI O_Search___len__ hr (by first | decide | omega) pass0) (by rfl) W.z_len PySem.boot_len (pa_cons (pv 7) pa_nil)) (pv 11)) (pv 3) (nomark _)) (pss_one (ps_ret pe_bl)) pss_nil)   (pss_cons (ps_expr (pe_methO W.T.cl O_Search_stand hr (by first | decide | omega) pass0 (pv 7) (pa_cons (pv 12) pa_nil)))   (pss_cons (ps_expr (pe_methO W.T.cl O_Search_answer hr (by first | decide | omega) pass0 (pv 7) (pa_cons (pe_callO O__law_word hr (by first | decide | omega) (by rfl) (pa_cons (pe_callB call_abs (by rfl) W.z_abs bb_abs (pa_cons (pe_op op_sub (pv 6) (pv 10)) pa_nil)) (pa_cons (pe_callB call_abs (by rfl) W.z_abs bb_abs (pa_cons (pe_op op_sub (pv 6) (pv 12)) pa_nil)) pa_nil))) pa_nil)))   (pss_one (ps_set (i := 8) sc_law.nd rfl (Or.inl rfl) (pe_op op_add (pv 8) pe_int)))))))))   (pss_cons (ps_if (PW.pt (pw_or (pt_cmpR (op_neD hr.units) (pe_methO0 W.T.cl O_Search_can_lie hr (by first | decide | omega) pass0 (pv 7)) (pe_tup (pa_cons (pv 6) pa_nil)) (nomark _)) (pw_or1 (pt_cmpR op_gt (pe_callB (call_lenI O_Search___len__ hr (by first | decide | omega) pass0) (by rfl) W.z_len PySem.boot_len (pa_cons (pv 7) pa_nil)) (pv 3) (nomark _))))) (pss_one (ps_ret pe_bl)) pss_nil)   (pss_one (ps_set (i := 5) sc_law.nd rfl (Or.inl rfl) (pe_callB (call_max2 rfl) (by rfl) W.z_max bb_max (pa_cons (pv 5) (pa_cons (pe_callB (call_lenI O_Search___len__ hr (by first | decide | omega) pass0) (by rfl) W.z_len PySem.boot_len (pa_cons (pv 7) pa_nil)) pa_nil)))))))))))   (pss_one (ps_if (PW.pt (pw_and (pt_cmpR op_lt (pv 2) pe_int (nomark _)) (pw_and1 (pt_cmpR op_ne (pv 5) (pv 3) (nomark _))))) (pss_one (ps_ret pe_bl)) pss_nil)))))))   (pss_one (ps_ret pe_bl)))
end
def d_is_whole : He.DefD := ⟨("is_whole", none), "is_whole", "is_whole", defArgs s_is_whole, defBody s_is_whole, defScope s_is_whole, [], []⟩
def d_is_place : He.DefD := ⟨("is_place", none), "is_place", "is_place", defArgs s_is_place, defBody s_is_place, defScope s_is_place, [], []⟩
def d_is_word : He.DefD := ⟨("is_word", none), "is_word", "is_word", defArgs s_is_word, defBody s_is_word, defScope s_is_word, [], []⟩
def d_check_length : He.DefD := ⟨("check_length", none), "check_length", "check_length", defArgs s_check_length, defBody s_check_length, defScope s_check_length, [], []⟩
def d_check_going_length : He.DefD := ⟨("check_going_length", none), "check_going_length", "check_going_length", defArgs s_check_going_length, defBody s_check_going_length, defScope s_check_going_length, [], []⟩
def d_check_place : He.DefD := ⟨("check_place", none), "check_place", "check_place", defArgs s_check_place, defBody s_check_place, defScope s_check_place, [], []⟩
def d_check_answer : He.DefD := ⟨("check_answer", none), "check_answer", "check_answer", defArgs s_check_answer, defBody s_check_answer, defScope s_check_answer, [], []⟩
def d_check_stretch : He.DefD := ⟨("check_stretch", none), "check_stretch", "check_stretch", defArgs s_check_stretch, defBody s_check_stretch, defScope s_check_stretch, [], []⟩
def d_word_for : He.DefD := ⟨("word_for", none), "word_for", "word_for", defArgs s_word_for, defBody s_word_for, defScope s_word_for, [], []⟩
def d_answer_to_move : He.DefD := ⟨("answer_to_move", none), "answer_to_move", "answer_to_move", defArgs s_answer_to_move, defBody s_answer_to_move, defScope s_answer_to_move, [], []⟩
def d_Search___init__ : He.DefD := ⟨("Search", some "__init__"), "__init__", "Search.__init__", defArgs s_Search___init__, defBody s_Search___init__, defScope s_Search___init__, [], []⟩
def d_Search_stand : He.DefD := ⟨("Search", some "stand"), "stand", "Search.stand", defArgs s_Search_stand, defBody s_Search_stand, defScope s_Search_stand, [], []⟩
def d_Search_answer : He.DefD := ⟨("Search", some "answer"), "answer", "Search.answer", defArgs s_Search_answer, defBody s_Search_answer, defScope s_Search_answer, [], []⟩
def d_Search_stands : He.DefD := ⟨("Search", some "stands"), "stands", "Search.stands", defArgs s_Search_stands, defBody s_Search_stands, defScope s_Search_stands, [], []⟩
def d_Search_can_lie : He.DefD := ⟨("Search", some "can_lie"), "can_lie", "Search.can_lie", defArgs s_Search_can_lie, defBody s_Search_can_lie, defScope s_Search_can_lie, [], []⟩
def d_Search_waits : He.DefD := ⟨("Search", some "waits"), "waits", "Search.waits", defArgs s_Search_waits, defBody s_Search_waits, defScope s_Search_waits, [], []⟩
def d_Search___len__ : He.DefD := ⟨("Search", some "__len__"), "__len__", "Search.__len__", defArgs s_Search___len__, defBody s_Search___len__, defScope s_Search___len__, [], []⟩
def d_parts_of : He.DefD := ⟨("parts_of", none), "parts_of", "parts_of", defArgs s_parts_of, defBody s_parts_of, defScope s_parts_of, [], []⟩
def d_other_places : He.DefD := ⟨("other_places", none), "other_places", "other_places", defArgs s_other_places, defBody s_other_places, defScope s_other_places, [], []⟩
def d_stands_are_enough : He.DefD := ⟨("stands_are_enough", none), "stands_are_enough", "stands_are_enough", defArgs s_stands_are_enough, defBody s_stands_are_enough, defScope s_stands_are_enough, [], []⟩
def d_first_onward : He.DefD := ⟨("first_onward", none), "first_onward", "first_onward", defArgs s_first_onward, defBody s_first_onward, defScope s_first_onward, [], []⟩
def d_stands_from : He.DefD := ⟨("stands_from", none), "stands_from", "stands_from", defArgs s_stands_from, defBody s_stands_from, defScope s_stands_from, [], []⟩
def d_stands_at_all : He.DefD := ⟨("stands_at_all", none), "stands_at_all", "stands_at_all", defArgs s_stands_at_all, defBody s_stands_at_all, defScope s_stands_at_all, [], []⟩
def d__law_cell_at : He.DefD := ⟨("_law_cell_at", none), "_law_cell_at", "_law_cell_at", defArgs s__law_cell_at, defBody s__law_cell_at, defScope s__law_cell_at, [], []⟩
def d__law_draws : He.DefD := ⟨("_law_draws", none), "_law_draws", "_law_draws", defArgs s__law_draws, defBody s__law_draws, defScope s__law_draws, [], []⟩
def d__law_bag : He.DefD := ⟨("_law_bag", none), "_law_bag", "_law_bag", defArgs s__law_bag, defBody s__law_bag, defScope s__law_bag, [], []⟩
def d__law_bags : He.DefD := ⟨("_law_bags", none), "_law_bags", "_law_bags", defArgs s__law_bags, defBody s__law_bags, defScope s__law_bags, [], []⟩
def d__law_take : He.DefD := ⟨("_law_take", none), "_law_take", "_law_take", defArgs s__law_take, defBody s__law_take, defScope s__law_take, [], []⟩
def d__law_word : He.DefD := ⟨("_law_word", none), "_law_word", "_law_word", defArgs s__law_word, defBody s__law_word, defScope s__law_word, [], []⟩
def d_law : He.DefD := ⟨("law", none), "law", "law", defArgs s_law, defBody s_law, defScope s_law, [], []⟩
def fn : List He.DefD := [d_is_whole, d_is_place, d_is_word, d_check_length, d_check_going_length, d_check_place, d_check_answer, d_check_stretch, d_word_for, d_answer_to_move, d_Search___init__, d_Search_stand, d_Search_answer, d_Search_stands, d_Search_can_lie, d_Search_waits, d_Search___len__, d_parts_of, d_other_places, d_stands_are_enough, d_first_onward, d_stands_from, d_stands_at_all, d__law_cell_at, d__law_draws, d__law_bag, d__law_bags, d__law_take, d__law_word, d_law]
def fa : List He.Fa := ([.glo "is_whole", .glo "is_place", .glo "is_word", .glo "check_length", .glo "check_going_length", .glo "check_place", .glo "check_answer", .glo "check_stretch", .glo "word_for", .glo "answer_to_move", .mkr "Search", .meth "Search" "stand", .meth "Search" "answer", .meth "Search" "stands", .meth "Search" "can_lie", .meth "Search" "waits", .meth "Search" "__len__", .glo "parts_of", .glo "other_places", .glo "stands_are_enough"] : List He.Fa) ++ ([.glo "first_onward", .glo "stands_from", .glo "stands_at_all", .glo "_law_cell_at", .glo "_law_draws", .glo "_law_bag", .glo "_law_bags", .glo "_law_take", .glo "_law_word", .glo "law", .free "abs", .free "all", .free "bool", .free "int", .free "isinstance", .free "len", .free "list", .free "max", .free "min", .free "range"] : List He.Fa) ++ ([.free "str", .free "tuple", .int "LONGEST_GOING" 16, .int "LONGEST_PATH" 60, .glo "WORDS", .glo "Search", .cls "Search", .noat "Search" "length", .noat "Search" "stood", .noat "Search" "words", .noat "Search" "left"] : List He.Fa)
def loose : List PySem.Str := ((["SeekError", "NoLength", "NoPlace", "NoStretch", "NoAnswer", "NotNow", "Never", "TooLong", "Search", "LONGEST_PATH", "LONGEST_GOING", "WORDS", "_wall", "is_whole", "is_place", "is_word", "check_length", "check_going_length", "check_place", "check_answer"] : List PySem.Str) ++ (["check_stretch", "word_for", "answer_to_move", "parts_of", "other_places", "stands_are_enough", "first_onward", "stands_from", "stands_at_all", "_law_cell_at", "_law_draws", "_law_bag", "_law_bags", "_law_take", "_law_word"] : List PySem.Str))
abbrev R : PySem.W.OpenRow := PySem.W.OpenLaw.row PySem.Challenge.rw_warmcold_k14_whole_searches_by_told_plac
def exB (K : PySem.W.Frag) : Bool := He.tupB K "WORDS" [.str "warm", .str "cold", .str "same"]
abbrev hk : PySem.W.Hook := hookY 4 fa fn exB
def ob (s : PySem.W.SharedT) : He.AlD × Bool := obsYG 4 fa fn exB (HandSHeadRun.getT s)
theorem ob_eq (s : PySem.W.SharedT) : ob s = hk.obs s.abs := obsYG_eq (HandSHeadRun.getT_eq s)
theorem run (w : World) : HandSHeadRun.RunEq R (PySem.W.view R.prog [41]) hk ob 4000 loose w := by
  intro os
  kernel_rfl
theorem facts {P : Program} {w : World} {K : PySem.W.Frag} {h : Heap} {mg : Str → Option Value} {f : Addr} (X : K.In h) (G : h.Ns mainGlobals mg) (hfa : mg ("law" : Str) = some (.ref f)) (c2 : SaysY fa fn exB K) :
    ∃ fd : FuncData, (∀ (s : Shared) (v : Value), BindsTo s fd ⟨[v], []⟩ [("script", v)]) ∧ ∀ base : Heap, K.In base → base.Ns mainGlobals mg → FnOk P w K mg base CX0 85 f fd ["script"] (sp_law K) := by
  have c := c2.1
  obtain ⟨fd_is_whole, F_is_whole⟩ := c.def_ 0 (d := d_is_whole) rfl
  obtain ⟨fd_is_place, F_is_place⟩ := c.def_ 1 (d := d_is_place) rfl
  obtain ⟨fd_is_word, F_is_word⟩ := c.def_ 2 (d := d_is_word) rfl
  obtain ⟨fd_check_length, F_check_length⟩ := c.def_ 3 (d := d_check_length) rfl
  obtain ⟨fd_check_going_length, F_check_going_length⟩ := c.def_ 4 (d := d_check_going_length) rfl
  obtain ⟨fd_check_place, F_check_place⟩ := c.def_ 5 (d := d_check_place) rfl
  obtain ⟨fd_check_answer, F_check_answer⟩ := c.def_ 6 (d := d_check_answer) rfl
  obtain ⟨fd_check_stretch, F_check_stretch⟩ := c.def_ 7 (d := d_check_stretch) rfl
  obtain ⟨fd_word_for, F_word_for⟩ := c.def_ 8 (d := d_word_for) rfl
  obtain ⟨fd_answer_to_move, F_answer_to_move⟩ := c.def_ 9 (d := d_answer_to_move) rfl
  obtain ⟨fd_Search___init__, F_Search___init__⟩ := c.def_ 10 (d := d_Search___init__) rfl
  obtain ⟨fd_Search_stand, F_Search_stand⟩ := c.def_ 11 (d := d_Search_stand) rfl
  obtain ⟨fd_Search_answer, F_Search_answer⟩ := c.def_ 12 (d := d_Search_answer) rfl
  obtain ⟨fd_Search_stands, F_Search_stands⟩ := c.def_ 13 (d := d_Search_stands) rfl
  obtain ⟨fd_Search_can_lie, F_Search_can_lie⟩ := c.def_ 14 (d := d_Search_can_lie) rfl
  obtain ⟨fd_Search_waits, F_Search_waits⟩ := c.def_ 15 (d := d_Search_waits) rfl
  obtain ⟨fd_Search___len__, F_Search___len__⟩ := c.def_ 16 (d := d_Search___len__) rfl
  obtain ⟨fd_parts_of, F_parts_of⟩ := c.def_ 17 (d := d_parts_of) rfl
  obtain ⟨fd_other_places, F_other_places⟩ := c.def_ 18 (d := d_other_places) rfl
  obtain ⟨fd_stands_are_enough, F_stands_are_enough⟩ := c.def_ 19 (d := d_stands_are_enough) rfl
  obtain ⟨fd_first_onward, F_first_onward⟩ := c.def_ 20 (d := d_first_onward) rfl
  obtain ⟨fd_stands_from, F_stands_from⟩ := c.def_ 21 (d := d_stands_from) rfl
  obtain ⟨fd_stands_at_all, F_stands_at_all⟩ := c.def_ 22 (d := d_stands_at_all) rfl
  obtain ⟨fd__law_cell_at, F__law_cell_at⟩ := c.def_ 23 (d := d__law_cell_at) rfl
  obtain ⟨fd__law_draws, F__law_draws⟩ := c.def_ 24 (d := d__law_draws) rfl
  obtain ⟨fd__law_bag, F__law_bag⟩ := c.def_ 25 (d := d__law_bag) rfl
  obtain ⟨fd__law_bags, F__law_bags⟩ := c.def_ 26 (d := d__law_bags) rfl
  obtain ⟨fd__law_take, F__law_take⟩ := c.def_ 27 (d := d__law_take) rfl
  obtain ⟨fd__law_word, F__law_word⟩ := c.def_ 28 (d := d__law_word) rfl
  obtain ⟨fd_law, F_law⟩ := c.def_ 29 (d := d_law) rfl
  have W : Wd K mg := {
    T := ⟨He.cls_ok (c.fact 46 (f := .cls "Search") rfl), He.noat_ok (c.fact 47 (f := .noat "Search" "length") rfl), He.noat_ok (c.fact 48 (f := .noat "Search" "stood") rfl), He.noat_ok (c.fact 49 (f := .noat "Search" "words") rfl), He.noat_ok (c.fact 50 (f := .noat "Search" "left") rfl)⟩
    z_abs := He.free_ok X G (c.fact 30 (f := .free "abs") rfl)
    z_all := He.free_ok X G (c.fact 31 (f := .free "all") rfl)
    z_bool := He.free_ok X G (c.fact 32 (f := .free "bool") rfl)
    z_int := He.free_ok X G (c.fact 33 (f := .free "int") rfl)
    z_isinstance := He.free_ok X G (c.fact 34 (f := .free "isinstance") rfl)
    z_len := He.free_ok X G (c.fact 35 (f := .free "len") rfl)
    z_list := He.free_ok X G (c.fact 36 (f := .free "list") rfl)
    z_max := He.free_ok X G (c.fact 37 (f := .free "max") rfl)
    z_min := He.free_ok X G (c.fact 38 (f := .free "min") rfl)
    z_range := He.free_ok X G (c.fact 39 (f := .free "range") rfl)
    z_str := He.free_ok X G (c.fact 40 (f := .free "str") rfl)
    z_tuple := He.free_ok X G (c.fact 41 (f := .free "tuple") rfl)
    c_LONGEST_GOING := He.int_ok X G (c.fact 42 (f := .int "LONGEST_GOING" 16) rfl)
    c_LONGEST_PATH := He.int_ok X G (c.fact 43 (f := .int "LONGEST_PATH" 60) rfl)
    c_WORDS := He.glo_ok X G (c.fact 44 (f := .glo "WORDS") rfl)
    q_WORDS := fun H => He.tupB_ok (show He.tupB K "WORDS" _ = true from c2.2) H
  }
  have e := hfa.symm.trans (He.glo_ok X G (c.fact 29 (f := .glo "law") rfl))
  cases e
  have bL := FunD.bindsA (ps := ["script"]) F_law fun _ _ _ _ _ _ us hl => match us, hl with | [_], _ => rfl
  refine ⟨fd_law, fun s v => bL s [v] rfl, fun base _ _ => ?_⟩
  have O_is_whole : Own P w K mg base 1 "is_whole" ["value"] (sp_is_whole K) := ⟨_, fd_is_whole, ok_is_whole F_is_whole W , He.glo_ok X G (c.fact 0 (f := .glo "is_whole") rfl), F_is_whole.kp, FunD.bindsN F_is_whole fun _ _ _ _ _ _ us hl => match us, hl with | [_], _ => rfl⟩
  have O_is_place : Own P w K mg base 2 "is_place" ["value", "length"] (sp_is_place K) := ⟨_, fd_is_place, ok_is_place F_is_place W O_is_whole, He.glo_ok X G (c.fact 1 (f := .glo "is_place") rfl), F_is_place.kp, FunD.bindsN F_is_place fun _ _ _ _ _ _ us hl => match us, hl with | [_, _], _ => rfl⟩
  have O_is_word : Own P w K mg base 1 "is_word" ["value"] (sp_is_word K) := ⟨_, fd_is_word, ok_is_word F_is_word W , He.glo_ok X G (c.fact 2 (f := .glo "is_word") rfl), F_is_word.kp, FunD.bindsN F_is_word fun _ _ _ _ _ _ us hl => match us, hl with | [_], _ => rfl⟩
  have O_check_length : Own P w K mg base 3 "check_length" ["length"] (sp_check_length K) := ⟨_, fd_check_length, ok_check_length F_check_length W O_is_place, He.glo_ok X G (c.fact 3 (f := .glo "check_length") rfl), F_check_length.kp, FunD.bindsN F_check_length fun _ _ _ _ _ _ us hl => match us, hl with | [_], _ => rfl⟩
  have O_check_going_length : Own P w K mg base 4 "check_going_length" ["length"] (sp_check_going_length K) := ⟨_, fd_check_going_length, ok_check_going_length F_check_going_length W O_check_length, He.glo_ok X G (c.fact 4 (f := .glo "check_going_length") rfl), F_check_going_length.kp, FunD.bindsN F_check_going_length fun _ _ _ _ _ _ us hl => match us, hl with | [_], _ => rfl⟩
  have O_check_place : Own P w K mg base 3 "check_place" ["place", "length"] (sp_check_place K) := ⟨_, fd_check_place, ok_check_place F_check_place W O_is_place, He.glo_ok X G (c.fact 5 (f := .glo "check_place") rfl), F_check_place.kp, FunD.bindsN F_check_place fun _ _ _ _ _ _ us hl => match us, hl with | [_, _], _ => rfl⟩
  have O_check_answer : Own P w K mg base 2 "check_answer" ["word"] (sp_check_answer K) := ⟨_, fd_check_answer, ok_check_answer F_check_answer W O_is_word, He.glo_ok X G (c.fact 6 (f := .glo "check_answer") rfl), F_check_answer.kp, FunD.bindsN F_check_answer fun _ _ _ _ _ _ us hl => match us, hl with | [_], _ => rfl⟩
  have O_check_stretch : Own P w K mg base 3 "check_stretch" ["stretch", "length"] (sp_check_stretch K) := ⟨_, fd_check_stretch, ok_check_stretch F_check_stretch W O_is_place, He.glo_ok X G (c.fact 7 (f := .glo "check_stretch") rfl), F_check_stretch.kp, FunD.bindsN F_check_stretch fun _ _ _ _ _ _ us hl => match us, hl with | [_, _], _ => rfl⟩
  have O_word_for : Own P w K mg base 1 "word_for" ["before", "after"] (sp_word_for K) := ⟨_, fd_word_for, ok_word_for F_word_for W , He.glo_ok X G (c.fact 8 (f := .glo "word_for") rfl), F_word_for.kp, FunD.bindsN F_word_for fun _ _ _ _ _ _ us hl => match us, hl with | [_, _], _ => rfl⟩
  have O_answer_to_move : Own P w K mg base 2 "answer_to_move" ["thing", "earlier", "later"] (sp_answer_to_move K) := ⟨_, fd_answer_to_move, ok_answer_to_move F_answer_to_move W O_word_for, He.glo_ok X G (c.fact 9 (f := .glo "answer_to_move") rfl), F_answer_to_move.kp, FunD.bindsN F_answer_to_move fun _ _ _ _ _ _ us hl => match us, hl with | [_, _, _], _ => rfl⟩
  have O_Search___init__ : OwnI P w K mg base CX0 4 (He.ga K "Search") "Search" ["self", "length"] (sp_Search___init__ K) := ⟨_, fd_Search___init__, ok_Search___init__ F_Search___init__ W O_check_length, He.mkr_ok (c.fact 10 (f := .mkr "Search") rfl), FunD.bindsN F_Search___init__ fun _ _ _ _ _ _ us hl => match us, hl with | [_, _], _ => rfl, He.glo_ok X G (c.fact 45 (f := .glo "Search") rfl)⟩
  have O_Search_waits : OwnM P w K mg base CX0 1 (He.ga K "Search") "waits" ["self"] (sp_Search_waits K) := ⟨_, fd_Search_waits, ok_Search_waits F_Search_waits W , He.meth_ok (c.fact 15 (f := .meth "Search" "waits") rfl), FunD.bindsN F_Search_waits fun _ _ _ _ _ _ us hl => match us, hl with | [_], _ => rfl⟩
  have O_Search_stand : OwnM P w K mg base CX0 4 (He.ga K "Search") "stand" ["self", "place"] (sp_Search_stand K) := ⟨_, fd_Search_stand, ok_Search_stand F_Search_stand W O_check_place O_Search_waits, He.meth_ok (c.fact 11 (f := .meth "Search" "stand") rfl), FunD.bindsN F_Search_stand fun _ _ _ _ _ _ us hl => match us, hl with | [_, _], _ => rfl⟩
  have O_Search_answer : OwnM P w K mg base CX0 3 (He.ga K "Search") "answer" ["self", "word"] (sp_Search_answer K) := ⟨_, fd_Search_answer, ok_Search_answer F_Search_answer W O_check_answer O_Search_waits O_answer_to_move, He.meth_ok (c.fact 12 (f := .meth "Search" "answer") rfl), FunD.bindsN F_Search_answer fun _ _ _ _ _ _ us hl => match us, hl with | [_, _], _ => rfl⟩
  have O_Search_stands : OwnM P w K mg base CX0 1 (He.ga K "Search") "stands" ["self"] (sp_Search_stands K) := ⟨_, fd_Search_stands, ok_Search_stands F_Search_stands W , He.meth_ok (c.fact 13 (f := .meth "Search" "stands") rfl), FunD.bindsN F_Search_stands fun _ _ _ _ _ _ us hl => match us, hl with | [_], _ => rfl⟩
  have O_Search_can_lie : OwnM P w K mg base CX0 1 (He.ga K "Search") "can_lie" ["self"] (sp_Search_can_lie K) := ⟨_, fd_Search_can_lie, ok_Search_can_lie F_Search_can_lie W , He.meth_ok (c.fact 14 (f := .meth "Search" "can_lie") rfl), FunD.bindsN F_Search_can_lie fun _ _ _ _ _ _ us hl => match us, hl with | [_], _ => rfl⟩
  have O_Search___len__ : OwnM P w K mg base CX0 1 (He.ga K "Search") "__len__" ["self"] (sp_Search___len__ K) := ⟨_, fd_Search___len__, ok_Search___len__ F_Search___len__ W , He.meth_ok (c.fact 16 (f := .meth "Search" "__len__") rfl), FunD.bindsN F_Search___len__ fun _ _ _ _ _ _ us hl => match us, hl with | [_], _ => rfl⟩
  have O_parts_of : Own P w K mg base 1 "parts_of" ["stretch", "earlier", "later"] (sp_parts_of K) := ⟨_, fd_parts_of, ok_parts_of F_parts_of W , He.glo_ok X G (c.fact 17 (f := .glo "parts_of") rfl), F_parts_of.kp, FunD.bindsN F_parts_of fun _ _ _ _ _ _ us hl => match us, hl with | [_, _, _], _ => rfl⟩
  have O_other_places : Own P w K mg base 1 "other_places" ["length", "place"] (sp_other_places K) := ⟨_, fd_other_places, ok_other_places F_other_places W , He.glo_ok X G (c.fact 18 (f := .glo "other_places") rfl), F_other_places.kp, FunD.bindsN F_other_places fun _ _ _ _ _ _ us hl => match us, hl with | [_, _], _ => rfl⟩
  have rec_stands_are_enough : ∀ N : Nat, Own P w K mg base (1 + 1 + 2 * N) "stands_are_enough" ["length", "stretch", "place", "many", "known"] (sp_stands_are_enough K P w N) ∧ Own P w K mg base (1 + 2 + 2 * N) "first_onward" ["length", "stretch", "place", "many", "known"] (sp_first_onward K P w N) := by
    have stepB : ∀ N : Nat, Own P w K mg base (1 + 1 + 2 * N) "stands_are_enough" ["length", "stretch", "place", "many", "known"] (sp_stands_are_enough K P w N) → Own P w K mg base (1 + 2 + 2 * N) "first_onward" ["length", "stretch", "place", "many", "known"] (sp_first_onward K P w N) := fun N oA => by
      have e : 1 + 2 + 2 * N = (1 + 1 + 2 * N) + 1 := by omega
      rw [e]
      exact ⟨_, fd_first_onward, ok_first_onward F_first_onward W O_other_places O_parts_of oA, He.glo_ok X G (c.fact 20 (f := .glo "first_onward") rfl), F_first_onward.kp, FunD.bindsN F_first_onward fun _ _ _ _ _ _ us hl => match us, hl with | [_, _, _, _, _], _ => rfl⟩
    intro N
    induction N with
    | zero =>
      have oA : Own P w K mg base (1 + 1 + 2 * 0) "stands_are_enough" ["length", "stretch", "place", "many", "known"] (sp_stands_are_enough K P w 0) := ⟨_, fd_stands_are_enough, ok0_stands_are_enough F_stands_are_enough, He.glo_ok X G (c.fact 19 (f := .glo "stands_are_enough") rfl), F_stands_are_enough.kp, FunD.bindsN F_stands_are_enough fun _ _ _ _ _ _ us hl => match us, hl with | [_, _, _, _, _], _ => rfl⟩
      exact ⟨oA, stepB 0 oA⟩
    | succ N ih =>
      have oA : Own P w K mg base (1 + 1 + 2 * (N + 1)) "stands_are_enough" ["length", "stretch", "place", "many", "known"] (sp_stands_are_enough K P w (N + 1)) := by
        have e : 1 + 1 + 2 * (N + 1) = (1 + 2 + 2 * N) + 1 := by omega
        rw [e]
        exact ⟨_, fd_stands_are_enough, ok_stands_are_enough F_stands_are_enough W  ih.2, He.glo_ok X G (c.fact 19 (f := .glo "stands_are_enough") rfl), F_stands_are_enough.kp, FunD.bindsN F_stands_are_enough fun _ _ _ _ _ _ us hl => match us, hl with | [_, _, _, _, _], _ => rfl⟩
      exact ⟨oA, stepB (N + 1) oA⟩
  have O_stands_are_enough : Own P w K mg base 82 "stands_are_enough" ["length", "stretch", "place", "many", "known"] (sp_stands_are_enough K P w 40) := (rec_stands_are_enough 40).1
  have O_first_onward : Own P w K mg base 83 "first_onward" ["length", "stretch", "place", "many", "known"] (sp_first_onward K P w 40) := (rec_stands_are_enough 40).2
  have O_stands_from : Own P w K mg base 84 "stands_from" ["length", "stretch", "place"] (sp_stands_from K) := ⟨_, fd_stands_from, ok_stands_from F_stands_from W O_check_going_length O_check_stretch O_check_place O_stands_are_enough O_first_onward, He.glo_ok X G (c.fact 21 (f := .glo "stands_from") rfl), F_stands_from.kp, FunD.bindsN F_stands_from fun _ _ _ _ _ _ us hl => match us, hl with | [_, _, _], _ => rfl⟩
  have O_stands_at_all : Own P w K mg base 83 "stands_at_all" ["length"] (sp_stands_at_all K) := ⟨_, fd_stands_at_all, ok_stands_at_all F_stands_at_all W O_check_going_length O_stands_are_enough, He.glo_ok X G (c.fact 22 (f := .glo "stands_at_all") rfl), F_stands_at_all.kp, FunD.bindsN F_stands_at_all fun _ _ _ _ _ _ us hl => match us, hl with | [_], _ => rfl⟩
  have O__law_cell_at : Own P w K mg base 1 "_law_cell_at" ["script", "k"] (sp__law_cell_at K) := ⟨_, fd__law_cell_at, ok__law_cell_at F__law_cell_at W , He.glo_ok X G (c.fact 23 (f := .glo "_law_cell_at") rfl), F__law_cell_at.kp, FunD.bindsN F__law_cell_at fun _ _ _ _ _ _ us hl => match us, hl with | [_, _], _ => rfl⟩
  have O__law_draws : Own P w K mg base 1 "_law_draws" ["cell", "many", "size"] (sp__law_draws K) := ⟨_, fd__law_draws, ok__law_draws F__law_draws W , He.glo_ok X G (c.fact 24 (f := .glo "_law_draws") rfl), F__law_draws.kp, FunD.bindsN F__law_draws fun _ _ _ _ _ _ us hl => match us, hl with | [_, _, _], _ => rfl⟩
  have O__law_bag : Own P w K mg base 2 "_law_bag" ["script", "k"] (sp__law_bag K) := ⟨_, fd__law_bag, ok__law_bag F__law_bag W O__law_draws O__law_cell_at, He.glo_ok X G (c.fact 25 (f := .glo "_law_bag") rfl), F__law_bag.kp, FunD.bindsN F__law_bag fun _ _ _ _ _ _ us hl => match us, hl with | [_, _], _ => rfl⟩
  have O__law_bags : Own P w K mg base 3 "_law_bags" ["script", "limit"] (sp__law_bags K) := ⟨_, fd__law_bags, ok__law_bags F__law_bags W O__law_bag, He.glo_ok X G (c.fact 26 (f := .glo "_law_bags") rfl), F__law_bags.kp, FunD.bindsN F__law_bags fun _ _ _ _ _ _ us hl => match us, hl with | [_, _], _ => rfl⟩
  have O__law_take : Own P w K mg base 1 "_law_take" ["bag", "many"] (sp__law_take K) := ⟨_, fd__law_take, ok__law_take F__law_take W , He.glo_ok X G (c.fact 27 (f := .glo "_law_take") rfl), F__law_take.kp, FunD.bindsN F__law_take fun _ _ _ _ _ _ us hl => match us, hl with | [_, _], _ => rfl⟩
  have O__law_word : Own P w K mg base 1 "_law_word" ["far", "near"] (sp__law_word K) := ⟨_, fd__law_word, ok__law_word F__law_word W , He.glo_ok X G (c.fact 28 (f := .glo "_law_word") rfl), F__law_word.kp, FunD.bindsN F__law_word fun _ _ _ _ _ _ us hl => match us, hl with | [_, _], _ => rfl⟩
  exact ok_law F_law W O__law_bags O__law_take O_stands_at_all O_Search___init__ O_Search_stand O_Search_can_lie O_Search_stands O_stands_from O_Search___len__ O__law_word O_Search_answer
end Wc
open PySem PySem.W PySem.Calls PyProof.Rows
set_option maxRecDepth 100000 in
set_option maxHeartbeats 0 in
theorem PySem.Challenge.cw_warmcold_k14_whole_searches_by_told_plac_holds : PySem.Challenge.rw_warmcold_k14_whole_searches_by_told_plac.Holds := by
  w_on; o_law
  refine HandSHeadRun.head_any (r := OpenLaw.row PySem.Challenge.rw_warmcold_k14_whole_searches_by_told_plac) (q := view (OpenLaw.row PySem.Challenge.rw_warmcold_k14_whole_searches_by_told_plac).prog [41]) (H := Wc.hk) (ob := Wc.ob) (M := 4000) (loose := Wc.loose) (d := HandSHeadRun.topDef (OpenLaw.row PySem.Challenge.rw_warmcold_k14_whole_searches_by_told_plac).prog 41) (kwd := []) Wc.ob_eq (by kernel_rfl) (fun s => by kernel_rfl) Wc.run (by kernel_rfl) (by kernel_rfl) (by kernel_rfl) (by rfl) (by first | assumption | decide +kernel) (by decide +kernel) ⟨rfl, rfl, rfl, rfl, rfl, by decide +kernel⟩ ?hw ?hc
  case hw => w_witness2
  case hc =>
    refine L2.walk_ofE (l := PySem.Challenge.rw_warmcold_k14_whole_searches_by_told_plac) (n := 63) (k := 85) (x := "script") (CX := L2.CX0) rfl (by decide) (by kernel_rfl) ⟨rfl, by decide, by decide⟩ ?F (fun _ _ _ _ z => z)
    intro w mg fa h Y G hmg0
    obtain ⟨K, KX, c⟩ := Y
    have hmg : mg ("law" : PySem.Str) = some (.ref fa) := by
      have e : (HandSHeadRun.topDef (OpenLaw.row PySem.Challenge.rw_warmcold_k14_whole_searches_by_told_plac).prog 41).name = ("law" : PySem.Str) := by kernel_rfl
      rw [← e]
      exact hmg0
    obtain ⟨fd, hb, hF⟩ := Wc.facts (P := (PySem.Challenge.rw_warmcold_k14_whole_searches_by_told_plac).prog) (w := w) KX G hmg c
    exact ⟨K, fd, Wc.sp_law K, KX, hb, fun H a ns hl _ hS => ⟨a, ns, rfl, hS, hl, fun _ => rfl⟩, hF⟩
