import PyProof.Rows.All
import Wide.All
import OpenK.AllK
import Wide.FinOn
import KE.KStateDown
import HandS.ForMost
import HandS.Defaults
import HandS.IsInst
import HandS.Conv
import HandS.Style
import HandS.Evl
import HandS.Head0
import HandS.Head1
import HandS.Head2
import HandS.HeadEnd
import HandS.HeadHook1
import HandS.HeadHook2
import HandS.HotCalls
import HandS.ExcCtx
import HandS.ExcIs
import HandS.SlotsOwn
import HandS.WordsExc
import HandS.Nested
import HandS.Lambda
import HandS.EndTab
import HandS.HeadHook3
import HandS.HeadHook4
import HandS.HeadWalk
import HandS.FStr
import HandS.RaiseMore
import HandS.ExcOwn
import HandS.ExcField
import HandS.ExcInit
import KE.KExcSuper
import KE.KExcIs
import KE.KRevSl
import HandS.TupSets
import HandS.Deep
import HandS.TupAny
import KE.DatumOrd
import PyProof.Rows.RowBridgeK
import HandS.Walk
import KE.KeyNested
import PySem.Challenge.RW_warmcold_k15_who_is_refused
set_option Elab.async false
set_option linter.all false
set_option maxRecDepth 100000
set_option maxHeartbeats 2000000
namespace Wc
open PySem PySem.Spec PyProof.Rows L2
open Evl (Ex ex_l ex_t fresh_back)
/-! ### own defs by their promises -/
structure Own (P : Program) (w : World) (K : PySem.W.Frag) (mg : Str → Option Value) (base : Heap) (k : Nat) (x : Str) (ps : List Str) (sp : Sp) : Prop where
  ex : ∃ (f : Addr) (fd : FuncData), FnOk P w K mg base CX0 k f fd ps sp ∧ mg x = some (.ref f) ∧ PySem.W.keepIn K (.ref f) = true ∧ Binds K fd ps []
theorem pe_callO {X : Cx} {k k' : Nat} {x : Str} {ps : List Str} {sp : Sp} {p pos : Pos} {e : Expr} {es : List Expr} {t : TA}
    (O : Own X.prog X.w X.K X.mg X.base k x ps sp) (hr : Room k' X.A) (hk : k ≤ k') (hg : Gl X x) (ha : PA X (e :: es) t)
    (hdb : (x == ("__debug__" : Str)) = false := by decide) (he : starEach (e :: es) X.env = (false, eval e X.env) :: starEach es X.env := by rfl) (hpl : (backTo pos (starEach es X.env)).any (·.1) = false := by rfl) :
    PE X (.Call (.Name x p) (e :: es) [] pos) (tCall sp [] E0 t) := by
  obtain ⟨f, fd, F, hm, hkp, hb⟩ := O.ex
  exact pe_call F (hr.mono hk) hg hm hkp hb .nil pass0 ha hdb he hpl
theorem units65 {k : Nat} {A : Around} (hr : Room k A) : A.units + 65 < cLine := by
  have := hr.un
  omega
abbrev FnP (K : PySem.W.Frag) (x : Str) (st : Stmt) (f : Addr) (fd : FuncData) : Prop := FunD K x x (defArgs st) (defBody st) (defScope st) [] [] f fd
/-! ### the head's facts, with one Bool more -/
def obsY (fa : List He.Fa) (fn : List He.DefD) (ex : PySem.W.Frag → Bool) (K : PySem.W.Frag) : He.AlD × Bool := (He.obsD fa fn K, ex K)
def obsYG (n : Nat) (fa : List He.Fa) (fn : List He.DefD) (ex : PySem.W.Frag → Bool) (g : Addr → Option Obj) : He.AlD × Bool := obsY fa fn ex (He.frG g (He.asD g n))
def SaysY (fa : List He.Fa) (fn : List He.DefD) (ex : PySem.W.Frag → Bool) (K : PySem.W.Frag) : Prop := He.SaysD fa fn K ∧ ex K = true
def hookY (n : Nat) (fa : List He.Fa) (fn : List He.DefD) (ex : PySem.W.Frag → Bool) : PySem.W.Hook where
  α := He.AlD × Bool
  obs := fun s => obsYG n fa fn ex s.heap.get?
  val := fun _ => (He.valD fn, true)
  says := fun _ h => ∃ K : PySem.W.Frag, K.In h ∧ SaysY fa fn ex K
  of := fun _ _ e => ⟨_, He.frG_in, congrArg Prod.fst e, congrArg Prod.snd e⟩
  keeps := fun _ _ _ ⟨K, hK, c⟩ k => ⟨K, PySem.W.Frag.In.keeps hK k, c⟩
theorem obsYG_eq {n : Nat} {fa : List He.Fa} {fn : List He.DefD} {ex : PySem.W.Frag → Bool} {g : Addr → Option Obj} {s : Shared} (h : ∀ a, g a = s.heap.get? a) : obsYG n fa fn ex g = (hookY n fa fn ex).obs s := by
  have e : g = s.heap.get? := funext h
  rw [e]
  rfl
/-! ### built-ins -/
theorem bb_abs : bootBuiltins "abs" = some (.builtin "abs") := by decide +kernel
theorem bb_max : bootBuiltins "max" = some (.builtin "max") := by decide +kernel
theorem bb_min : bootBuiltins "min" = some (.builtin "min") := by decide +kernel
theorem bb_all : bootBuiltins "all" = some (.builtin "all") := by decide +kernel
theorem bb_sum : bootBuiltins "sum" = some (.builtin "sum") := by decide +kernel
theorem bb_sorted : bootBuiltins "sorted" = some (.builtin "sorted") := by decide +kernel
theorem bb_isinstance : bootBuiltins "isinstance" = some (.builtin "isinstance") := by decide +kernel
theorem bt_int : bootBuiltins "int" = some (.type "int") := by decide +kernel
theorem bt_bool : bootBuiltins "bool" = some (.type "bool") := by decide +kernel
theorem bt_str : bootBuiltins "str" = some (.type "str") := by decide +kernel
theorem bt_list : bootBuiltins "list" = some (.type "list") := by decide +kernel
theorem bt_tuple : bootBuiltins "tuple" = some (.type "tuple") := by decide +kernel
abbrev rAbs : List V → Hp → VK → Prop := fun xs H Q => ∃ i, xs = [.int i] ∧ Q (.int (if i < 0 then -i else i)) H
abbrev rMax2 : List V → Hp → VK → Prop := fun xs H Q => ∃ i j, xs = [.int i, .int j] ∧ Q (.int (if j > i then j else i)) H
abbrev rMin2 : List V → Hp → VK → Prop := fun xs H Q => ∃ i j, xs = [.int i, .int j] ∧ Q (.int (if j < i then j else i)) H
abbrev rInt1 : List V → Hp → VK → Prop := fun xs H Q => (∃ i, xs = [.int i] ∧ Q (.int i) H) ∨ ∃ k, xs = [.bl k] ∧ Q (.int (if k then 1 else 0)) H
abbrev rLenQ (K : PySem.W.Frag) : List V → Hp → VK → Prop := fun xs H Q => ∃ p ys, xs = [.ref p] ∧ (SqL K H p ys ∨ SqT K H p ys) ∧ Q (.int ys.length) H
abbrev rListOf (K : PySem.W.Frag) : List V → Hp → VK → Prop := fun xs H Q => ∃ p ys, xs = [.ref p] ∧ (SqL K H p ys ∨ SqT K H p ys) ∧ ∀ l, H l = none → Q (.ref l) (upd H l (.lst ys))
abbrev rTupleOf (K : PySem.W.Frag) : List V → Hp → VK → Prop := fun xs H Q => ∃ p ys, xs = [.ref p] ∧ ((SqL K H p ys ∧ ∀ l, H l = none → Q (.ref l) (upd H l (.tup ys))) ∨ (SqT K H p ys ∧ Q (.ref p) H))
/-! ### words -/
inductive Wo where
  | warm | cold | same
  deriving DecidableEq
def Wo.str : Wo → Str
  | .warm => "warm"
  | .cold => "cold"
  | .same => "same"
def vW (x : Wo) : V := .str x.str
theorem Wo.str_inj {x y : Wo} (h : x.str = y.str) : x = y := by
  revert h
  cases x <;> cases y <;> first | (intro _; rfl) | (intro h; exact absurd h (by decide +kernel))
theorem vW_inj {x y : Wo} (h : vW x = vW y) : x = y := Wo.str_inj (V.str.inj h)
def ab (i : Int) : Int := if i < 0 then -i else i
def word (far near : Int) : Wo := if near < far then .warm else if far < near then .cold else .same
def mv (t e l : Int) : Wo := word (ab (t - e)) (ab (t - l))
def wordsOf (t : Int) : List Int → List Wo
  | e :: l :: r => mv t e l :: wordsOf t (l :: r)
  | _ => []
theorem wordsOf_len (t : Int) : ∀ ns : List Int, (wordsOf t ns).length = ns.length - 1
  | [] => rfl
  | [_] => rfl
  | x :: y :: r => by
    show (wordsOf t (y :: r)).length + 1 = (y :: r).length + 1 - 1
    rw [wordsOf_len t (y :: r)]
    simp
theorem wordsOf_get (t : Int) : ∀ (ns : List Int) (i : Nat) (x y : Int), ns[i]? = some x → ns[i + 1]? = some y → (wordsOf t ns)[i]? = some (mv t x y)
  | [], _, _, _, h, _ => by simp at h
  | [_], 0, _, _, _, h => by simp at h
  | [_], i + 1, _, _, h, _ => by simp at h
  | a :: b :: r, 0, x, y, h, h2 => by
    have e1 : a = x := Option.some.inj h
    have e2 : b = y := Option.some.inj h2
    rw [← e1, ← e2]
    rfl
  | a :: b :: r, i + 1, x, y, h, h2 => wordsOf_get t (b :: r) i x y h h2
/-! ### data -/
theorem dpI {K : PySem.W.Frag} {H : Hp} : ∀ ns : List Int, DpAll K H (ns.map V.int) (ns.map PyData.int)
  | [] => .nil
  | n :: r => .cons (.int n) (dpI r)
theorem dpW {K : PySem.W.Frag} {H : Hp} : ∀ ws : List Wo, DpAll K H (ws.map vW) (ws.map fun x => PyData.str x.str)
  | [] => .nil
  | x :: r => .cons (.str x.str) (dpW r)
theorem shI : ∀ ns : List Int, PyData.canLayAll0 (ns.map PyData.int) = true ∧ PyData.depthAll (ns.map PyData.int) = 0
  | [] => ⟨rfl, rfl⟩
  | n :: r => by
    obtain ⟨h1, h2⟩ := shI r
    constructor
    · show (PyData.canLay0 (PyData.int n) && PyData.canLayAll0 (r.map PyData.int)) = true
      rw [h1] <;> rfl
    · show max (PyData.depth (PyData.int n)) (PyData.depthAll (r.map PyData.int)) = 0
      rw [h2] <;> rfl
theorem strOk_w (x : Wo) : PyData.canLay0 (PyData.str x.str) = true := by
  cases x <;> decide +kernel
theorem shW : ∀ ws : List Wo, PyData.canLayAll0 (ws.map fun x => PyData.str x.str) = true ∧ PyData.depthAll (ws.map fun x => PyData.str x.str) = 0
  | [] => ⟨rfl, rfl⟩
  | x :: r => by
    obtain ⟨h1, h2⟩ := shW r
    constructor
    · show (PyData.canLay0 (PyData.str x.str) && PyData.canLayAll0 (r.map fun x => PyData.str x.str)) = true
      rw [h1, strOk_w] <;> rfl
    · show max (PyData.depth (PyData.str x.str)) (PyData.depthAll (r.map fun x => PyData.str x.str)) = 0
      rw [h2] <;> rfl
theorem shaped_l {ds : List PyData} (h : PyData.canLayAll0 ds = true ∧ PyData.depthAll ds = 0) : SeqAt.shaped (.list ds) = true := by
  unfold SeqAt.shaped
  have e1 : PyData.canLay0 (.list ds) = true := h.1
  have e2 : PyData.depth (.list ds) = 1 := by
    show PyData.depthAll ds + 1 = 1
    rw [h.2]
  rw [e1, e2] <;> rfl
theorem shaped_t {ds : List PyData} (h : PyData.canLayAll0 ds = true ∧ PyData.depthAll ds = 0) : SeqAt.shaped (.tuple ds) = true := by
  unfold SeqAt.shaped
  have e1 : PyData.canLay0 (.tuple ds) = true := h.1
  have e2 : PyData.depth (.tuple ds) = 1 := by
    show PyData.depthAll ds + 1 = 1
    rw [h.2]
  rw [e1, e2] <;> rfl
theorem eqvI : ∀ ns ms : List Int, PyData.eqvAll (ns.map PyData.int) (ms.map PyData.int) = decide (ns = ms)
  | [], [] => rfl
  | [], _ :: _ => rfl
  | _ :: _, [] => rfl
  | n :: r, m :: q => by
    show (PyData.eqv (PyData.int n) (PyData.int m) && PyData.eqvAll (r.map PyData.int) (q.map PyData.int)) = _
    rw [eqvI r q]
    show ((n == m) && decide (r = q)) = _
    by_cases h1 : n = m <;> by_cases h2 : r = q <;> simp [h1, h2]
theorem eqvW : ∀ ns ms : List Wo, PyData.eqvAll (ns.map fun x => PyData.str x.str) (ms.map fun x => PyData.str x.str) = decide (ns = ms)
  | [], [] => rfl
  | [], _ :: _ => rfl
  | _ :: _, [] => rfl
  | n :: r, m :: q => by
    show (PyData.eqv (PyData.str n.str) (PyData.str m.str) && PyData.eqvAll (r.map fun x => PyData.str x.str) (q.map fun x => PyData.str x.str)) = _
    rw [eqvW r q]
    show ((n.str == m.str) && decide (r = q)) = _
    have e : (n.str == m.str) = decide (n = m) := by
      cases n <;> cases m <;> decide +kernel
    rw [e]
    by_cases h1 : n = m <;> by_cases h2 : r = q <;> simp [h1, h2]
/-- two lists of ints, of words, compared -/
theorem eqII {K : PySem.W.Frag} {H : Hp} {a b : Addr} {ns ms : List Int} {Q : VK} (h1 : SqL K H a (ns.map V.int)) (h2 : SqL K H b (ms.map V.int)) (q : Q (.bl (decide (ns = ms))) H) : rEqD K (.ref a) (.ref b) H Q := by
  refine ⟨_, _, .lst h1 (dpI ns), .lst h2 (dpI ms), shaped_l (shI ns), shaped_l (shI ms), ?_⟩
  show Q (.bl (PyData.eqvAll (ns.map PyData.int) (ms.map PyData.int))) H
  rw [eqvI]
  exact q
theorem neII {K : PySem.W.Frag} {H : Hp} {a b : Addr} {ns ms : List Int} {Q : VK} (h1 : SqL K H a (ns.map V.int)) (h2 : SqL K H b (ms.map V.int)) (q : Q (.bl (!decide (ns = ms))) H) : rNeD K (.ref a) (.ref b) H Q := by
  refine ⟨_, _, .lst h1 (dpI ns), .lst h2 (dpI ms), shaped_l (shI ns), shaped_l (shI ms), ?_⟩
  show Q (.bl (!PyData.eqvAll (ns.map PyData.int) (ms.map PyData.int))) H
  rw [eqvI]
  exact q
theorem eqWW {K : PySem.W.Frag} {H : Hp} {a b : Addr} {ns ms : List Wo} {Q : VK} (h1 : SqL K H a (ns.map vW)) (h2 : SqL K H b (ms.map vW)) (q : Q (.bl (decide (ns = ms))) H) : rEqD K (.ref a) (.ref b) H Q := by
  refine ⟨_, _, .lst h1 (dpW ns), .lst h2 (dpW ms), shaped_l (shW ns), shaped_l (shW ms), ?_⟩
  show Q (.bl (PyData.eqvAll (ns.map fun x => PyData.str x.str) (ms.map fun x => PyData.str x.str))) H
  rw [eqvW]
  exact q
theorem neWW {K : PySem.W.Frag} {H : Hp} {a b : Addr} {ns ms : List Wo} {Q : VK} (h1 : SqL K H a (ns.map vW)) (h2 : SqL K H b (ms.map vW)) (q : Q (.bl (!decide (ns = ms))) H) : rNeD K (.ref a) (.ref b) H Q := by
  refine ⟨_, _, .lst h1 (dpW ns), .lst h2 (dpW ms), shaped_l (shW ns), shaped_l (shW ms), ?_⟩
  show Q (.bl (!PyData.eqvAll (ns.map fun x => PyData.str x.str) (ms.map fun x => PyData.str x.str))) H
  rw [eqvW]
  exact q
theorem eqTT {K : PySem.W.Frag} {H : Hp} {a b : Addr} {ns ms : List Int} {Q : VK} (h1 : SqT K H a (ns.map V.int)) (h2 : SqT K H b (ms.map V.int)) (q : Q (.bl (decide (ns = ms))) H) : rEqD K (.ref a) (.ref b) H Q := by
  refine ⟨_, _, .tup h1 (dpI ns), .tup h2 (dpI ms), shaped_t (shI ns), shaped_t (shI ms), ?_⟩
  show Q (.bl (PyData.eqvAll (ns.map PyData.int) (ms.map PyData.int))) H
  rw [eqvI]
  exact q
theorem neTT {K : PySem.W.Frag} {H : Hp} {a b : Addr} {ns ms : List Int} {Q : VK} (h1 : SqT K H a (ns.map V.int)) (h2 : SqT K H b (ms.map V.int)) (q : Q (.bl (!decide (ns = ms))) H) : rNeD K (.ref a) (.ref b) H Q := by
  refine ⟨_, _, .tup h1 (dpI ns), .tup h2 (dpI ms), shaped_t (shI ns), shaped_t (shI ms), ?_⟩
  show Q (.bl (!PyData.eqvAll (ns.map PyData.int) (ms.map PyData.int))) H
  rw [eqvI]
  exact q
/-! ### comprehensions, slices -/
theorem given_all (n : Nat) (v : Nat → V) : Evl.given n (fun _ => true) v = (List.range n).map v := by
  unfold Evl.given
  rw [List.filter_eq_self.mpr (fun _ _ => rfl)]
theorem range_map (ns : List Int) (F : Int → V) : (List.range ns.length).map (fun i => F (ns.getD i 0)) = ns.map F := by
  apply List.ext_getElem?
  intro i
  rw [List.getElem?_map, List.getElem?_map]
  by_cases h : i < ns.length
  · rw [List.getElem?_range h, List.getElem?_eq_getElem h]
    show some (F (ns.getD i 0)) = some (F ns[i])
    rw [List.getD_eq_getElem?_getD, List.getElem?_eq_getElem h]
    rfl
  · rw [List.getElem?_eq_none (by rw [List.length_range]; omega), List.getElem?_eq_none (by omega)]
    rfl
/-- a list of ints, each sent on -/
theorem el_map {K : PySem.W.Frag} {σ : L2.St} {H : Hp} {a : Addr} {ns : List Int} {tl te : TE} {j : Nat} {vs : List Nat} (F : Int → V) (h : Evl.Ev tl σ H (.ref a)) (hx : SqL K H a (ns.map V.int)) (hz : ns.length ≤ 40000)
    (hw : ∀ x, wipe ((wipe σ vs).set j (some x)) vs = wipe σ vs) (he : ∀ n H1, Ex H H1 → n ∈ ns → Evl.Ev te ((wipe σ vs).set j (some (.int n))) H1 (F n)) : Evl.EvL (tLc (iList K tl) (gName j) tYes te vs) σ H (ns.map F) := by
  have r := Evl.el_lcL (K := K) (xs := ns.map V.int) (te := te) (t := tYes) (vs := vs) (j := j) (fun _ => true) (fun i => F (ns.getD i 0)) h hx (by rw [List.length_map]; exact hz) hw (fun i x H1 _ _ => fun H2 _ Q q => q H2 (Ex.refl H2)) (fun i x H1 e hi _ => by
    rw [List.getElem?_map] at hi
    by_cases hl : i < ns.length
    · rw [List.getElem?_eq_getElem hl] at hi
      have ex : x = .int ns[i] := (Option.some.inj hi).symm
      have eg : ns.getD i 0 = ns[i] := by
        rw [List.getD_eq_getElem?_getD, List.getElem?_eq_getElem hl]
        rfl
      rw [ex]
      show Evl.Ev te ((wipe σ vs).set j (some (.int ns[i]))) H1 (F (ns.getD i 0))
      rw [eg]
      exact he ns[i] H1 e (List.getElem_mem hl)
    · rw [List.getElem?_eq_none (by omega)] at hi
      cases hi)
  rw [given_all, List.length_map, range_map] at r
  exact r
/-- the same of any list -/
theorem range_mapG {α : Type} (d : α) (ns : List α) (F : α → V) : (List.range ns.length).map (fun i => F (ns.getD i d)) = ns.map F := by
  apply List.ext_getElem?
  intro i
  rw [List.getElem?_map, List.getElem?_map]
  by_cases h : i < ns.length
  · rw [List.getElem?_range h, List.getElem?_eq_getElem h]
    show some (F (ns.getD i d)) = some (F ns[i])
    rw [List.getD_eq_getElem?_getD, List.getElem?_eq_getElem h]
    rfl
  · rw [List.getElem?_eq_none (by rw [List.length_range]; omega), List.getElem?_eq_none (by omega)]
    rfl
theorem el_mapG {α : Type} (d : α) (em : α → V) {K : PySem.W.Frag} {σ : L2.St} {H : Hp} {a : Addr} {ns : List α} {tl te : TE} {j : Nat} {vs : List Nat} (F : α → V) (h : Evl.Ev tl σ H (.ref a)) (hx : SqL K H a (ns.map em)) (hz : ns.length ≤ 40000)
    (hw : ∀ x, wipe ((wipe σ vs).set j (some x)) vs = wipe σ vs) (he : ∀ n H1, Ex H H1 → n ∈ ns → Evl.Ev te ((wipe σ vs).set j (some (em n))) H1 (F n)) : Evl.EvL (tLc (iList K tl) (gName j) tYes te vs) σ H (ns.map F) := by
  have r := Evl.el_lcL (K := K) (xs := ns.map em) (te := te) (t := tYes) (vs := vs) (j := j) (fun _ => true) (fun i => F (ns.getD i d)) h hx (by rw [List.length_map]; exact hz) hw (fun i x H1 _ _ => fun H2 _ Q q => q H2 (Ex.refl H2)) (fun i x H1 e hi _ => by
    rw [List.getElem?_map] at hi
    by_cases hl : i < ns.length
    · rw [List.getElem?_eq_getElem hl] at hi
      have ex : x = em ns[i] := (Option.some.inj hi).symm
      have eg : ns.getD i d = ns[i] := by
        rw [List.getD_eq_getElem?_getD, List.getElem?_eq_getElem hl]
        rfl
      rw [ex]
      show Evl.Ev te ((wipe σ vs).set j (some (em ns[i]))) H1 (F (ns.getD i d))
      rw [eg]
      exact he ns[i] H1 e (List.getElem_mem hl)
    · rw [List.getElem?_eq_none (by omega)] at hi
      cases hi)
  rw [given_all, List.length_map, range_mapG] at r
  exact r
/-- the whole numbers from lo up to below hi -/
def rng (lo hi : Int) : List Int := (List.range (hi - lo).toNat).map fun i : Nat => lo + (i : Int)
theorem mem_rng {lo hi n : Int} : n ∈ rng lo hi ↔ lo ≤ n ∧ n < hi := by
  unfold rng
  rw [List.mem_map]
  constructor
  · rintro ⟨k, hk, rfl⟩
    have := List.mem_range.mp hk
    omega
  · intro h
    exact ⟨(n - lo).toNat, List.mem_range.mpr (by omega), by omega⟩
theorem rng_len (lo hi : Int) : (rng lo hi).length = (hi - lo).toNat := by
  unfold rng
  rw [List.length_map, List.length_range]
theorem given_rng (lo hi : Int) (f : Int → Bool) (F : Int → V) : Evl.given (hi - lo).toNat (fun i => f (lo + (i : Int))) (fun i => F (lo + (i : Int))) = ((rng lo hi).filter f).map F := by
  unfold Evl.given rng
  rw [List.filter_map, List.map_map]
  rfl
/-- a comprehension over range(lo, hi) that keeps some -/
theorem el_rng {σ : L2.St} {H : Hp} {ta : TA} {t : TT} {te : TE} {j : Nat} {vs : List Nat} {lo hi : Int} (f : Int → Bool) (F : Int → V) (h : Evl.EvA ta σ H [.int lo, .int hi]) (hb : -30000 ≤ lo ∧ lo ≤ 30000 ∧ -30000 ≤ hi ∧ hi ≤ 10000)
    (hw : ∀ x, wipe ((wipe σ vs).set j (some x)) vs = wipe σ vs) (ht : ∀ n H1, Ex H H1 → lo ≤ n → n < hi → Evl.EvT t ((wipe σ vs).set j (some (.int n))) H1 (f n))
    (he : ∀ n H1, Ex H H1 → lo ≤ n → n < hi → f n = true → Evl.Ev te ((wipe σ vs).set j (some (.int n))) H1 (F n)) : Evl.EvL (tLc (iRng2 ta) (gName j) t te vs) σ H (((rng lo hi).filter f).map F) := fun H0 e Q q => h H0 e _ fun H1 e1 =>
  ⟨lo, hi, rfl, ⟨by omega, by omega, by omega, by omega⟩, fun Dl hD =>
    lc_range (lo := lo) (n := (hi - lo).toNat) (Evl.Cw H1 (fun i => f (lo + (i : Int))) (fun i => F (lo + (i : Int))) Dl) ⟨hD, Ex.new hD, upd_same⟩ (fun i H' hi' p =>
      ⟨hw _, Evl.cw_turn p (by omega) (ht (lo + (i : Int)) H1 (e.trans e1) (by omega) (by omega)) (fun hf => he (lo + (i : Int)) H1 (e.trans e1) (by omega) (by omega) hf)⟩)
      (fun H' p => by
        have p3 := p.2.2
        rw [given_rng] at p3
        exact q Dl H' (fresh_back e1 p.1) (e1.trans p.2.1) p3)⟩
theorem given_list (ns : List Int) (f : Int → Bool) (F : Int → V) : Evl.given ns.length (fun i => f (ns.getD i 0)) (fun i => F (ns.getD i 0)) = (ns.filter f).map F := by
  have e : (List.range ns.length).map (fun i => ns.getD i 0) = ns := by
    apply List.ext_getElem?
    intro i
    rw [List.getElem?_map]
    by_cases h : i < ns.length
    · rw [List.getElem?_range h, List.getElem?_eq_getElem h]
      show some (ns.getD i 0) = some ns[i]
      rw [List.getD_eq_getElem?_getD, List.getElem?_eq_getElem h]
      rfl
    · rw [List.getElem?_eq_none (by rw [List.length_range]; omega), List.getElem?_eq_none (by omega)]
      rfl
  unfold Evl.given
  conv => rhs; rw [← e]
  rw [List.filter_map, List.map_map]
  rfl
theorem getD_at {ns : List Int} {i : Nat} {x : V} (hi : (ns.map V.int)[i]? = some x) : ns.getD i 0 ∈ ns ∧ x = .int (ns.getD i 0) := by
  rw [List.getElem?_map] at hi
  by_cases hl : i < ns.length
  · rw [List.getElem?_eq_getElem hl] at hi
    rw [List.getD_eq_getElem?_getD, List.getElem?_eq_getElem hl]
    exact ⟨List.getElem_mem hl, (Option.some.inj hi).symm⟩
  · rw [List.getElem?_eq_none (by omega)] at hi
    cases hi
/-- a comprehension over a list, a tuple, a new tuple of ints that keeps some -/
theorem el_lst {K : PySem.W.Frag} {σ : L2.St} {H : Hp} {a : Addr} {ns : List Int} {tl te : TE} {t : TT} {j : Nat} {vs : List Nat} (f : Int → Bool) (F : Int → V) (h : Evl.Ev tl σ H (.ref a)) (hx : SqL K H a (ns.map V.int)) (hz : ns.length ≤ 40000)
    (hw : ∀ x, wipe ((wipe σ vs).set j (some x)) vs = wipe σ vs) (ht : ∀ n H1, Ex H H1 → n ∈ ns → Evl.EvT t ((wipe σ vs).set j (some (.int n))) H1 (f n))
    (he : ∀ n H1, Ex H H1 → n ∈ ns → f n = true → Evl.Ev te ((wipe σ vs).set j (some (.int n))) H1 (F n)) : Evl.EvL (tLc (iList K tl) (gName j) t te vs) σ H ((ns.filter f).map F) := by
  have r := Evl.el_lcL (K := K) (xs := ns.map V.int) (te := te) (t := t) (vs := vs) (j := j) (fun i => f (ns.getD i 0)) (fun i => F (ns.getD i 0)) h hx (by rw [List.length_map]; exact hz) hw
    (fun i x H1 e hi => by rw [(getD_at hi).2]; exact ht _ H1 e (getD_at hi).1) (fun i x H1 e hi hf => by rw [(getD_at hi).2]; exact he _ H1 e (getD_at hi).1 hf)
  rw [List.length_map, given_list] at r
  exact r
theorem el_tup {K : PySem.W.Frag} {σ : L2.St} {H : Hp} {a : Addr} {ns : List Int} {tl te : TE} {t : TT} {j : Nat} {vs : List Nat} (f : Int → Bool) (F : Int → V) (h : Evl.Ev tl σ H (.ref a)) (hx : SqT K H a (ns.map V.int)) (hz : ns.length ≤ 40000)
    (hw : ∀ x, wipe ((wipe σ vs).set j (some x)) vs = wipe σ vs) (ht : ∀ n H1, Ex H H1 → n ∈ ns → Evl.EvT t ((wipe σ vs).set j (some (.int n))) H1 (f n))
    (he : ∀ n H1, Ex H H1 → n ∈ ns → f n = true → Evl.Ev te ((wipe σ vs).set j (some (.int n))) H1 (F n)) : Evl.EvL (tLc (iTup K tl) (gName j) t te vs) σ H ((ns.filter f).map F) := fun H0 e Q q => h H0 e _ fun H1 e1 =>
  ⟨a, rfl, ⟨_, ex_t (e.trans e1) hx⟩, fun Dl hD =>
    lc_tup (xs := ns.map V.int) (Evl.Cw H1 (fun i => f (ns.getD i 0)) (fun i => F (ns.getD i 0)) Dl) ⟨hD, Ex.new hD, upd_same⟩ (fun i H' _ p => ex_t ((e.trans e1).trans p.2.1) hx) (fun i x H' hi p => by
      have hl : i < ns.length := by
        have := (List.getElem?_eq_some_iff.mp hi).1
        rw [List.length_map] at this
        exact this
      rw [(getD_at hi).2]
      exact ⟨hw _, Evl.cw_turn p (by omega) (ht _ H1 (e.trans e1) (getD_at hi).1) (fun hf => he _ H1 (e.trans e1) (getD_at hi).1 hf)⟩)
      (fun H' p => by
        have p3 := p.2.2
        rw [List.length_map, given_list] at p3
        exact q Dl H' (fresh_back e1 p.1) (e1.trans p.2.1) p3)⟩
theorem el_tupU {K : PySem.W.Frag} {σ : L2.St} {H : Hp} {ns : List Int} {tl te : TE} {t : TT} {j : Nat} {vs : List Nat} (f : Int → Bool) (F : Int → V) (h : Evl.EvU tl σ H (ns.map V.int)) (hz : ns.length ≤ 40000)
    (hw : ∀ x, wipe ((wipe σ vs).set j (some x)) vs = wipe σ vs) (ht : ∀ n H1, Ex H H1 → n ∈ ns → Evl.EvT t ((wipe σ vs).set j (some (.int n))) H1 (f n))
    (he : ∀ n H1, Ex H H1 → n ∈ ns → f n = true → Evl.Ev te ((wipe σ vs).set j (some (.int n))) H1 (F n)) : Evl.EvL (tLc (iTup K tl) (gName j) t te vs) σ H ((ns.filter f).map F) := fun H0 e Q q => h H0 e _ fun a H1 _ e1 hx =>
  ⟨a, rfl, ⟨_, SqT.of hx⟩, fun Dl hD =>
    lc_tup (xs := ns.map V.int) (Evl.Cw H1 (fun i => f (ns.getD i 0)) (fun i => F (ns.getD i 0)) Dl) ⟨hD, Ex.new hD, upd_same⟩ (fun i H' _ p => SqT.of (p.2.1 _ _ hx)) (fun i x H' hi p => by
      have hl : i < ns.length := by
        have := (List.getElem?_eq_some_iff.mp hi).1
        rw [List.length_map] at this
        exact this
      rw [(getD_at hi).2]
      exact ⟨hw _, Evl.cw_turn p (by omega) (ht _ H1 (e.trans e1) (getD_at hi).1) (fun hf => he _ H1 (e.trans e1) (getD_at hi).1 hf)⟩)
      (fun H' p => by
        have p3 := p.2.2
        rw [List.length_map, given_list] at p3
        exact q Dl H' (fresh_back e1 p.1) (e1.trans p.2.1) p3)⟩
theorem yes_ev {σ : L2.St} {H : Hp} : Evl.EvT tYes σ H true := fun H1 _ _ q => q H1 (Ex.refl H1)
theorem filter_yes (ns : List Int) : ns.filter (fun _ => true) = ns := List.filter_eq_self.mpr fun _ _ => rfl
/-- a loop over enumerate of a list that stays -/
theorem for_enum {K : PySem.W.Frag} {a : Addr} {xs : List V} {g : TG} {tb : TS} {D : Ends} {σ : L2.St} {H : Hp} (Pv : Nat → L2.St → Hp → Prop) (h0 : Pv 0 σ H) (hl : ∀ i σ H, i ≤ xs.length → Pv i σ H → SqL K H a xs)
    (hs : ∀ (i : Nat) (x : V) (T : Addr) (σ : L2.St) (H : Hp), xs[i]? = some x → Pv i σ H → H T = none → g (.ref T) σ (upd H T (.tup [.int (i : Nat), x])) fun σ2 H2 => tb { D with nx := Pv (i + 1), ct := Pv (i + 1), bk := D.nx } σ2 H2) (hd : ∀ σ H, Pv xs.length σ H → D.nx σ H) :
    ∃ W : Nat → Nat → L2.St → Hp → Prop, (∃ m, W 0 m σ H) ∧ ∀ i m σ H, W i m σ H →
      ((Ite K a).stop i H ∧ D.nx σ H) ∨ ((Ite K a).go i H ∧ ∃ N : L2.St → Hp → Prop, (∀ σ' H', N σ' H' → ∃ m', m' < m ∧ W (i + 1) m' σ' H') ∧ ∀ v H', (Ite K a).yld i H v H' → g v σ H' fun σ2 H2 => tb { D with nx := N, ct := N, bk := D.nx } σ2 H2) := by
  refine ⟨fun i m σ H => i + m = xs.length ∧ Pv i σ H, ⟨xs.length, Nat.zero_add _, h0⟩, ?_⟩
  rintro i m σ H ⟨hm, p⟩
  have hq := hl i σ H (by omega) p
  by_cases hi : i < xs.length
  · refine .inr ⟨⟨xs, xs[i], hq, List.getElem?_eq_getElem hi⟩, Pv (i + 1), fun σ' H' p' => ⟨m - 1, by omega, by omega, p'⟩, ?_⟩
    rintro v H' ⟨T, x, rfl, nT, rfl, hx⟩
    exact hs i x T σ H (hx xs hq) p nT
  · have e : i = xs.length := by omega
    rw [e] at p
    exact .inl ⟨⟨xs, hq, by omega⟩, hd σ H p⟩
theorem cut1 (xs : List V) : cutV xs (some 1) none = xs.drop 1 := by
  unfold cutV
  have e1 : HT.sIx xs.length 0 (some 1) = min 1 xs.length := HT.sIx_nat xs.length 0 1
  rw [e1, HT.sIx_none]
  match xs with
  | [] => rfl
  | x :: r =>
    have e2 : min 1 (x :: r).length = 1 := Nat.min_eq_left (by simp)
    rw [e2]
    show List.take (r.length + 1 - 1) r = r
    rw [Nat.add_sub_cancel, List.take_length]
/-- a list of places of a path of length l -/
def Places (l : Int) (ns : List Int) : Prop := ∀ n ∈ ns, 1 ≤ n ∧ n ≤ l
/-- the places at which just these words are answered -/
def lies (l : Int) (st : List Int) (ws : List Wo) : List Int := (rng 1 (l + 1)).filter fun t => decide (wordsOf t st = ws)
/-! ### bags -/
def Bag1 (H : Hp) (b : Addr) : Prop := ∃ (d : Addr) (c : Int) (ds : List Int), H b = some (.lst [.ref d, .int c]) ∧ H d = some (.lst (ds.map V.int)) ∧ ds.length = 400
def Bags (bs : List Addr) (H : Hp) : Prop := ∀ b ∈ bs, Bag1 H b
/-- all that is no bag stays -/
def Kp (bs : List Addr) (H H' : Hp) : Prop := ∀ a o, a ∉ bs → H a = some o → H' a = some o
theorem Kp.refl (bs : List Addr) (H : Hp) : Kp bs H H := fun _ _ _ h => h
theorem Kp.trans {bs : List Addr} {H H1 H2 : Hp} (a : Kp bs H H1) (b : Kp bs H1 H2) : Kp bs H H2 := fun c o n h => b c o n (a c o n h)
theorem Kp.ex {bs : List Addr} {H H' : Hp} (e : Ex H H') : Kp bs H H' := fun a o _ h => e a o h
theorem Bag1.ex {H H' : Hp} {b : Addr} (e : Ex H H') (h : Bag1 H b) : Bag1 H' b := by
  obtain ⟨d, c, ds, h1, h2, h3⟩ := h
  exact ⟨d, c, ds, e _ _ h1, e _ _ h2, h3⟩
theorem Bags.ex {bs : List Addr} {H H' : Hp} (e : Ex H H') (h : Bags bs H) : Bags bs H' := fun b hb => (h b hb).ex e
theorem Bags.fresh {bs : List Addr} {H : Hp} (h : Bags bs H) {p : Addr} (n : H p = none) : p ∉ bs := fun hp => by
  obtain ⟨d, c, ds, h1, _⟩ := h p hp
  rw [n] at h1
  cases h1
/-- an object that is no bag, and no bag's draws, may change -/
theorem Bags.mut {bs : List Addr} {H : Hp} {p : Addr} {o : HO} (h : Bags bs H) (n1 : p ∉ bs) (n2 : ∀ d ds, H d = some (.lst (List.map V.int ds)) → ds.length = 400 → d ≠ p) : Bags bs (upd H p o) := fun b hb => by
  obtain ⟨d, c, ds, h1, h2, h3⟩ := h b hb
  have e1 : b ≠ p := fun e => n1 (e ▸ hb)
  exact ⟨d, c, ds, by rw [upd_ne e1]; exact h1, by rw [upd_ne (n2 d ds h2 h3)]; exact h2, h3⟩
/-- the list of the bags is none of them -/
theorem bags_list {bs : List Addr} {H : Hp} {L : Addr} (hB : Bags bs H) (hL : H L = some (.lst (bs.map V.ref))) : L ∉ bs := fun z => by
  obtain ⟨d, c, ds, h1, _⟩ := hB L z
  rw [hL] at h1
  have e2 := HO.lst.inj (Option.some.inj h1)
  match bs, e2 with
  | [_, _], e2 => simp at e2
theorem ref_at {bs : List Addr} {i : Nat} {x : V} (hx : (bs.map V.ref)[i]? = some x) : ∃ b, b ∈ bs ∧ x = V.ref b := by
  rw [List.getElem?_map] at hx
  cases hg : bs[i]? with
  | none =>
    rw [hg] at hx
    cases hx
  | some b =>
    rw [hg] at hx
    exact ⟨b, List.mem_of_getElem? hg, (Option.some.inj hx).symm⟩
theorem int_at {ns : List Int} {i : Nat} {x : V} (hx : (ns.map V.int)[i]? = some x) : ∃ n, ns[i]? = some n ∧ x = V.int n := by
  rw [List.getElem?_map] at hx
  cases hg : ns[i]? with
  | none =>
    rw [hg] at hx
    cases hx
  | some b =>
    rw [hg] at hx
    exact ⟨b, rfl, (Option.some.inj hx).symm⟩
theorem Kp.mut {bs : List Addr} {H0 H : Hp} {p : Addr} {o : HO} (k : Kp bs H0 H) (n : H0 p = none) : Kp bs H0 (upd H p o) := fun a u na h => by
  rw [upd_ne (ne_of_none h n)]
  exact k a u na h
theorem Kp.new {bs : List Addr} {H0 H : Hp} {p : Addr} {o : HO} (k : Kp bs H0 H) (n : H p = none) : Kp bs H0 (upd H p o) := fun a u na h => by
  rw [upd_ne (ne_of_none (k a u na h) n)]
  exact k a u na h
end Wc
namespace Wc
open PySem PySem.Spec PyProof.Rows L2
open Evl (Ex ex_l ex_t fresh_back)
/-! ### where an exception is handled: iterators that end, tuples unpacked -/
section
open HandSPX HotX L2H
variable {prog : Program} {w : World} {A : Around} {E : Value → Shared → Prop} {s : Shared}
theorem nextL_hot {it l x1 : Addr} {i : Nat} {items : Array Value} {Q : Option Value → Shared → Prop} (hot : HotAt A x1 s.heap) (hne : it ≠ x1) (hit : s.heap.IsListIter it l i) (hl : s.heap.IsList l items) (hx : items[i]? = none)
    (hQ : ∀ h', Heap.ExtBut it s.heap h' → Q none { s with heap := h' }) : wpAny (model prog w) A (pyNext (.ref it)) Q E s := by
  have ⟨o, ho, hc, hd⟩ := hit
  have ⟨ol, hol, _, nl, hdl⟩ := hl
  have ⟨hh, o1, vs1, h1, d1, c1⟩ := hot
  unfold pyNext
  refine wpAny_bind (wpAny_attempt (wpAny_callSpecial?_slot (name := Str.ofString "__next__") hit.typeIs slot_listiter_next (wpAny_call_entry slot_listiter_next hit.typeIs entry_listiter_next ?_ (args_listiter_next _))))
  show wpAny _ _ (field (.ref it) 0 >>= _) _ _ s; refine wpAny_bind (wpAny_field ho hd (x := .ref l) rfl ?_)
  show wpAny _ _ (if (Value.ref l == Value.none) = true then _ else _) _ _ s; rw [if_neg (fun z : (Value.ref l == Value.none) = true => Bool.false_ne_true z)]
  show wpAny _ _ (field (.ref it) 1 >>= _) _ _ s; refine wpAny_bind (wpAny_field ho hd (x := .int i 0) rfl ?_)
  show wpAny _ _ (seqItems? (.ref l) >>= _) _ _ s; refine wpAny_bind (wpAny_seqItems hol hdl ?_); simp only [Int.toNat_natCast, hx]
  refine wpAny_bind (wpAny_rule (wpAny_bind (wpAny_setField ho hd (by simp) ?_))); show wpAny _ _ (newExc (.type "StopIteration") [] >>= _) _ _ _
  refine wpAny_bind ?_; simp only [newExc, newTuple]; refine wpAny_bind (wpAny_newObj_type ?_ (by size_fits))
  refine wpAny_bind (m := firstArgMember _ _) (wpAny_of_eq (a := Value.none) (by first | rfl | (simp only [firstArgMember]; rfl)) ?_); refine wpAny_newObj_type ?_ (by size_fits)
  have h1' : (s.heap.update it (Obj.mapFields (·.setIfInBounds 0 Value.none))).get? x1 = some o1 := by rw [Heap.get?_update_other _ _ hne]; exact h1
  refine raiseNew_hot ⟨hh, o1, vs1, Heap.get?_push_of_some _ (Heap.get?_push_of_some _ h1'), d1, c1⟩ (Nat.ne_of_lt (Heap.lt_size (Heap.get?_push_of_some _ h1'))) (Heap.get?_push_size _ rfl) rfl (by first | (simp; done) | (simp; omega)) ?_
  refine wpAny_bind (wpAny_isInstance (T := "StopIteration") (b := true) ⟨_, Heap.get?_update_self _ (Heap.get?_push_size _ rfl) rfl, rfl⟩ isSubtype_stop (wpAny_pure (hQ _ fun b ob hb e => ?_)))
  have e1 : (s.heap.update it (Obj.mapFields (·.setIfInBounds 0 Value.none))).get? b = some ob := by rw [Heap.get?_update_other _ _ (Ne.symm hb)]; exact e
  rw [Heap.get?_update_other _ _ (Nat.ne_of_gt (Heap.lt_size (Heap.get?_push_of_some _ e1)))]; exact Heap.get?_push_of_some _ (Heap.get?_push_of_some _ e1)
theorem nextT_hot {it t x1 : Addr} {i : Nat} {items : Array Value} {Q : Option Value → Shared → Prop} (hot : HotAt A x1 s.heap) (hne : it ≠ x1) (hit : IsTupIter s.heap it t i) (ht : IsTup s.heap t items) (hx : items[i]? = none)
    (hQ : ∀ h', Heap.ExtBut it s.heap h' → Q none { s with heap := h' }) : wpAny (model prog w) A (pyNext (.ref it)) Q E s := by
  have ⟨o, ho, hc, hd⟩ := hit
  have ⟨ol, hol, _, nl, hdl⟩ := ht
  have ⟨hh, o1, vs1, h1, d1, c1⟩ := hot
  unfold pyNext
  refine wpAny_bind (wpAny_attempt (wpAny_callSpecial?_slot (name := Str.ofString "__next__") hit.typeIs slot_tupleiter_next (wpAny_call_entry slot_tupleiter_next hit.typeIs entry_tupleiter_next ?_ (args_tupleiter_next _))))
  show wpAny _ _ (field (.ref it) 0 >>= _) _ _ s; refine wpAny_bind (wpAny_field ho hd (x := .ref t) rfl ?_)
  show wpAny _ _ (if (Value.ref t == Value.none) = true then _ else _) _ _ s; rw [if_neg (fun z : (Value.ref t == Value.none) = true => Bool.false_ne_true z)]
  show wpAny _ _ (field (.ref it) 1 >>= _) _ _ s; refine wpAny_bind (wpAny_field ho hd (x := .int i 0) rfl ?_)
  show wpAny _ _ (seqItems? (.ref t) >>= _) _ _ s; refine wpAny_bind (wpAny_seqItems hol hdl ?_); simp only [Int.toNat_natCast, hx]
  refine wpAny_bind (wpAny_rule (wpAny_bind (wpAny_setField ho hd (by simp) ?_))); show wpAny _ _ (newExc (.type "StopIteration") [] >>= _) _ _ _
  refine wpAny_bind ?_; simp only [newExc, newTuple]; refine wpAny_bind (wpAny_newObj_type ?_ (by size_fits))
  refine wpAny_bind (m := firstArgMember _ _) (wpAny_of_eq (a := Value.none) (by first | rfl | (simp only [firstArgMember]; rfl)) ?_); refine wpAny_newObj_type ?_ (by size_fits)
  have h1' : (s.heap.update it (Obj.mapFields (·.setIfInBounds 0 Value.none))).get? x1 = some o1 := by rw [Heap.get?_update_other _ _ hne]; exact h1
  refine raiseNew_hot ⟨hh, o1, vs1, Heap.get?_push_of_some _ (Heap.get?_push_of_some _ h1'), d1, c1⟩ (Nat.ne_of_lt (Heap.lt_size (Heap.get?_push_of_some _ h1'))) (Heap.get?_push_size _ rfl) rfl (by first | (simp; done) | (simp; omega)) ?_
  refine wpAny_bind (wpAny_isInstance (T := "StopIteration") (b := true) ⟨_, Heap.get?_update_self _ (Heap.get?_push_size _ rfl) rfl, rfl⟩ isSubtype_stop (wpAny_pure (hQ _ fun b ob hb e => ?_)))
  have e1 : (s.heap.update it (Obj.mapFields (·.setIfInBounds 0 Value.none))).get? b = some ob := by rw [Heap.get?_update_other _ _ (Ne.symm hb)]; exact e
  rw [Heap.get?_update_other _ _ (Nat.ne_of_gt (Heap.lt_size (Heap.get?_push_of_some _ e1)))]; exact Heap.get?_push_of_some _ (Heap.get?_push_of_some _ e1)
theorem unpackT_hot {t x1 : Addr} {items : Array Value} {targets : List (Bool × (Value → Sem Unit))} {Q : Unit → Shared → Prop} (hot : HotAt A x1 s.heap) (ht : IsTup s.heap t items) (hn : targets.length = items.size) (hstar : targets.findIdx? (·.1) = none)
    (h : ∀ h', Heap.ExtBut s.heap.objs.size s.heap h' → wpAny (model prog w) A (assignInOrder (targets.map (·.2)) items.toList) Q E { s with heap := h' }) : wpAny (model prog w) A (unpack (.ref t) targets) Q E s := by
  have ⟨hh, o1, vs1, h1, d1, c1⟩ := hot
  have hlt : t ≠ s.heap.objs.size := by have ⟨o, ho, _⟩ := ht; exact Nat.ne_of_lt (Heap.lt_size ho)
  unfold unpack; rw [hn, hstar]
  refine wpAny_bind (wpAny_holding ?_); unfold unpackItems; refine wpAny_bind ?_; unfold notIterableAtAll
  refine wpAny_bind (wpAny_specialOf ht.typeIs slot_tuple_iter.lookup (wpAny_pure ?_)); simp only [Bool.false_eq_true, if_false]
  refine wpAny_bind (wpAny_holding (iter_tuple ht (wpAny_bind (wpAny_holding (draw_tuple hlt items.size 0 _ _ ⟨_, Heap.get?_push_size _ rfl, rfl, rfl⟩ (ht.push _) (by omega) fun h₁ hit₁ hs₁ => ?_)))))
  have hall : List.take items.size (List.drop 0 items.toList) = items.toList := by rw [List.drop_zero]; exact List.take_of_length_le (by simp)
  rw [hall, if_neg (by simp)]
  have ht₁ : IsTup h₁ t items := (ht.push _).extBut hs₁.extBut hlt
  have x1lt : x1 ≠ s.heap.objs.size := Nat.ne_of_lt (Heap.lt_size h1)
  have h1' : h₁.get? x1 = some o1 := hs₁.extBut x1 o1 x1lt (Heap.get?_push_of_some _ h1)
  refine wpAny_bind (wpAny_holding (nextT_hot (s := { s with heap := h₁ }) ⟨hh, o1, vs1, h1', d1, c1⟩ (Ne.symm x1lt) hit₁ ht₁ (by simp) fun h₂ he₂ => ?_)); simp only [Option.isSome_none, Bool.false_eq_true, if_false]
  exact wpAny_pure (h h₂ fun b o hb e => he₂ b o hb (hs₁.extBut b o hb (Heap.get?_push_of_some _ e)))
end
/-- in this context an exception is handled, at all times -/
def HotI (Y : Cx) : Prop := ∀ (pins : List (Addr × Obj)) (σ : L2.St) (H : Hp) (s : Shared), Inv Y pins σ H s → ∃ x1, HotX.HotAt Y.A x1 s.heap ∧ H x1 = none
theorem pg_tupH {Y : Cx} {es : List Expr} {k : Nat} {t : TGs} {n : Nat} {pos : Pos} (hot : HotI Y) (h : PGs Y es t) (hn : (assignEach es Y.env).length = n := by rfl) (hst : (assignEach es Y.env).findIdx? (·.1) = none := by rfl) : PG Y (.Tuple es k pos) (gTup Y.K n t) := by
  refine ⟨fun pins s σ H v u Q I r hw => ?_⟩
  obtain ⟨a, xs, rfl, hq, hl, hw⟩ := hw
  cases r
  have ⟨its, rv, ht, hz⟩ := I.tuple hq
  have ⟨x1, hx1, _⟩ := hot pins σ H s I
  rw [assign_Tuple]
  refine wpAny_bind (wpAny_standAt (unpackT_hot hx1 ht (by simp [hn, ← hl, rv.length]) hst fun h' hx => ?_))
  have I1 : Inv Y pins σ H { s with heap := h' } := I.kept (t' := s.toks) fun b o e => hx b o (Nat.ne_of_lt (Heap.lt_size e)) e
  exact h.run pins _ σ H xs _ Q I1 (by simpa using rv) hw
theorem lcH_core {X : Cx} {pins : List (Addr × Obj)} {s : Shared} {σ : L2.St} {H : Hp} {Q : VK} {elt tg iter : Expr} {ifs : List Expr} {scope : Scope} {own : List (Str × Nat)} {pos pos' : Pos} {tl : TE} {g : TG} {tt : TT} {te : TE} {Qf : Value → Shared → Prop}
    (hot : ∀ (pins : List (Addr × Obj)) (σ : L2.St) (H : Hp) (s : Shared), Inv X pins σ H s → ∃ x1, HotX.HotAt X.A x1 s.heap ∧ H x1 = none ∧ x1 ∉ frs X.stack) (hN : X.N.Nodup) (I : Inv X pins σ H s) (hi : PE X iter tl) (ok : BlkOk X.N X.env.scope scope own)
    (hg : ∀ (s : Shared) (H : Hp) (C : Addr) (cl : List (Str × Addr)) (fp : List Addr), HotI (X.blk s H scope (compEnvC scope cl C X.env) fp) → PG (X.blk s H scope (compEnvC scope cl C X.env) fp) tg g)
    (ht : ∀ (s : Shared) (H : Hp) (C : Addr) (cl : List (Str × Addr)) (fp : List Addr), PTs (X.blk s H scope (compEnvC scope cl C X.env) fp) ifs tt) (he : ∀ (s : Shared) (H : Hp) (C : Addr) (cl : List (Str × Addr)) (fp : List Addr), PE (X.blk s H scope (compEnvC scope cl C X.env) fp) elt te)
    (hs : ∀ x, foldedSetIterable iter X.env x = pure x) (h : tLc (iList X.K tl) g tt te (own.map (·.2)) σ H Q)
    (hend : ∀ D C s' m H', Inv X pins σ H' s' → Q (.ref D) H' → s'.heap.Ns C m → FpOk X pins H' C → compPost (model X.prog X.w) X.A X.xe none Qf (.ref D) C (.ok .next) s') :
    wpAny (model X.prog X.w) X.A (comprehension (.ListComp elt [⟨tg, iter, ifs, 0⟩] scope pos) scope X.env pos' (newList []) false (eval iter X.env) none) Qf X.xe s := by
  have hfree : ∀ y ∈ scope.names, y.2 = .free → ∃ c, X.env.cells.lookup y.1 = some c := fun y hy e => (ok.free y hy e).elim (fun k => I.ok.has _ (.inl k)) fun k => I.ok.has _ (.inr k)
  refine wpAny_comprehension_free (use := none) rfl hs (closure_ok hfree) ok.kind (fun y hy e => by rw [ok.uniq y hy, e]) (thn (hi.run pins s σ H _ I h) fun xv s1 ⟨x, H1, I1, r1, q1⟩ => ?_)
  have ⟨a, ea, ⟨xs0, hq0⟩, q⟩ := q1
  subst ea; cases r1
  have ⟨its0, rv0, p0, hz0⟩ := I1.list hq0
  refine wpAny_pyIter_list p0.isList ?_
  have ⟨x1, ⟨hh1, o1, vs1, g1, d1, c1⟩, hx1, nx1⟩ := hot pins σ H1 s1 I1
  have x1lt := Heap.lt_size g1
  generalize hitE : s1.heap.objs.size = it at x1lt ⊢
  have I2 : Inv X pins σ H1 { s1 with heap := s1.heap.push { cls := .type "list_iterator", data := .fields #[.ref a, .int 0 0] } } := I1.kept (t' := s1.toks) fun b o e => Heap.get?_push_of_some _ e
  have st2 : (s1.heap.push { cls := .type "list_iterator", data := .fields #[.ref a, .int 0 0] }).IsListIter it a 0 := by rw [← hitE]; exact ⟨_, Heap.get?_push_size _ rfl, rfl, rfl⟩
  have fit : FpOk X pins H1 it := by rw [← hitE]; exact I1.fpOk (Nat.le_refl _) (I1.hok.fresh (Nat.le_refl _))
  have g2 : (s1.heap.push { cls := .type "list_iterator", data := .fields #[.ref a, .int 0 0] }).get? x1 = some o1 := Heap.get?_push_of_some _ g1
  have itlt : it < (s1.heap.push { cls := .type "list_iterator", data := .fields #[.ref a, .int 0 0] }).objs.size := by rw [Heap.size_push, ← hitE]; exact Nat.lt_succ_self _
  show wpAny _ _ (newList []) _ _ { s1 with heap := s1.heap.push { cls := .type "list_iterator", data := .fields #[.ref a, .int 0 0] } }
  generalize hs2 : ({ s1 with heap := s1.heap.push { cls := .type "list_iterator", data := .fields #[.ref a, .int 0 0] } } : Shared) = s2 at I2 ⊢
  have h2 : s2.heap = s1.heap.push { cls := .type "list_iterator", data := .fields #[.ref a, .int 0 0] } := by rw [← hs2]
  rw [← h2] at st2 g2 itlt
  refine wpAny_newObj_type (newEnv_comp ?_) (by show 0 ≤ sizeLine; decide)
  generalize hD : s2.heap.objs.size = D
  have nD : H1 D = none := I2.hok.fresh (Nat.le_of_eq hD)
  have ⟨W, ⟨m0, w0⟩, turn⟩ := q D nD
  have itD : it ≠ D := by rw [← hD]; exact Nat.ne_of_lt itlt
  have x1D : x1 ≠ D := by rw [← hD]; exact Nat.ne_of_lt (Heap.lt_size g2)
  have x1it : x1 ≠ it := Nat.ne_of_lt x1lt
  generalize hs3 : ({ s2 with heap := s2.heap.push { cls := .type "list", data := .seq ([] : List Value).toArray } } : Shared) = s3
  have h3 : s3.heap = s2.heap.push { cls := .type "list", data := .seq ([] : List Value).toArray } := by rw [← hs3]
  have I3 : Inv X pins σ (upd H1 D (.lst [])) s3 := by
    rw [← hs3]; refine I2.laid (t' := s2.toks) (fun b o e => Heap.get?_push_of_some _ e) (Nat.le_of_eq hD) ⟨Nat.zero_le _, [], 0, .nil, ?_⟩; rw [← hD]; exact Heap.get?_push_size _ rfl
  have g3 : s3.heap.get? x1 = some o1 := by rw [h3]; exact Heap.get?_push_of_some _ g2
  have hx3 : (upd H1 D (.lst [])) x1 = none := by rw [upd_ne x1D]; exact hx1
  have st3 : s3.heap.IsListIter it a 0 := st2.at fun o e => by rw [h3]; exact Heap.get?_push_of_some _ e
  have f3 : ∀ b ∈ [it], FpOk X pins (upd H1 D (.lst [])) b ∧ b < s3.heap.objs.size := fun b hb => by
    rw [List.mem_singleton.mp hb]; exact ⟨⟨by rw [upd_ne itD]; exact fit.1, fit.2⟩, by rw [h3, Heap.size_push]; exact Nat.lt_succ_of_lt itlt⟩
  have I4 := block_start I3 ok hN f3
  have pt := ht s3 (upd H1 D (.lst [])) s3.heap.objs.size (cellsFrom (s3.heap.objs.size + 1) scope.names (cloFrom X.env.cells scope.names [])) [it]
  have pe := he s3 (upd H1 D (.lst [])) s3.heap.objs.size (cellsFrom (s3.heap.objs.size + 1) scope.names (cloFrom X.env.cells scope.names [])) [it]
  have hotB : HotI (X.blk s3 (upd H1 D (.lst [])) scope (compEnvC scope (cellsFrom (s3.heap.objs.size + 1) scope.names (cloFrom X.env.cells scope.names [])) s3.heap.objs.size X.env) [it]) := fun pins' σ' H' s' I' => by
    have nit : x1 ∉ [it] := fun z => x1it (List.mem_singleton.mp z)
    exact ⟨x1, ⟨hh1, o1, vs1, I'.base.keep x1 o1 g3 hx3 nx1 nit, d1, c1⟩, I'.base.free x1 o1 g3 hx3 nit⟩
  have pg := hg s3 (upd H1 D (.lst [])) s3.heap.objs.size (cellsFrom (s3.heap.objs.size + 1) scope.names (cloFrom X.env.cells scope.names [])) [it] hotB
  show codeAny _ _ (.compStart (.ListComp elt [⟨tg, iter, ifs, 0⟩] scope pos) 0 (.ref it) (.ref D) (compEnvC scope (cellsFrom (s3.heap.objs.size + 1) scope.names (cloFrom X.env.cells scope.names [])) s3.heap.objs.size X.env)) (compPost (model X.prog X.w) X.A X.xe none Qf (.ref D) s3.heap.objs.size) { s3 with heap := pushCells (s3.heap.push { cls := .type "dict", data := .dict #[] }) scope.names }
  have nit3 : (upd H1 D (.lst [])) it = none := (f3 it (List.mem_singleton.mpr rfl)).1.1
  have fx := (f3 it (List.mem_singleton.mpr rfl)).1
  generalize hce : compEnvC scope (cellsFrom (s3.heap.objs.size + 1) scope.names (cloFrom X.env.cells scope.names [])) s3.heap.objs.size X.env = ce at I4 pg pt pe hotB ⊢
  have cL : ce.locals = s3.heap.objs.size := by subst hce; rfl
  generalize hH3 : upd H1 D (.lst []) = H3 at I3 I4 pg pt pe hotB w0 nit3 fx hx3
  generalize hs4 : ({ s3 with heap := pushCells (s3.heap.push { cls := .type "dict", data := .dict #[] }) scope.names } : Shared) = s4 at I4 ⊢
  have st4 : s4.heap.IsListIter it a 0 := st3.at fun o e => by rw [← hs4]; exact pushCells_keeps _ _ _ _ (Heap.get?_push_of_some _ e)
  have stat : ∀ {σ' : L2.St} {H' : Hp} {s' : Shared}, Inv (X.blk s3 H3 scope ce [it]) [] σ' H' s' → H' it = none → FpOk (X.blk s3 H3 scope ce [it]) [] H' it := fun {σ' H' s'} I' hn =>
    have hb : it ∈ [it] := List.mem_singleton.mpr rfl
    ⟨hn, (I'.ok.exf it hb).1, I'.ok.exfs it hb, .inl hb, fun x c e => (I'.ok.exf it hb).2 x c e, fun p hp => absurd (show p ∈ ([] : List (Addr × Obj)) ++ [] from hp) (by simp)⟩
  have loop : codeAny (model X.prog X.w) X.A (.compLoop (.ListComp elt [⟨tg, iter, ifs, 0⟩] scope pos) 0 (.ref it) (.ref D) ce) (compPost (model X.prog X.w) X.A X.xe none Qf (.ref D) s3.heap.objs.size) s4 := by
    refine compLoop_any (fun n s' => ∃ i H', Inv (X.blk s3 H3 scope ce [it]) [] (wipe σ (own.map (·.2))) H' s' ∧ s'.heap.IsListIter it a i ∧ H' it = none ∧ W i n H') ?_ m0 ⟨0, H3, I4, st4, nit3, w0⟩
    rintro n s5 ⟨i, H5, I5, st5, n5, w5⟩
    have ⟨f0, f1, f2, f3', f4, f5⟩ := stat I5 n5
    rcases turn i n H5 w5 with ⟨⟨xs, hq, hlen⟩, qq⟩ | ⟨⟨xs, x, hq, hx⟩, Nx, hNx, step⟩
    · have ⟨its, rv, p, hz⟩ := I5.list hq
      have hl := rv.length
      have ⟨y1, hy1, _⟩ := hotB [] _ H5 s5 I5
      have ny1 : it ≠ y1 := fun z => by
        have ⟨_, o2, vs2, k1, k2, k3⟩ := hy1
        have ⟨o3, k4, _, k5⟩ := st5
        rw [← z, k4] at k1; cases k1; rw [k5] at k2; cases k2; cases k3
      refine nextL_hot hy1 ny1 st5 p.isList (by simp; omega) fun h' eb => ?_
      have I6 : Inv (X.blk s3 H3 scope ce [it]) [] (wipe σ (own.map (·.2))) H5 { s5 with heap := h' } := I5.turned (t' := s5.toks) (fun b o hb e => eb b o hb e) f0 f1 f3' f4 f5
      have I7 : Inv X pins σ H5 { s5 with heap := h' } := I3.call' (ch := [it]) I6.os I6.base I6.hok I6.bare fun b hb => by rw [List.mem_singleton.mp hb]; exact ⟨fx.2.2.2.1, fx.2.1, fx.2.2.2.2.1, fx.2.2.2.2.2⟩
      have nC : H5 s3.heap.objs.size = none := by rw [← cL]; exact I6.free
      have ⟨m, hn, _⟩ := I6.loc
      have hn' : h'.Ns ce.locals m := hn
      rw [cL] at hn'; exact hend D s3.heap.objs.size _ m H5 I7 qq hn' (I3.fpOk (Nat.le_refl _) nC)
    · have ⟨its, rv, p, hz⟩ := I5.list hq
      have ⟨u, hu, ru⟩ := rv.get hx
      refine wpAny_pyNext_list_item st5 p.isList (x := u) (by simpa using hu) fun h' st' sb => ?_
      have I6 : Inv (X.blk s3 H3 scope ce [it]) [] (wipe σ (own.map (·.2))) H5 { s5 with heap := h' } := I5.turned (t' := s5.toks) (fun b o hb e => (sb.2 b hb).trans e) f0 f1 f3' f4 f5
      have ⟨oi, ei, ci, di⟩ := st'
      refine go_of (s := { s5 with heap := h' }) ei ci di (by decide) ?_
      have T := turn_list (P := X.prog) (w := X.w) (K := X.K) (tg := tg) a it
      have I7' := I6.pinned (fp := [it]) (fun b hb => by rw [List.mem_singleton.mp hb]; exact stat I6 n5) (T.obj _ _ st')
      refine thnF (pg.run _ _ _ H5 x u _ I7' ru (step x H5 ⟨rfl, fun ys hy => by rw [I5.list_inj hy hq]; exact hx⟩)) fun _ s8 ⟨σ8, H8, I8, hw8, q8⟩ => ?_
      refine thnF (pt.run _ s8 σ8 H8 _ I8 q8) fun b s9 ⟨H9, I9, q9⟩ => ?_
      have fin : ∀ {s' : Shared} {H' : Hp}, Inv (X.blk s3 H3 scope ce [it]) ([] ++ pinsAt [it] h') σ8 H' s' → Nx H' → ∃ m, m < n ∧ ∃ i H', Inv (X.blk s3 H3 scope ce [it]) [] (wipe σ (own.map (·.2))) H' s' ∧ s'.heap.IsListIter it a i ∧ H' it = none ∧ W i m H' := fun {s' H'} I' nx => by
        have ⟨m', hm, w'⟩ := hNx H' nx
        have zp := I'.pin (it, oi) (List.mem_append_right _ (List.mem_append_right _ (mem_pinsAt (List.mem_singleton.mpr rfl) ei)))
        have hl : (wipe σ (own.map (·.2))).length = σ8.length := by rw [← hw8, wipe_length]
        exact ⟨m', hm, i + 1, H', (I'.unpinned (pins := [])).weak hl (fun j v e => by rw [← hw8] at e; exact (wipe_some e).1), st'.at fun o e => by rw [ei] at e; cases e; exact zp.1, zp.2.1, w'⟩
      cases b with
      | false => simp only [Bool.false_eq_true, if_false] at q9 ⊢; exact fin I9 q9
      | true => simp only [if_true] at q9 ⊢; exact thnF (pe.run _ s9 σ8 H9 _ I9 q9) fun z s10 ⟨yv, H10, I10, r10, acc, hD10, hz10, nx⟩ => app_ok (X := X.blk s3 H3 scope ce [it]) I10 hD10 hz10 r10 fun s11 I11 => fin I11 nx
  exact codeAny_compStart_list loop (wpAny_pyIter_listiter st4 loop)
theorem pe_lcH {X : Cx} {elt tg iter : Expr} {ifs : List Expr} {scope : Scope} {own : List (Str × Nat)} {pos : Pos} {tl : TE} {g : TG} {tt : TT} {te : TE}
    (hot : ∀ (pins : List (Addr × Obj)) (σ : L2.St) (H : Hp) (s : Shared), Inv X pins σ H s → ∃ x1, HotX.HotAt X.A x1 s.heap ∧ H x1 = none ∧ x1 ∉ frs X.stack) (hN : X.N.Nodup) (hi : PE X iter tl) (ok : BlkOk X.N X.env.scope scope own)
    (hg : ∀ (s : Shared) (H : Hp) (C : Addr) (cl : List (Str × Addr)) (fp : List Addr), HotI (X.blk s H scope (compEnvC scope cl C X.env) fp) → PG (X.blk s H scope (compEnvC scope cl C X.env) fp) tg g)
    (ht : ∀ (s : Shared) (H : Hp) (C : Addr) (cl : List (Str × Addr)) (fp : List Addr), PTs (X.blk s H scope (compEnvC scope cl C X.env) fp) ifs tt) (he : ∀ (s : Shared) (H : Hp) (C : Addr) (cl : List (Str × Addr)) (fp : List Addr), PE (X.blk s H scope (compEnvC scope cl C X.env) fp) elt te)
    (hs : ∀ x, foldedSetIterable iter X.env x = pure x := by intro _; rfl) : PE X (.ListComp elt [⟨tg, iter, ifs, 0⟩] scope pos) (tLc (iList X.K tl) g tt te (own.map (·.2))) := by
  refine ⟨fun pins s σ H Q I h => ?_⟩
  rw [eval_ListComp]
  refine lcH_core hot hN I hi ok hg ht he hs h fun D C s' m H' I' q hn f => ⟨m, hn, fun h'' sb => ?_⟩
  have ⟨f0, f1, f2, f3, f4, f5⟩ := f
  exact ⟨.ref D, H', I'.turned (t' := s'.toks) (fun b o hb e => (sb.2 b hb).trans e) f0 f1 f3 f4 f5, rfl, q⟩
/-- an except suite's context -/
theorem hot_suite {X : Cx} {a : Addr} {oe : Obj} {cls : Value} {d : Option Addr} {pn : List (Addr × Obj)} (hs : X.stack = X.env :: X.outer) (hf : X.env.frame = some X.env.locals) (hz : L2N.Zn cls d oe) (hfl : ∃ vs, oe.data = .fields vs) :
    ∀ (pins : List (Addr × Obj)) (σ : L2.St) (H : Hp) (s : Shared), Inv (X.suite a ((a, oe) :: pn)) pins σ H s → ∃ x1, HotX.HotAt (X.suite a ((a, oe) :: pn)).A x1 s.heap ∧ H x1 = none ∧ x1 ∉ frs (X.suite a ((a, oe) :: pn)).stack := fun pins σ H s I => by
  have ⟨p1, p2, p3, p4, _⟩ := I.pin (a, oe) (List.mem_append_left _ List.mem_cons_self)
  obtain ⟨vs, hv⟩ := hfl
  refine ⟨a, ⟨rfl, oe, vs, p1, hv, hz.2.2 vs hv⟩, p2, fun z => ?_⟩
  have z : a ∈ frs X.stack := z
  rw [hs] at z
  have e : frs (X.env :: X.outer) = X.env.locals :: frs X.outer := by
    show List.filterMap _ (X.env :: X.outer) = _
    rw [List.filterMap_cons, hf]
    rfl
  rw [e] at z
  rcases List.mem_cons.mp z with z | z
  · exact p3 z
  · exact p4 z
/-! ### several except clauses with names -/
def endsAt (D : Ends) (i : Nat) : Ends := { nx := fun σ' H' => D.nx (σ'.set i none) H', rt := D.rt, bk := fun σ' H' => D.bk (σ'.set i none) H', ct := fun σ' H' => D.ct (σ'.set i none) H' }
abbrev NHd := Value × Nat × (Addr → Value → Option Addr → TS)
def wNam (K : PySem.W.Frag) (Wout : WX) (D : Ends) : List NHd → WX
  | [] => Wout
  | (c, i, ts) :: r => fun cls d σ H => ∃ b, PySem.W.exmOne K cls c = some b ∧ (b = true → ∀ a, H a = none → ts a cls d (endsAt D i) (σ.set i (some (.ref a))) H) ∧ (b = false → wNam K Wout D r cls d σ H)
inductive HdsN (X : Cx) : List ExceptHandler → List NHd → Prop
  | nil : HdsN X [] []
  | cons {x n : Str} {i : Nat} {c : Value} {ts : Addr → Value → Option Addr → TS} {b₀ : Stmt} {suite : List Stmt} {np pos' : Pos} {hds : List ExceptHandler} {l : List NHd} (hc : Names X x c) (hi : X.N[i]? = some n) (hln : X.env.kindOf n = some .local)
      (hsu : ∀ (a : Addr) (oe : Obj) (cls : Value) (d : Option Addr) (pn : List (Addr × Obj)), L2N.Zn cls d oe → (∃ vs, oe.data = .fields vs) → PSs (X.suite a ((a, oe) :: pn)) (b₀ :: suite) (ts a cls d)) (r : HdsN X hds l) :
      HdsN X (.ExceptHandler (some (.Name x np)) (some n) (b₀ :: suite) pos' :: hds) ((c, i, ts) :: l)
section
open L2N HandSPX
variable {X : Cx} {body : List Stmt} {h₀ : ExceptHandler} {hds : List ExceptHandler} {l : List NHd} {pos : Pos} {tb : WX → TS} {Wout : WX}
theorem ps_try_nam (hs : X.stack = X.env :: X.outer) (hf : X.env.frame = some X.env.locals) (hN : X.N.Nodup) (tk : L2N.Takes X Wout) (hb : ∀ (W : WX) (pn : List (Addr × Obj)) (xe : Value → Shared → Prop), L2N.Takes (X.tr pn xe) W → PassesOwn (model X.prog X.w) X.A X.env xe → PSs (X.tr pn xe) body (tb W))
    (hh : HdsN X (h₀ :: hds) l) : PS X (.Try body (h₀ :: hds) [] [] pos) (fun D σ H => tb (wNam X.K Wout D l) D σ H) := by
  refine ⟨fun pins s σ H D I h => ?_⟩
  have ok := I.ok
  have hfr : X.A.frames = some (X.env :: X.outer) := by rw [ok.frames, hs]
  refine wpAny_Try_except (wpAny_mono ((hb (wNam X.K Wout D l) (X.pn ++ pins) (fun e s₁ => wpAny (model X.prog X.w) X.A (noteFrame e X.env) (fun _ s₂ => wpAny (model X.prog X.w) X.A (setFlight e none) (fun _ s₃ => wpAny (model X.prog X.w) X.A (handleBy e X.env (h₀ :: hds)) (SP X pins D) X.xe s₃) X.xe s₂) X.xe s₁)
    (fun u s' xx => ?_) PassesOwn.looking).run [] s σ H D (I.toTry _) h) (fun f s1 hsp => ?_) fun e s1 he => he)
  · obtain ⟨a, B, sI, pins', σ', H', cls, d, rfl, J', nb, up, sky, na, os, ag, wish⟩ := xx
    have J : Inv X pins σ' H' sI := J'.ofTry ok
    have sky' : Sky B (X.env :: X.outer) a (L2N.Zn cls d) X.env.locals s'.heap := by rw [← hs]; exact sky
    show wpAny (model X.prog X.w) X.A (noteFrame (.ref a) X.env) _ _ _
    refine Sky.land Zn.steady hfr hf sky' fun h3 fl3 up3 => ?_
    have J3 : Inv X pins σ' H' { s' with heap := h3 } := J.landed nb fl3.1 (up.trans up3) os ag
    have ⟨oe3, vs3, he3, hz3, hd3⟩ := fl3.there
    have nfr : a ∉ frs (X.env :: X.outer) := fun hm => by
      have ⟨_, o', e', hnf⟩ := fl3.2.2.1.mem hm
      rw [he3] at e'; cases e'; exact hnf _ hd3
    have nL : a ≠ X.env.locals := fun z => nfr (List.mem_filterMap.mpr ⟨X.env, List.mem_cons_self, by rw [hf, z]⟩)
    have nF : a ∉ X.fs := fun hm => by
      have ⟨e, he, q⟩ := List.mem_filterMap.mp hm
      exact nfr (List.mem_filterMap.mpr ⟨e, List.mem_cons_of_mem _ he, q⟩)
    have S3 := J3.suite he3 hd3 na nL nF
    have go : ∀ {hds' : List ExceptHandler} {l' : List NHd}, HdsN X hds' l' → wNam X.K Wout D l' cls d σ' H' → wpAny (model X.prog X.w) X.A (handleBy (.ref a) X.env hds') (SP X pins D) X.xe { s' with heap := h3 } := by
      intro hds' l' hk
      induction hk with
      | nil =>
        intro wish
        refine wpAny_handleBy_nil ?_
        have ⟨k1, k2, k3, oe, vs, T, oT, ts', he, hz, hd, h1, hr⟩ := fl3
        unfold PySem.passOn; refine wpAny_bind (wpAny_field he hd h1 ?_); rw [if_neg (fun z : (Value.ref T == Value.none) = true => by simp at z)]
        have fin : wpAny (model X.prog X.w) X.A (setFlight (.ref a) X.env.frame) (fun _ s4 => wpAny (model X.prog X.w) X.A (throw (.ref a) : Sem Flow) (SP X pins D) X.xe s4) X.xe { s' with heap := h3 } := by
          rw [hf]; exact HandSPX.setFlight_upZ fl3 fun h4 hh4 up4 => wpAny_throw (tk _ _ ⟨a, B, sI, pins, σ', H', cls, d, rfl, J, nb, (up.trans up3).trans up4, .inr (.inr (by rw [hs]; exact hh4)), na, os, ag, wish⟩)
        first | exact wpAny_bind (wpAny_pure (wpAny_bind fin)) | exact wpAny_bind fin
      | @cons x n i c ts b₀ suite np pos' hds2 l2 hc hi hln hsu r ih =>
        rintro ⟨b, hb1, hyes, hno⟩
        have hloc : Loc X.env.scope n := .inl hln
        refine wpAny_handleBy_cons (codeAny_handlers_test ?_) (by intro q; cases q)
        have LT : PySem.W.Looks (model X.prog X.w) h3 (typeOf (.ref a)) cls := fun A Q E s k q => wpAny_typeOf_ref (k _ _ he3) (by rw [hz3.1]; exact q)
        have LM := PySem.W.exm_one (M := model X.prog X.w) (J3.kIn) LT hb1
        have test : ∀ {Q : Value → Shared → Prop} {E : Value → Shared → Prop}, Q c { s' with heap := h3 } → wpAny (model X.prog X.w) (X.A.mark (some (.ref a))) (eval (.Name x np) X.env) Q E { s' with heap := h3 } := fun {Q E} q => by
          rcases hc with ⟨hg, hdbg, hm | ⟨hm, hv, hnn⟩⟩
          · exact ld_glob (X := X.suite a ((a, oe3) :: (X.pn ++ pins))) S3 hg hm q hdbg
          · exact ld_blt (X := X.suite a ((a, oe3) :: (X.pn ++ pins))) S3 hg hm hv q hnn hdbg
        refine test (LM.here ?_)
        cases b with
        | true =>
          refine codeAny_handlers_suite_as (HandSPX.lands_againZ fl3 fun h4 fl4 up4 => ?_)
          have J4 : Inv X pins σ' H' { s' with heap := h4 } := J.landed nb fl4.1 ((up.trans up3).trans up4) os ag
          have ⟨oe4, vs4, he4, hz4, hd4⟩ := fl4.there
          refine store_ok (X := X.suite a ((a, oe4) :: (X.pn ++ pins))) (v := .ref a) (J4.suite he4 hd4 na nL nF) hN hi hloc rfl (fun s5 S5 => ?_) (.inr hln)
          refine wpAny_mono ((hsu a oe4 cls d (X.pn ++ pins) hz4 ⟨_, hd4⟩).run [] s5 _ H' _ S5 (hyes rfl a na)) (fun f s6 hsp => ?_) (fun _ _ z => False.elim z)
          have close : ∀ {σ6 : L2.St} {H6 : Hp} {Q : Shared → Prop}, Inv (X.suite a ((a, oe4) :: (X.pn ++ pins))) [] σ6 H6 s6 → (∀ s7, Inv X pins (σ6.set i none) H6 s7 → Q s7) → wpAny (model X.prog X.w) X.A (do bindName X.env n .none; unbindBehindTheSuite X.env n pos') (fun _ s7 => Q s7) X.xe s6 :=
            fun {σ6 H6 Q} S6 hq => gone_ok (S6.unsuite ok) hN hi hln hq
          cases f with
          | next => have ⟨σ6, H6, S6, q6⟩ := hsp; exact close S6 fun s7 J7 => ⟨_, _, J7, q6⟩
          | brk => have ⟨σ6, H6, S6, q6⟩ := hsp; exact close S6 fun s7 J7 => ⟨_, _, J7, q6⟩
          | cont => have ⟨σ6, H6, S6, q6⟩ := hsp; exact close S6 fun s7 J7 => ⟨_, _, J7, q6⟩
          | ret u => have ⟨v6, σ6, H6, S6, r6, q6⟩ := hsp; exact close S6 fun s7 J7 => ⟨_, _, _, J7, r6, q6⟩
        | false => exact ih (hno rfl)
    exact go hh wish
  · cases f with
    | next => have ⟨σ', H', J', q⟩ := hsp; exact wpAny_execs_nil ⟨σ', H', J'.ofTry ok, q⟩
    | brk => have ⟨σ', H', J', q⟩ := hsp; exact ⟨σ', H', J'.ofTry ok, q⟩
    | cont => have ⟨σ', H', J', q⟩ := hsp; exact ⟨σ', H', J'.ofTry ok, q⟩
    | ret u => have ⟨v, σ', H', J', r, q⟩ := hsp; exact ⟨v, σ', H', J'.ofTry ok, r, q⟩
end
/-! ### instances: methods and the making by their promises, len() of an instance, a walk over a dict that is made for it -/
structure OwnM (P : Program) (w : World) (K : PySem.W.Frag) (mg : Str → Option Value) (base : Heap) (CX : CXT) (k : Nat) (C : Addr) (m : Str) (ps : List Str) (sp : Sp) : Prop where
  ex : ∃ (f : Addr) (fd : FuncData), FnOk P w K mg base CX k f fd ps sp ∧ Meth K C m f ∧ Binds K fd ps []
structure OwnI (P : Program) (w : World) (K : PySem.W.Frag) (mg : Str → Option Value) (base : Heap) (CX : CXT) (k : Nat) (C : Addr) (x : Str) (ps : List Str) (sp : Sp) : Prop where
  ex : ∃ (f : Addr) (fd : FuncData), FnOk P w K mg base CX k f fd ps sp ∧ Mk K C f ∧ Binds K fd ps [] ∧ mg x = some (.ref C)
section
variable {X : Cx} {CX : CXT} {k k' : Nat} {C : Addr} {m x : Str} {ps : List Str} {sp : Sp} {E : XK} {o e : Expr} {es : List Expr} {apos pos p : Pos} {ta : TE} {t : TA}
theorem pe_methO {pl : Sem Bool} (c : Cls X.K C) (O : OwnM X.prog X.w X.K X.mg X.base CX k C m ps sp) (hr : Room k' X.A) (hk : k ≤ k') (hx : Passes CX X E) (ho : PE X o ta) (ha : PA X (e :: es) t)
    (hst : starEach (e :: es) X.env = (false, eval e X.env) :: starEach es X.env := by rfl) (hpl : (backTo pos (starEach es X.env)).any (·.1) = false := by rfl)
    (ht : eval (.Call (.Attribute o m apos) (e :: es) [] pos) X.env = (do
      let ov ← eval o X.env
      standAt apos.atName
      let (f, first) ← holding [ov] (getMethod ov m pl)
      callWith pos f first (backTo pos (starEach (e :: es) X.env)) (backToKw pos (keywordEach [] X.env))) := by rfl) :
    PE X (.Call (.Attribute o m apos) (e :: es) [] pos) (tMeth C m sp [] E ta t) := by
  obtain ⟨f, fd, F, hm, hb⟩ := O.ex
  exact pe_meth (pl := pl) ho c hm F (hr.mono hk) hb .nil hx ha hst hpl ht
theorem pe_methO0 {pl : Sem Bool} (c : Cls X.K C) (O : OwnM X.prog X.w X.K X.mg X.base CX k C m ps sp) (hr : Room k' X.A) (hk : k ≤ k') (hx : Passes CX X E) (ho : PE X o ta)
    (ht : eval (.Call (.Attribute o m apos) [] [] pos) X.env = (do
      let ov ← eval o X.env
      standAt apos.atName
      let (f, first) ← holding [ov] (getMethod ov m pl)
      callWith pos f first (backTo pos (starEach [] X.env)) (backToKw pos (keywordEach [] X.env))) := by rfl) :
    PE X (.Call (.Attribute o m apos) [] [] pos) (tMeth C m sp [] E ta tNil) := by
  obtain ⟨f, fd, F, hm, hb⟩ := O.ex
  exact pe_meth0 (pl := pl) ho c hm F (hr.mono hk) hb .nil hx ht
theorem pe_makeO (O : OwnI X.prog X.w X.K X.mg X.base CX k C x ps sp) (hr : Room k' X.A) (hk : k + 1 ≤ k') (hg : Gl X x) (hx : Passes CX X E) (ha : PA X (e :: es) t)
    (hdb : (x == ("__debug__" : Str)) = false := by decide) (he : starEach (e :: es) X.env = (false, eval e X.env) :: starEach es X.env := by rfl) (hpl : (backTo pos (starEach es X.env)).any (·.1) = false := by rfl) :
    PE X (.Call (.Name x p) (e :: es) [] pos) (tMake C sp [] E t) := by
  obtain ⟨f, fd, F, M, hb, hm⟩ := O.ex
  exact pe_make M F (hr.mono hk) hg hm hb .nil hx ha hdb he hpl
/-- len(x) of an instance with its own __len__ -/
def rLenI (C : Addr) (sp : Sp) (E : XK) : List V → Hp → VK → Prop := fun xs H Q => ∃ a dx fs, xs = [V.ref a] ∧ H a = some (.ins C dx fs) ∧ sp [.ref a] H (fun z H' => ∃ i : Int, z = .int i ∧ 0 ≤ i ∧ i < 2 ^ 63 ∧ Q z H') E
theorem call_lenI (O : OwnM X.prog X.w X.K X.mg X.base CX k C "__len__" ps sp) (hr : Room k' X.A) (hk : k + 1 ≤ k') (hx : Passes CX X E) : CallR X (.builtin "len") (rLenI C sp E) := by
  intro pins s σ H xs us Q I r h
  obtain ⟨f, fd, F, hm, hb⟩ := O.ex
  obtain ⟨a, dx, fs, rfl, ha, q⟩ := h
  obtain ⟨u, rfl, ru⟩ := r.one
  cases (show u = Value.ref a from ru)
  obtain ⟨mA, ob, _, _, _, _⟩ := ins_get I.hok ha
  obtain ⟨od, J, _⟩ := ob.look
  have hr2 : Room k X.A.in1 := (hr.mono hk).in1
  obtain ⟨mm, hF⟩ := I.fr
  refine PySem.W.len_K hF I.ok.mod.kin J hm.at_ hm.fn (wpAny_mono (wpAny_call (SlX.run_at (us := [.ref a]) (ws := [.ref a]) (FnOk.raw F hb .nil) hr2 I.env0.in1 hx I (.cons rfl .nil) q)) (fun w s' z => ?_) fun _ _ x => x)
  obtain ⟨z', H', I', rz, i, ei, i0, i1, qz⟩ := z
  subst ei
  obtain ⟨t, e⟩ := (show ∃ t, w = Value.int i t from rz)
  cases e
  exact ⟨⟨i0, i1⟩, .int i, H', I'.tok _, ⟨_, rfl⟩, qz⟩
end
/-- for k in {..}: the dict is new, and nobody else has it -/
def iKeysN (td : TE) : TI := fun σ H R => td σ H fun x H1 => ∃ d kvs, x = .ref d ∧ H1 d = some (.dK kvs) ∧ ∀ o, R (Itk d o kvs) (upd H1 d (.frz o (.dK kvs)))
theorem pi_keysN {X : Cx} {tg e : Expr} {td : TE} (he : PE X e td) : PI X tg e (iKeysN td) := by
  refine ⟨fun pins s σ H R I h => ?_⟩
  refine thn (he.run pins s σ H _ I h) fun u s1 ⟨x, H1, I1, rx, d, kvs, ex, hd0, q⟩ => ?_
  subst ex
  obtain rfl : u = Value.ref d := rx
  obtain ⟨od, I2⟩ := I1.lock hd0 trivial
  obtain ⟨hs, hgd, hx, es, ep, vs, hdt, hsz, kv, hm⟩ := I2.frzK upd_same
  refine iter_keys hs hgd hx hdt (pi_one (tk := s1.toks) I2 _ (turn_keys _ hdt) ⟨_, Heap.get?_push_size _ rfl, rfl, ?_⟩ (q od))
  rw [hsz] <;> rfl
/-- the truth of a list -/
def tTruL (K : PySem.W.Frag) (ta : TE) : TT := fun σ H Q => ta σ H fun x H' => ∃ k, TruV K x H' k ∧ Q k H'
/-! ### a lambda as a value; a call of what a name holds -/
section
open NdefX LamX
/-- the object at f is the lambda with this body -/
def LamO (f : Addr) (F : NF) (e : Expr) : HO := .ext fun h => ∃ (pm ctv : Value), h.get? f = some (PySem.W.kla_obj "<lambda>" F.qual F.params e F.scope F.cl pm F.c ctv)
theorem lamO_ne {f : Addr} {F : NF} {e : Expr} (ps : Array Value) : LamO f F e ≠ .tbl ps := fun z => by
  unfold LamO at z
  cases z
theorem lamO_at {P : Program} {w : World} {H : Hp} {h : Heap} {f : Addr} {F : NF} {e : Expr} (hok : HOk P w H h) (q : H f = some (LamO f F e)) : ∃ (pm ctv : Value), h.get? f = some (PySem.W.kla_obj "<lambda>" F.qual F.params e F.scope F.cl pm F.c ctv) := (hok f _ q).1
theorem lamO_ok {P : Program} {w : World} {H : Hp} {h : Heap} {f : Addr} {F : NF} {e : Expr} {pm ctv : Value} (g : h.get? f = some (PySem.W.kla_obj "<lambda>" F.qual F.params e F.scope F.cl pm F.c ctv)) : ObjOk P w H h f (LamO f F e) :=
  ⟨⟨pm, ctv, g⟩, ⟨_, g⟩, fun h1 h2 ⟨p, c, z⟩ st => ⟨p, c, st _ z⟩⟩
def tLamb (T : List (Addr × Str)) (q : Str) (params : Arguments) (body : Expr) (scope : Scope) : TE := fun _ H Q => Tabs T H ∧ ∀ f c' H1, ExtN H H1 → Tabs T H1 → H1 f = none → H1 c' = some (CodeO c' q) → f ≠ c' → Q (.ref f) (upd H1 f (LamO f ⟨"<lambda>", q, params, [], scope, [], c'⟩ body))
theorem pe_lam {X : Cx} {T : List (Addr × Str)} {c P : Addr} {params : Arguments} {body : Expr} {scope : Scope} {pos : Pos} (TB : TabB X.base X.mg c P) (hcode : X.env.code = .ref c) (hm : (P, X.env.qual ++ "<lambda>") ∈ T) (hu : ∀ p ∈ T, p.1 = P → p.2 = X.env.qual ++ "<lambda>")
    (hdef : defaultsOf params X.env = ([], []) := by rfl) (hfree : ∀ y ∈ scope.names, y.2 ≠ .free := by decide +kernel) (hcl : cloFrom X.env.cells scope.names [] = [] := by rfl) : PE X (.Lambda params body scope pos) (tLamb T (X.env.qual ++ "<lambda>") params body scope) := by
  refine ⟨fun pins s σ H Q I h => ?_⟩
  have ⟨hT, q⟩ := h
  have ⟨ps, hP, ht, ha⟩ := hT _ hm
  have hclos := closure_ok (env := X.env) (scope := scope) (fun y hy e => absurd e (hfree y hy))
  rw [hcl] at hclos
  have hP' : s.heap.get? P = some { cls := .none, data := .fields ps } := I.hok P _ hP
  refine PySem.W.kla_eval hdef ?_
  cases hc : codeAmong pos ps.toList with
  | none =>
    refine PySem.W.kla_makeFunction (mg := X.mg) (c := c) (P := P) (ps := ps) hclos I.ok.glob (I.mod.glob.keeps I.bk) hcode (TB.code.keeps I.bk) hP' ht hc TB.gP (TB.bm.keeps I.bk) fun c' ctv h' tk hx hge hlt hrec htb => ?_
    have ⟨c2, oc, vs, t, e2, hoc, hd, hv⟩ := hrec
    cases e2
    have hsz : s.heap.objs.size ≤ h'.objs.size := Nat.le_trans hge (Nat.le_of_lt hlt)
    have nC : H c' = none := I.hok.fresh hge
    have I1 := inv_table (t' := tk) (more := #[rawInt pos.line, rawInt pos.col, .ref c']) (h' := h') I hP (fun b o hb e => hx b o hb e) htb hge ⟨oc, vs, t, hoc, hd, hv⟩
    have nf : (upd (upd H P (.tbl (ps ++ #[rawInt pos.line, rawInt pos.col, .ref c']))) c' (CodeO c' (X.env.qual ++ "<lambda>"))) h'.objs.size = none := I1.hok.fresh (Nat.le_refl _)
    have hE : ExtN H (upd (upd H P (.tbl (ps ++ #[rawInt pos.line, rawInt pos.col, .ref c']))) c' (CodeO c' (X.env.qual ++ "<lambda>"))) := fun b o e n => by
      rw [upd_ne (ne_of_none e nC), upd_ne (fun z => n ps (by rw [z, hP] at e; exact (Option.some.inj e).symm))]; exact e
    have eL : (ps ++ #[rawInt pos.line, rawInt pos.col, .ref c']).toList = ps.toList ++ [rawInt pos.line, rawInt pos.col, .ref c'] := by simp
    have hT1 : Tabs T (upd (upd H P (.tbl (ps ++ #[rawInt pos.line, rawInt pos.col, .ref c']))) c' (CodeO c' (X.env.qual ++ "<lambda>"))) := fun p hp => by
      by_cases hb : p.1 = P
      · rw [hu p hp hb, hb]
        refine ⟨_, by rw [upd_ne (ne_of_none hP nC), upd_same], by rw [eL]; exact PySem.TriplesOk_snoc _ _ _ _ ht, fun p' cv hcv => ?_⟩
        rw [eL] at hcv
        rcases among_app _ ht hcv with z | z
        · have ⟨c0, e1, e2⟩ := ha p' cv z
          exact ⟨c0, e1, hE _ _ e2 codeO_ne⟩
        · exact ⟨c', z, upd_same⟩
      · have ⟨ps', a1, a2, a3⟩ := hT p hp
        refine ⟨ps', by rw [upd_ne (ne_of_none a1 nC), upd_ne hb]; exact a1, a2, fun p' cv hcv => ?_⟩
        have ⟨c0, e1, e2⟩ := a3 p' cv hcv
        exact ⟨c0, e1, hE _ _ e2 codeO_ne⟩
    have I2 := I1.laid (t' := tk) (a := h'.objs.size) (o := LamO h'.objs.size ⟨"<lambda>", X.env.qual ++ "<lambda>", params, [], scope, [], c'⟩ body) (h' := h'.push (PySem.W.kla_obj "<lambda>" (X.env.qual ++ "<lambda>") params body scope [] ((X.mg "__name__").getD .none) c' ctv)) (fun b u e => Heap.get?_push_of_some _ e) (Nat.le_refl _) (lamO_ok (Heap.get?_push_size _ rfl))
    exact ⟨.ref h'.objs.size, _, I2, rfl, q h'.objs.size c' _ hE hT1 nf upd_same (Nat.ne_of_gt hlt)⟩
  | some cv =>
    have ⟨c', e, hco⟩ := ha pos cv hc
    subst e
    refine PySem.W.kla_makeFunctionHit (mg := X.mg) (c := c) (P := P) (ps := ps) hclos I.ok.glob (I.mod.glob.keeps I.bk) hcode (TB.code.keeps I.bk) hP' ht hc (TB.bm.keeps I.bk) fun ctv h' tk hx hsz => ?_
    have I1 : Inv X pins σ H { s with heap := h', toks := tk } := I.kept fun b o e => hx b o e
    have nf : H h'.objs.size = none := I1.hok.fresh (Nat.le_refl _)
    have I2 := I1.laid (t' := tk) (a := h'.objs.size) (o := LamO h'.objs.size ⟨"<lambda>", X.env.qual ++ "<lambda>", params, [], scope, [], c'⟩ body) (h' := h'.push (PySem.W.kla_obj "<lambda>" (X.env.qual ++ "<lambda>") params body scope [] ((X.mg "__name__").getD .none) c' ctv)) (fun b u e => Heap.get?_push_of_some _ e) (Nat.le_refl _) (lamO_ok (Heap.get?_push_size _ rfl))
    exact ⟨.ref h'.objs.size, _, I2, rfl, q h'.objs.size c' H (ExtN.refl H) hT nf hco (fun z => by rw [z, hco] at nf; cases nf)⟩
/-- a lambda by its body -/
theorem lam_ok {CX : CXT} {P : Program} {w : World} {K : PySem.W.Frag} {mg : Str → Option Value} {base : Heap} {N ps : List Str} {F : NF} {f : Addr} {k : Nat} {e : Expr} {sp : Sp} (S : NScope N ps [] F.scope) (hcl : F.cl = [])
    (hb : ∀ (pm ctv : Value) (us : List Value), us.length = ps.length → bindArgs (PySem.W.kla_fn "<lambda>" F.qual F.params e F.scope F.cl pm (.ref F.c) ctv) ⟨us, []⟩ = pure (ps.zip us)) (len : ∀ vs H Q E, sp vs H Q E → vs.length = ps.length)
    (hbody : ∀ (A : Around) (outer : List Env) (s : Shared) (H : Hp) (vs : List V) (Q : VK) (E : XK), Room k (A.deeper (envF F f s.heap.objs.size)) → sp vs H Q E → ∃ t, PE (ncx CX P w K mg base N F f A outer s H E) e t ∧ t (startF N vs []) H Q) :
    FnR P w K mg base CX (k + 1) f (fun vs H Q E => H f = some (LamO f F e) ∧ H F.c = some (CodeO F.c F.qual) ∧ sp vs H Q E) := by
  rintro A outer s H us vs Q E hr e0 r ⟨hf, hc, hsp⟩
  have hl := len _ _ _ _ hsp
  have lim : s.heap.NoLimit := e0.mod.nolimit.keeps fun b o e => (e0.bs b o e).1
  have ⟨pm, ctv, ho⟩ := lamO_at e0.hok hf
  have C : CellsAt F.cl [] [] s.heap H := by
    rw [hcl]; exact ⟨rfl, fun y c z => (by cases z), fun x y c z => (by cases z), fun i y z => (by simp at z)⟩
  refine PySem.W.kla_callFunE hr.depth ho rfl S.co S.gen rfl (codeO_at e0.hok hc) ?_
  rw [hb pm ctv us (by rw [← r.length]; exact hl)]
  refine wpAny_pure (wpAny_newFunctionEnv S.nocell (fun ⟨n, _⟩ hy => S.par n (List.of_mem_zip hy).1) (fun h₁ hns hsb => ⟨lim.fresh _ hsb, ?_⟩) S.kind)
  show codeAny _ _ (.expr e (envF F f s.heap.objs.size)) _ _
  have kp : ∀ b o, s.heap.get? b = some o → h₁.get? b = some o := fun b o e => hsb.extBut b o (Nat.ne_of_lt (Heap.lt_size e)) (Heap.get?_push_of_some _ e)
  have ⟨t, ht, hq⟩ := hbody A outer s H vs Q E (hr.deeper _) hsp
  have I : Inv (ncx CX P w K mg base N F f A outer s H E) [] (startF N vs []) H { s with heap := h₁, toks := s.toks + (ps.zip us).length } := inv_startN S hr.hd e0 hl r C hns kp
  refine PySem.W.kla_codeExpr (wpAny_mono (ht.run [] _ (startF N vs []) H _ I hq) (fun u s' hs => ?_) fun e s' hs => hs)
  have ⟨v, H', J, rv, q⟩ := hs
  exact ⟨v, H', J.os, J.bare, J.base, J.hok, rv, q⟩
/-- what a name holds is called: a def of the text, or a lambda that stands in H -/
def tCallW (P : Program) (w : World) (K : PySem.W.Frag) (mg : Str → Option Value) (base : Heap) (CX : CXT) (k i : Nat) (E : L2.St → XK) (t : TA) : TE := fun σ H Q => ∃ f sp, σ[i]? = some (some (.ref f)) ∧ FnR P w K mg base CX k f sp ∧
  ((PySem.W.keepIn K (.ref f) = true ∧ t σ H fun vs H1 => sp vs H1 Q (E σ)) ∨ ∃ F e, H f = some (LamO f F e) ∧ t σ H fun vs H1 => H1 f = some (LamO f F e) ∧ sp vs H1 Q (E σ))
theorem pe_callW {X : Cx} {CX : CXT} {k k' i : Nat} {E : L2.St → XK} {x : Str} {e : Expr} {es : List Expr} {p pos : Pos} {t : TA} (hx : ∀ σ, L2.PassesAt CX X σ (E σ)) (hr : Room k' X.A) (hk : k ≤ k') (hN : X.N[i]? = some x) (hv : Vis X.env.scope x) (ha : PA X (e :: es) t)
    (hd : (x == ("__debug__" : Str)) = false := by decide) (hcd : (x == ("__classdict__" : Str)) = false := by decide) (he : starEach (e :: es) X.env = (false, eval e X.env) :: starEach es X.env := by rfl) (hpl : (backTo pos (starEach es X.env)).any (·.1) = false := by rfl) :
    PE X (.Call (.Name x p) (e :: es) [] pos) (tCallW X.prog X.w X.K X.mg X.base CX k i E t) := by
  refine ⟨fun pins s σ H Q I h => ?_⟩
  have ⟨f, sp, hs, F, hq⟩ := h
  refine wpAny_Call_Name_kw (thn ((pe_var (pos := p) hN hv hd hcd).run pins s σ H (fun v H1 => v = .ref f ∧ H1 = H) I ⟨.ref f, hs, rfl, rfl⟩) fun u s1 ⟨v, H1, I1, r1, q1⟩ => ?_)
  obtain ⟨rfl, rfl⟩ := q1
  cases r1
  have run : ∀ {us : List Value} {s2 : Shared} {vs : List V} {H2 : Hp}, Inv X pins σ H2 s2 → Vals vs us → sp vs H2 Q (E σ) → wpAny (model X.prog X.w) X.A (call (.ref f) ([] ++ us)) (EP X pins σ Q) X.xe s2 := fun {us s2 vs H2} I2 r q => by
    refine wpAny_call (codeAny_mono (F X.A X.stack s2 H2 us vs Q (E σ) (hr.mono hk) I2.env0 r q) fun rr s' hq' => ?_)
    cases rr with
    | error er => exact hx σ pins H2 s2 er s' I2 hq'
    | ok fl =>
      cases fl with
      | ret u => exact I2.after hq'
      | next => exact False.elim hq'
      | brk => exact False.elim hq'
      | cont => exact False.elim hq'
  rcases hq with ⟨kp, hq⟩ | ⟨F', e', hf, hq⟩
  · exact PySem.W.callWith_K (h₀ := X.base) I.ok.mod.kin kp (thn (ha.run pos pins s1 σ _ _ I1 hq) fun us s2 ⟨vs, H2, I2, r, q⟩ => ⟨I2.kIn, run I2 r q⟩) he hpl
  · have fnAt : ∀ {s2 : Shared} {H2 : Hp}, Inv X pins σ H2 s2 → H2 f = some (LamO f F' e') → PySem.W.FnAt f s2.heap := fun {s2 H2} I2 cb => by
      have ⟨pm, ctv, ho⟩ := lamO_at I2.hok cb
      exact ⟨_, _, _, _, ho⟩
    exact PySem.W.callWith_F (fnAt I1 hf) (thn (ha.run pos pins s1 σ _ _ I1 hq) fun us s2 ⟨vs, H2, I2, r, cb, q⟩ => ⟨fnAt I2 cb, run I2 r q⟩) he hpl
end
/-! ### own exceptions, raised and asked -/
theorem pmk1N {X : Cx} {C : Addr} {bmB : List Value} {B newId initId : String} {x : Str} {e : Expr} {ta : TE} {p pos : Pos} (F : ExcBaseFacts B newId initId bmB) (q : PySem.W.excIn X.K C bmB newId = true) (gC : X.mg x = some (.ref C)) (kC : PySem.W.keepIn X.K (.ref C) = true) (r : Raises X (.ref C)) (hg : Gl X x) (he : PE X e ta)
    (hs : starEach [e] X.env = (false, eval e X.env) :: starEach [] X.env := by rfl) (hdb : (x == ("__debug__" : Str)) = false := by decide) : L2N.PMk X (.Call (.Name x p) [e] [] pos) (fun σ H Q => ta σ H fun _ H1 => Q (.ref C) none H1) := by
  intro pins s σ H Q I h
  refine wpAny_Call_Name_kw (ld_glob I hg gC (PySem.W.callWith_K (h₀ := X.base) I.ok.mod.kin kC ?_ hs (by rfl)) hdb)
  rw [hs]
  refine Calls.spliced_cons (thn (he.run pins s σ H _ I h) fun u s1 ⟨v, H1, I1, r1, q1⟩ => Calls.spliced_nil ⟨I1.kIn, ?_⟩)
  have ⟨bm, N, nm, qn, bs, hdct, sn, sub, ab, col, dd, k0, k1, k2, k3, k5, mN, hC, hN, hni, T⟩ := exc_obj I1.kIn q
  exact wpAny_call_exc_subT F T hC hN hni (fun h' e hm => L2N.mk_of I1 hm r q1 (I1.hok.gone hm.new)) (by show 1 ≤ sizeLine; rw [sizeLine_eq]; omega)
/-- raise C(e) -/
def tRz (C : Addr) (ta : TE) (E : XK) : TS := fun _ σ H => ta σ H fun _ H1 => E (.ref C) none H1
/-- an own exception class as the program's text has it -/
structure ExK (K : PySem.W.Frag) (mg : Str → Option Value) (x : Str) : Prop where
  g : mg x = some (.ref (He.ga K x))
  xi : PySem.W.excIn K (He.ga K x) He.veBase "ValueError.__new__" = true
  kp : PySem.W.keepIn K (.ref (He.ga K x)) = true
  sub : PySem.W.subIn K (.ref (He.ga K x)) (.type "BaseException") = some true
  ty : PySem.W.typeIn K (.ref (He.ga K x)) = some (.type "type")
theorem ps_rz {X : Cx} {E : XK} {x : Str} {e : Expr} {ta : TE} {p pos pos' : Pos} (T : ExK X.K X.mg x) (hc : X.calm = true) (tk : L2N.Takes X (fun cls d _ H => E cls d H)) (hg : Gl X x) (he : PE X e ta)
    (hs : starEach [e] X.env = (false, eval e X.env) :: starEach [] X.env := by rfl) (hdb : (x == ("__debug__" : Str)) = false := by decide) : PS X (.Raise (some (.Call (.Name x p) [e] [] pos)) none pos') (tRz (He.ga X.K x) ta E) :=
  L2N.ps_raise hc tk (pmk1N PySem.F.excBase_ValueError T.xi T.g T.kp (raises_own T.sub T.ty) hg he hs hdb)
/-- defs by their promises, errors let out -/
structure OwnC (P : Program) (w : World) (K : PySem.W.Frag) (mg : Str → Option Value) (base : Heap) (CX : CXT) (k : Nat) (x : Str) (ps : List Str) (sp : Sp) : Prop where
  ex : ∃ (f : Addr) (fd : FuncData), FnOk P w K mg base CX k f fd ps sp ∧ mg x = some (.ref f) ∧ PySem.W.keepIn K (.ref f) = true ∧ Binds K fd ps []
theorem pe_callC {X : Cx} {CX : CXT} {k k' : Nat} {x : Str} {ps : List Str} {sp : Sp} {E : XK} {p pos : Pos} {e : Expr} {es : List Expr} {t : TA} (O : OwnC X.prog X.w X.K X.mg X.base CX k x ps sp) (hr : Room k' X.A) (hk : k ≤ k') (hg : Gl X x) (hx : Passes CX X E) (ha : PA X (e :: es) t)
    (hdb : (x == ("__debug__" : Str)) = false := by decide) (he : starEach (e :: es) X.env = (false, eval e X.env) :: starEach es X.env := by rfl) (hpl : (backTo pos (starEach es X.env)).any (·.1) = false := by rfl) : PE X (.Call (.Name x p) (e :: es) [] pos) (tCall sp [] E t) := by
  have ⟨f, fd, F, hm, hkp, hb⟩ := O.ex
  exact pe_call F (hr.mono hk) hg hm hkp hb .nil hx ha hdb he hpl
theorem passN0 {X : Cx} : Passes (L2N.CX X.prog X.w) X E0 := fun _ _ _ _ _ _ _ ⟨_, _, _, _, _, _, _, _, _, _, _, _, z⟩ => z.elim
theorem takesN0 {X : Cx} : L2N.Takes X (fun _ _ _ _ => False) := fun _ _ ⟨_, _, _, _, _, _, _, _, _, _, _, _, _, _, _, _, z⟩ => z.elim
theorem passNE {X : Cx} {E : XK} (tk : L2N.Takes X (fun cls d _ H => E cls d H)) : Passes (L2N.CX X.prog X.w) X E := L2N.passes_call tk fun _ _ _ _ h => h
/-- isinstance(e, C) in a suite, e without fields of its own -/
def rIsN (K : PySem.W.Frag) (cls : Value) (d : Option Addr) (a : Addr) : List V → Hp → VK → Prop := fun xs H Q => ∃ D, cls = .ref D ∧ d = none ∧ ExcC K D ∧ rIsE K D a xs H Q
theorem call_isN {X : Cx} {a : Addr} {cls : Value} {d : Option Addr} {oe : Obj} {pn : List (Addr × Obj)} (hz : L2N.Zn cls d oe) (hf : ∃ vs, oe.data = .fields vs) : CallR (X.suite a ((a, oe) :: pn)) (.builtin "isinstance") (rIsN X.K cls d a) := by
  intro pins s σ H xs us Q I r h
  obtain ⟨D, rfl, rfl, C, h⟩ := h
  exact call_isE C hz.zc hf pins s σ H xs us Q I r h
def excCB (K : PySem.W.Frag) (x : Str) : Bool := He.eqO (PySem.W.findIn K (.ref (He.ga K x)) "__getattribute__") (some (some (.builtin "BaseException.__getattribute__"))) && (He.eqO (PySem.W.findIn K (.ref (He.ga K x)) "__getattr__") (some none) && (decide (PySem.W.subIn K (.ref (He.ga K x)) (.type "BaseException") = some true) && (PySem.W.hasDictIn K (He.ga K x) &&
  (He.eqO (PySem.W.findIn K (.ref (He.ga K x)) "__class__") (some (some (.builtin "object.__class__"))) && (He.eqO (PySem.W.specialIn K (.builtin "object.__class__") "__get__") (some (some (.builtin "getset_descriptor.__get__"))) && (decide (PySem.W.takesIn K (.builtin "object.__class__") = some true) && decide (PySem.W.mroIn K (He.ga K x) (.type "object") = some true)))))))
theorem excCB_ok {K : PySem.W.Frag} {x : Str} (h : excCB K x = true) : ExcC K (He.ga K x) := by
  have ⟨h1, h⟩ := He.ba h
  have ⟨h2, h⟩ := He.ba h
  have ⟨h3, h⟩ := He.ba h
  have ⟨h4, h⟩ := He.ba h
  have ⟨h5, h⟩ := He.ba h
  have ⟨h6, h⟩ := He.ba h
  have ⟨h7, h8⟩ := He.ba h
  exact ⟨He.eqO_ok h1, He.eqO_ok h2, of_decide_eq_true h3, h4, He.eqO_ok h5, He.eqO_ok h6, of_decide_eq_true h7, of_decide_eq_true h8⟩
/-- f'..' -/
def tJoin (ts : List TE) : TE := fun σ H Q => tJs ts Str.empty σ H fun out H1 => Q (.str out) H1
theorem bt_ValueError : bootBuiltins "ValueError" = some (.type "ValueError") := by decide +kernel
/-! ### values of any kind -/
inductive Sm : V → Prop
  | int (i : Int) : Sm (.int i)
  | bl (b : Bool) : Sm (.bl b)
  | non : Sm .non
  | str (x : Str) : Sm (.str x)
def isI : V → Bool
  | .int _ => true
  | _ => false
def isPl : V → Int → Bool
  | .int i, l => decide (1 ≤ i ∧ i ≤ l)
  | _, _ => false
theorem isPl_int {v : V} {l : Int} (h : isPl v l = true) : ∃ p, v = .int p ∧ 1 ≤ p ∧ p ≤ l := by
  cases v with
  | int i => exact ⟨i, rfl, of_decide_eq_true h⟩
  | _ => cases h
/-- an answer's word, or another text -/
def hotS : Str := "hot"
theorem vW_hot (w : Wo) : vW w ≠ .str hotS := by
  cases w <;> decide +kernel
theorem len_small : ∀ i : Fin 101, (Str.ofString (toString ((i.val : Nat) : Int))).length ≤ 100 := by decide +kernel
theorem int_len {i : Int} (h0 : 0 ≤ i) (h1 : i ≤ 100) : (Str.ofString (toString i)).length ≤ 100 := by
  have := len_small ⟨i.toNat, by omega⟩
  have e : ((i.toNat : Nat) : Int) = i := by omega
  rw [show ((⟨i.toNat, by omega⟩ : Fin 101).val : Nat) = i.toNat from rfl, e] at this
  exact this
theorem int_log {i : Int} (h0 : 0 ≤ i) (h1 : i ≤ 100) : i.natAbs.log2 < 1920 := by
  have h : i.natAbs < 2 ^ 7 := by omega
  by_cases z : i.natAbs = 0
  · rw [z]; decide
  · exact Nat.lt_of_lt_of_le ((Nat.log2_lt z).mpr h) (by decide)
/-! ### a search kept -/
abbrev SC (K : PySem.W.Frag) : Addr := He.ga K "Search"
structure SrF (K : PySem.W.Frag) : Prop where
  cl : Cls K (SC K)
  nl : NoAttr K (SC K) "length"
  ns : NoAttr K (SC K) "stood"
  nw : NoAttr K (SC K) "words"
  nf : NoAttr K (SC K) "left"
/-- tuples of ints at these places -/
inductive AtTups (H : Hp) : List Addr → List (List Int) → Prop
  | nil : AtTups H [] []
  | cons {u : Addr} {us : List Addr} {p : List Int} {ps : List (List Int)} : H u = some (.tup (p.map V.int)) → AtTups H us ps → AtTups H (u :: us) (p :: ps)
theorem AtTups.imp {H H' : Hp} (e : ∀ a xs, H a = some (.tup xs) → H' a = some (.tup xs)) : ∀ {us : List Addr} {ps : List (List Int)}, AtTups H us ps → AtTups H' us ps
  | _, _, .nil => .nil
  | _, _, .cons h t => .cons (e _ _ h) (t.imp e)
theorem AtTups.snoc {H : Hp} {u : Addr} {p : List Int} (h : H u = some (.tup (p.map V.int))) : ∀ {us : List Addr} {ps : List (List Int)}, AtTups H us ps → AtTups H (us ++ [u]) (ps ++ [p])
  | _, _, .nil => .cons h .nil
  | _, _, .cons h' t => .cons h' (t.snoc h)
theorem AtTups.len {H : Hp} : ∀ {us : List Addr} {ps : List (List Int)}, AtTups H us ps → us.length = ps.length
  | _, _, .nil => rfl
  | _, _, .cons _ t => congrArg (· + 1) t.len
theorem AtTups.last {H : Hp} : ∀ {us : List Addr} {ps : List (List Int)} {p : List Int}, AtTups H us (ps ++ [p]) → ∃ us' u, us = us' ++ [u] ∧ H u = some (.tup (p.map V.int)) ∧ AtTups H us' ps
  | _, [], _, .cons h .nil => ⟨[], _, rfl, h, .nil⟩
  | _, _ :: ps, _, .cons h t => by
    obtain ⟨us', u, e, hu, t'⟩ := t.last (ps := ps)
    exact ⟨_ :: us', u, by rw [e]; rfl, hu, .cons h t'⟩
/-- the search at x: of this length, these stands, answers, and places left behind each answer -/
structure Sr (C : Addr) (H : Hp) (x dx S W F : Addr) (L : Int) (st : List Int) (ws : List Wo) (us : List Addr) (fs : List (List Int)) : Prop where
  ins : H x = some (.ins C dx [("length", .int L), ("stood", .ref S), ("words", .ref W), ("left", .ref F)])
  hS : H S = some (.lst (st.map V.int))
  hW : H W = some (.lst (ws.map vW))
  hF : H F = some (.lst (us.map V.ref))
  hT : AtTups H us fs
  nSW : S ≠ W
  nSF : S ≠ F
  nWF : W ≠ F
theorem Sr.kp {C : Addr} {bs : List Addr} {H H' : Hp} {x dx S W F : Addr} {L : Int} {st : List Int} {ws : List Wo} {us : List Addr} {fs : List (List Int)} (r : Sr C H x dx S W F L st ws us fs) (k : Kp bs H H') (nx : x ∉ bs) (nS : S ∉ bs) (nW : W ∉ bs) (nF : F ∉ bs) (nt : ∀ a xs, H a = some (.tup xs) → a ∉ bs) : Sr C H' x dx S W F L st ws us fs :=
  ⟨k _ _ nx r.ins, k _ _ nS r.hS, k _ _ nW r.hW, k _ _ nF r.hF, r.hT.imp fun a xs h => k _ _ (nt a xs h) h, r.nSW, r.nSF, r.nWF⟩
theorem Sr.ex {C : Addr} {H H' : Hp} {x dx S W F : Addr} {L : Int} {st : List Int} {ws : List Wo} {us : List Addr} {fs : List (List Int)} (r : Sr C H x dx S W F L st ws us fs) (e : Ex H H') : Sr C H' x dx S W F L st ws us fs :=
  ⟨e _ _ r.ins, e _ _ r.hS, e _ _ r.hW, e _ _ r.hF, r.hT.imp fun a xs h => e _ _ h, r.nSW, r.nSF, r.nWF⟩
theorem Sr.stand {C : Addr} {H : Hp} {x dx S W F : Addr} {L p : Int} {st : List Int} {ws : List Wo} {us : List Addr} {fs : List (List Int)} (r : Sr C H x dx S W F L st ws us fs) : Sr C (upd H S (.lst (st.map V.int ++ [.int p]))) x dx S W F L (st ++ [p]) ws us fs := by
  refine ⟨?_, ?_, ?_, ?_, r.hT.imp fun a xs h => ?_, r.nSW, r.nSF, r.nWF⟩
  · rw [upd_ne (ne_of r.ins r.hS (by intro z; cases z))]
    exact r.ins
  · rw [upd_same, List.map_append]
    rfl
  · rw [upd_ne r.nSW.symm]
    exact r.hW
  · rw [upd_ne r.nSF.symm]
    exact r.hF
  · rw [upd_ne (ne_of h r.hS (by intro z; cases z))]
    exact h
theorem Kp.one {H : Hp} {a : Addr} {o : HO} : Kp [a] H (upd H a o) := fun b u n h => by
  rw [upd_ne (fun z => n (by rw [z]; exact List.mem_singleton.mpr rfl))]
  exact h
theorem Kp.sub {bs cs : List Addr} {H H' : Hp} (k : Kp bs H H') (h : ∀ a ∈ bs, a ∈ cs) : Kp cs H H' := fun a o n ha => k a o (fun z => n (h a z)) ha
theorem cut_two (xs : List V) (a b : V) : cutV (xs ++ [a, b]) (some (-2)) none = [a, b] := by
  unfold cutV
  rw [HT.sIx_none]
  have e : HT.sIx (xs ++ [a, b]).length 0 (some (-2)) = xs.length := by
    have hl : (xs ++ [a, b]).length = xs.length + 2 := by rw [List.length_append]; rfl
    rw [hl]
    show (if (-2 : Int) < 0 then (-2 + ((xs.length + 2 : Nat) : Int)).toNat else min (-2 : Int).toNat (xs.length + 2)) = xs.length
    rw [if_pos (by decide)]
    omega
  rw [e, List.drop_left, List.length_append]
  show List.take (xs.length + 2 - xs.length) [a, b] = [a, b]
  rw [Nat.add_sub_cancel_left]
  rfl
theorem AtTups.dropLast {H : Hp} : ∀ {us : List Addr} {ps : List (List Int)}, AtTups H us ps → AtTups H us.dropLast ps.dropLast
  | _, _, .nil => .nil
  | _, _, .cons _ .nil => .nil
  | _, _, .cons h (.cons h2 t) => .cons h (AtTups.cons h2 t).dropLast
/-! ### paths: stretches, mirrors -/
theorem rng_nil {lo hi : Int} (h : hi ≤ lo) : rng lo hi = [] := by
  unfold rng
  have e : (hi - lo).toNat = 0 := by omega
  rw [e]
  rfl
theorem rng_cons {lo hi : Int} (h : lo < hi) : rng lo hi = lo :: rng (lo + 1) hi := by
  unfold rng
  have e : (hi - lo).toNat = (hi - (lo + 1)).toNat + 1 := by omega
  rw [e, List.range_succ_eq_map, List.map_cons, List.map_map]
  congr 1
  · exact Int.add_zero lo
  · refine List.map_congr_left fun k _ => ?_
    show lo + ((k + 1 : Nat) : Int) = lo + 1 + (k : Int)
    omega
theorem rng_snoc {lo hi : Int} (h : lo ≤ hi) : rng lo (hi + 1) = rng lo hi ++ [hi] := by
  unfold rng
  have e : (hi + 1 - lo).toNat = (hi - lo).toNat + 1 := by omega
  rw [e, List.range_succ, List.map_append]
  congr 1
  show [lo + (((hi - lo).toNat : Nat) : Int)] = [hi]
  congr 1
  omega
/-- what a convex wish leaves of a stretch is a stretch -/
theorem rng_convex {p : Int → Bool} (hp : ∀ x y z, x < y → y < z → p x = true → p z = true → p y = true) : ∀ (n : Nat) (lo hi : Int), (hi - lo).toNat = n → ∃ a b, (rng lo hi).filter p = rng a b
  | 0, lo, hi, hn => ⟨0, 0, by rw [rng_nil (by omega), rng_nil (by omega)]; rfl⟩
  | n + 1, lo, hi, hn => by
    have hlt : lo < hi := by omega
    obtain ⟨a, b, e⟩ := rng_convex hp n (lo + 1) hi (by omega)
    rw [rng_cons hlt]
    cases hl : p lo with
    | false =>
      rw [List.filter_cons_of_neg (by rw [hl]; decide)]
      exact ⟨a, b, e⟩
    | true =>
      rw [List.filter_cons_of_pos hl, e]
      by_cases hab : a < b
      · have ha : a ∈ (rng (lo + 1) hi).filter p := by
          rw [e]
          exact mem_rng.mpr ⟨by omega, hab⟩
        obtain ⟨m1, m2⟩ := List.mem_filter.mp ha
        have m3 := mem_rng.mp m1
        have q : p (lo + 1) = true := by
          by_cases z : a = lo + 1
          · rw [← z]
            exact m2
          · exact hp lo (lo + 1) a (by omega) (by omega) hl m2
        have m4 : lo + 1 ∈ rng a b := by
          rw [← e]
          exact List.mem_filter.mpr ⟨mem_rng.mpr ⟨by omega, by omega⟩, q⟩
        have m5 := mem_rng.mp m4
        have z : a = lo + 1 := by omega
        exact ⟨lo, b, by rw [rng_cons (show lo < b by omega), z]⟩
      · rw [rng_nil (by omega : b ≤ a)]
        exact ⟨lo, lo + 1, by rw [rng_cons (by omega), rng_nil (by omega)]⟩
theorem wordsOf_cons2 (t a b : Int) (r : List Int) : wordsOf t (a :: b :: r) = mv t a b :: wordsOf t (b :: r) := rfl
theorem wordsOf_takeS (t : Int) : ∀ (st : List Int) (i : Nat), (wordsOf t st).take i = wordsOf t (st.take (i + 1))
  | [], i => by simp [wordsOf]
  | [a], i => by
    rw [List.take_of_length_le (show ([a] : List Int).length ≤ i + 1 by simp)]
    show ([] : List Wo).take i = []
    rw [List.take_nil]
  | a :: b :: r, 0 => rfl
  | a :: b :: r, i + 1 => by
    rw [wordsOf_cons2, List.take_succ_cons, wordsOf_takeS t (b :: r) i]
    rfl
theorem wordsOf_one (t : Int) {st : List Int} (h : st.length ≤ 1) : wordsOf t st = [] := by
  match st, h with
  | [], _ => rfl
  | [_], _ => rfl
/-- one stand more -/
theorem wordsOf_step (t : Int) (st : List Int) (i : Nat) (h : i + 1 < st.length) : wordsOf t (st.take (i + 2)) = wordsOf t (st.take (i + 1)) ++ [mv t st[i] st[i + 1]] := by
  rw [← wordsOf_takeS, ← wordsOf_takeS, List.take_add_one, wordsOf_get t st i _ _ (List.getElem?_eq_getElem (by omega)) (List.getElem?_eq_getElem h)]
  rfl
theorem lies_step (l t0 : Int) (st : List Int) (i : Nat) (h : i + 1 < st.length) :
    lies l (st.take (i + 2)) ((wordsOf t0 st).take (i + 1)) = (lies l (st.take (i + 1)) ((wordsOf t0 st).take i)).filter fun t => decide (mv t st[i] st[i + 1] = mv t0 st[i] st[i + 1]) := by
  unfold lies
  rw [List.filter_filter]
  refine List.filter_congr fun t _ => ?_
  rw [wordsOf_takeS, wordsOf_takeS, wordsOf_step t st i h, wordsOf_step t0 st i h]
  have e : (wordsOf t (st.take (i + 1)) ++ [mv t st[i] st[i + 1]] = wordsOf t0 (st.take (i + 1)) ++ [mv t0 st[i] st[i + 1]]) ↔ (mv t st[i] st[i + 1] = mv t0 st[i] st[i + 1] ∧ wordsOf t (st.take (i + 1)) = wordsOf t0 (st.take (i + 1))) := by
    constructor
    · intro h2
      obtain ⟨h3, h4⟩ := List.append_inj' h2 rfl
      exact ⟨by simpa using h4, h3⟩
    · rintro ⟨h3, h4⟩
      rw [h3, h4]
  rw [← Bool.decide_and]
  exact decide_eq_decide.mpr e
theorem ab_cases (i : Int) : (0 ≤ i ∧ ab i = i) ∨ (i < 0 ∧ ab i = -i) := by
  unfold ab
  split
  · exact .inr ⟨by omega, rfl⟩
  · exact .inl ⟨by omega, rfl⟩
theorem mv_cases (t b n : Int) : (mv t b n = .warm ∧ ab (t - n) < ab (t - b)) ∨ (mv t b n = .cold ∧ ab (t - b) < ab (t - n)) ∨ (mv t b n = .same ∧ ab (t - b) = ab (t - n)) := by
  unfold mv word
  split
  · exact .inl ⟨rfl, by assumption⟩
  · split
    · exact .inr (.inl ⟨rfl, by assumption⟩)
    · exact .inr (.inr ⟨rfl, by omega⟩)
theorem mv_side (t b n : Int) : (mv t b n = .warm ∧ ((b < n ∧ b + n < 2 * t) ∨ (n < b ∧ 2 * t < b + n))) ∨ (mv t b n = .cold ∧ ((b < n ∧ 2 * t < b + n) ∨ (n < b ∧ b + n < 2 * t))) ∨ (mv t b n = .same ∧ (b = n ∨ 2 * t = b + n)) := by
  have h1 := ab_cases (t - b)
  have h2 := ab_cases (t - n)
  rcases mv_cases t b n with ⟨e, h⟩ | ⟨e, h⟩ | ⟨e, h⟩
  · exact .inl ⟨e, by omega⟩
  · exact .inr (.inl ⟨e, by omega⟩)
  · exact .inr (.inr ⟨e, by omega⟩)
theorem mv_warm {t b n : Int} : mv t b n = .warm ↔ (b < n ∧ b + n < 2 * t) ∨ (n < b ∧ 2 * t < b + n) := by
  rcases mv_side t b n with ⟨e, h⟩ | ⟨e, h⟩ | ⟨e, h⟩
  · exact ⟨fun _ => h, fun _ => e⟩
  · exact ⟨fun z => (by rw [e] at z; cases z), fun z => (by omega)⟩
  · exact ⟨fun z => (by rw [e] at z; cases z), fun z => (by omega)⟩
theorem mv_cold {t b n : Int} : mv t b n = .cold ↔ (b < n ∧ 2 * t < b + n) ∨ (n < b ∧ b + n < 2 * t) := by
  rcases mv_side t b n with ⟨e, h⟩ | ⟨e, h⟩ | ⟨e, h⟩
  · exact ⟨fun z => (by rw [e] at z; cases z), fun z => (by omega)⟩
  · exact ⟨fun _ => h, fun _ => e⟩
  · exact ⟨fun z => (by rw [e] at z; cases z), fun z => (by omega)⟩
theorem mv_same {t b n : Int} : mv t b n = .same ↔ b = n ∨ 2 * t = b + n := by
  rcases mv_side t b n with ⟨e, h⟩ | ⟨e, h⟩ | ⟨e, h⟩
  · exact ⟨fun z => (by rw [e] at z; cases z), fun z => (by omega)⟩
  · exact ⟨fun z => (by rw [e] at z; cases z), fun z => (by omega)⟩
  · exact ⟨fun _ => h, fun _ => e⟩
theorem mv_convex (w : Wo) (b n x y z : Int) (h1 : x < y) (h2 : y < z) (hx : mv x b n = w) (hz : mv z b n = w) : mv y b n = w := by
  cases w with
  | warm =>
    have := mv_warm.mp hx
    have := mv_warm.mp hz
    exact mv_warm.mpr (by omega)
  | cold =>
    have := mv_cold.mp hx
    have := mv_cold.mp hz
    exact mv_cold.mpr (by omega)
  | same =>
    have := mv_same.mp hx
    have := mv_same.mp hz
    exact mv_same.mpr (by omega)
theorem wordsOf_convex (x y z : Int) (h1 : x < y) (h2 : y < z) : ∀ (st : List Int) (ws : List Wo), wordsOf x st = ws → wordsOf z st = ws → wordsOf y st = ws
  | [], ws, hx, _ => hx
  | [_], ws, hx, _ => hx
  | a :: b :: r, ws, hx, hz => by
    rw [wordsOf_cons2] at hx hz ⊢
    cases ws with
    | nil => cases hx
    | cons w ws =>
      obtain ⟨p1, p2⟩ := List.cons.inj hx
      obtain ⟨q1, q2⟩ := List.cons.inj hz
      rw [mv_convex w a b x y z h1 h2 p1 q1, wordsOf_convex x y z h1 h2 (b :: r) ws p2 q2]
theorem lies_stretch (l : Int) (st : List Int) (ws : List Wo) : ∃ a b, lies l st ws = rng a b :=
  rng_convex (fun x y z h1 h2 hx hz => decide_eq_true (wordsOf_convex x y z h1 h2 st ws (of_decide_eq_true hx) (of_decide_eq_true hz))) _ 1 (l + 1) rfl
theorem mem_lies {l t : Int} {st : List Int} {ws : List Wo} : t ∈ lies l st ws ↔ (1 ≤ t ∧ t ≤ l) ∧ wordsOf t st = ws := by
  unfold lies
  rw [List.mem_filter, mem_rng, decide_eq_true_iff]
  constructor
  · rintro ⟨⟨h1, h2⟩, h3⟩
    exact ⟨⟨h1, by omega⟩, h3⟩
  · rintro ⟨⟨h1, h2⟩, h3⟩
    exact ⟨⟨h1, by omega⟩, h3⟩
theorem lies_all (l : Int) {st : List Int} (h : st.length ≤ 1) : lies l st [] = rng 1 (l + 1) := by
  unfold lies
  exact List.filter_eq_self.mpr fun t _ => decide_eq_true (wordsOf_one t h)
theorem mv_mirror (c t e l : Int) : mv (c - t) (c - e) (c - l) = mv t e l := by
  unfold mv
  have h1 : ab (c - t - (c - e)) = ab (t - e) := by
    unfold ab
    split <;> split <;> omega
  have h2 : ab (c - t - (c - l)) = ab (t - l) := by
    unfold ab
    split <;> split <;> omega
  rw [h1, h2]
theorem wordsOf_mirror (c t : Int) : ∀ st : List Int, wordsOf (c - t) (st.map fun p => c - p) = wordsOf t st
  | [] => rfl
  | [_] => rfl
  | a :: b :: r => by
    show mv (c - t) (c - a) (c - b) :: wordsOf (c - t) ((b :: r).map fun p => c - p) = _
    rw [mv_mirror, wordsOf_mirror c t (b :: r)]
    rfl
theorem rng_mirror : ∀ (n : Nat) (lo hi c : Int), (hi - lo).toNat = n → ((rng lo hi).reverse).map (fun x => c - x) = rng (c - hi + 1) (c - lo + 1)
  | 0, lo, hi, c, hn => by
    rw [rng_nil (by omega), rng_nil (by omega)]
    rfl
  | n + 1, lo, hi, c, hn => by
    rw [rng_cons (by omega), List.reverse_cons, List.map_append, rng_mirror n (lo + 1) hi c (by omega)]
    have e : c - (lo + 1) + 1 = c - lo := by omega
    rw [e, rng_snoc (by omega)]
    rfl
theorem lies_mirror (l : Int) (st : List Int) (ws : List Wo) : lies l (st.map fun p => l + 1 - p) ws = ((lies l st ws).reverse).map fun x => l + 1 - x := by
  have e : rng 1 (l + 1) = ((rng 1 (l + 1)).reverse).map fun x => l + 1 - x := by
    rw [rng_mirror _ 1 (l + 1) (l + 1) rfl]
    congr 1 <;> omega
  unfold lies
  rw [← List.filter_reverse]
  conv => lhs; rw [e]
  rw [List.filter_map]
  congr 1
  refine List.filter_congr fun t _ => ?_
  show decide (wordsOf (l + 1 - t) (st.map fun p => l + 1 - p) = ws) = decide (wordsOf t st = ws)
  rw [wordsOf_mirror]
def turn : Wo → Wo
  | .warm => .cold
  | .cold => .warm
  | .same => .same
theorem mv_turn (t e l : Int) : mv t l e = turn (mv t e l) := by
  unfold mv word
  by_cases h1 : ab (t - l) < ab (t - e)
  · rw [if_neg (by omega), if_pos h1, if_pos h1]
    rfl
  · by_cases h2 : ab (t - e) < ab (t - l)
    · rw [if_pos h2, if_neg h1, if_pos h2]
      rfl
    · rw [if_neg h2, if_neg h1, if_neg h1, if_neg h2]
      rfl
theorem wordsOf_snoc (t : Int) : ∀ (xs : List Int) (y x : Int), wordsOf t (xs ++ [y, x]) = wordsOf t (xs ++ [y]) ++ [mv t y x]
  | [], y, x => rfl
  | [a], y, x => rfl
  | a :: b :: r, y, x => by
    show mv t a b :: wordsOf t (b :: r ++ [y, x]) = (mv t a b :: wordsOf t (b :: r ++ [y])) ++ [mv t y x]
    rw [wordsOf_snoc t (b :: r) y x]
    rfl
theorem wordsOf_back (t : Int) : ∀ st : List Int, (wordsOf t st.reverse).reverse = (wordsOf t st).map turn
  | [] => rfl
  | [_] => rfl
  | a :: b :: r => by
    have e : (a :: b :: r).reverse = r.reverse ++ [b, a] := by simp
    have e2 : r.reverse ++ [b] = (b :: r).reverse := by simp
    rw [e, wordsOf_snoc, e2, List.reverse_append, wordsOf_back t (b :: r), wordsOf_cons2, List.map_cons, ← mv_turn]
    rfl
theorem in_ints (t : Int) (ns : List Int) : inV (V.int t) (ns.map V.int) = decide (t ∈ ns) := by
  unfold inV
  rw [List.any_map]
  induction ns with
  | nil => rfl
  | cons n r ih =>
    rw [List.any_cons, ih]
    show ((n == t) || decide (t ∈ r)) = decide (t ∈ n :: r)
    by_cases h1 : n = t
    · subst h1
      simp
    · have h2 : ¬ t = n := fun e => h1 e.symm
      simp [h1, h2]
theorem flat_ints (ns : List Int) : (ns.map V.int).all flatV = true := by
  rw [List.all_map, List.all_eq_true]
  intro n _
  rfl
theorem cut_to (xs : List V) (k : Nat) : cutV xs none (some (k : Int)) = xs.take k := by
  unfold cutV
  rw [HT.sIx_none, HT.sIx_nat, List.drop_zero, Nat.sub_zero]
  by_cases h : k ≤ xs.length
  · rw [Nat.min_eq_left h]
  · rw [Nat.min_eq_right (by omega), List.take_of_length_le (Nat.le_refl _), List.take_of_length_le (by omega)]
/-! ### deeds -/
theorem wordsOf_two (t e l : Int) : ∀ st0 : List Int, wordsOf t (st0 ++ [e, l]) = wordsOf t (st0 ++ [e]) ++ [mv t e l]
  | [] => rfl
  | [a] => rfl
  | a :: b :: r => by
    have := wordsOf_two t e l (b :: r)
    show mv t a b :: wordsOf t (b :: r ++ [e, l]) = mv t a b :: wordsOf t (b :: r ++ [e]) ++ [mv t e l]
    rw [this]
    rfl
inductive Deed where
  | stand (v : V)
  | answer (o : Option Wo)
  | back (v : V)
def Deed.word : Deed → Str
  | .stand _ => "stand"
  | .answer _ => "answer"
  | .back _ => "back"
def Deed.val : Deed → V
  | .stand v => v
  | .answer (some w) => vW w
  | .answer none => .str hotS
  | .back v => v
def Deed.ok : Deed → Prop
  | .stand v => Sm v
  | .answer _ => True
  | .back _ => True
def intOf : V → Int
  | .int i => i
  | _ => 0
abbrev Stt := List Int × List Wo
def waitsB (s : Stt) : Bool := decide (s.2.length + 1 < s.1.length)
/-- the state ahead of what was done last -/
def prevS (s : Stt) : Stt := if waitsB s = true ∨ s.1.length = 1 then (s.1.dropLast, s.2) else (s.1, s.2.dropLast)
def stepD (L : Int) (s : Stt) : Deed → Sum Str Stt
  | .stand v => if isPl v L = false then .inl "NoPlace" else if waitsB s = true then .inl "NotNow" else .inr (s.1 ++ [intOf v], s.2)
  | .answer none => .inl "NoAnswer"
  | .answer (some w) => if waitsB s = false then .inl "NotNow" else if lies L s.1 (s.2 ++ [w]) = [] then .inl "Never" else .inr (s.1, s.2 ++ [w])
  | .back _ => if s.1 = [] then .inl "NothingLeft" else .inr (prevS s)
/-- what stands and answers can be -/
structure Val (L : Int) (s : Stt) : Prop where
  pl : Places L s.1
  sh : (s.1 = [] ∧ s.2 = []) ∨ s.1.length = s.2.length + 1 ∨ s.1.length = s.2.length + 2
/-- the places left ahead of all answers and behind each -/
def pref (L : Int) (s : Stt) : List (List Int) := (List.range (s.2.length + 1)).map fun j => lies L (s.1.take (j + 1)) (s.2.take j)
theorem pref_len (L : Int) (s : Stt) : (pref L s).length = s.2.length + 1 := by
  unfold pref
  rw [List.length_map, List.length_range]
theorem pref_last (L : Int) (s : Stt) : ∃ fs, pref L s = fs ++ [lies L (s.1.take (s.2.length + 1)) s.2] ∧ fs.length = s.2.length := by
  refine ⟨(List.range s.2.length).map fun j => lies L (s.1.take (j + 1)) (s.2.take j), ?_, by rw [List.length_map, List.length_range]⟩
  unfold pref
  rw [List.range_succ, List.map_append]
  show _ ++ [lies L (s.1.take (s.2.length + 1)) (s.2.take s.2.length)] = _
  rw [List.take_length]
theorem lies_one (L p : Int) : lies L [p] [] = lies L [] [] := rfl
theorem pref_stand {L : Int} {s : Stt} (v : Val L s) (hw : waitsB s = false) (p : Int) : pref L (s.1 ++ [p], s.2) = pref L s := by
  have hw : ¬ s.2.length + 1 < s.1.length := of_decide_eq_false hw
  unfold pref
  refine List.map_congr_left fun j hj => ?_
  have hj := List.mem_range.mp hj
  dsimp only at hj ⊢
  rcases v.sh with ⟨h1, h2⟩ | h | h
  · rw [h1, h2]
    rw [h2] at hj
    have : j = 0 := by simp at hj; omega
    rw [this]
    rfl
  · rw [List.take_append_of_le_length (by omega)]
  · omega
theorem pref_answer {L : Int} {s : Stt} (hl : s.1.length = s.2.length + 2) (w : Wo) : pref L (s.1, s.2 ++ [w]) = pref L s ++ [lies L s.1 (s.2 ++ [w])] := by
  unfold pref
  have e1 : (s.2 ++ [w]).length + 1 = (s.2.length + 1) + 1 := by rw [List.length_append]; rfl
  show (List.range ((s.2 ++ [w]).length + 1)).map _ = _
  rw [e1, List.range_succ, List.map_append]
  have e2 : ([s.2.length + 1].map fun j => lies L (s.1.take (j + 1)) ((s.2 ++ [w]).take j)) = [lies L s.1 (s.2 ++ [w])] := by
    show [lies L (s.1.take (s.2.length + 1 + 1)) ((s.2 ++ [w]).take (s.2.length + 1))] = _
    rw [List.take_of_length_le (by omega), List.take_of_length_le (by rw [List.length_append]; show s.2.length + 1 ≤ _; omega)]
  rw [e2]
  congr 1
  refine List.map_congr_left fun j hj => ?_
  have hj := List.mem_range.mp hj
  dsimp only
  rw [List.take_append_of_le_length (by omega)]
theorem pref_back_stand {L : Int} {s : Stt} (v : Val L s) (hc : waitsB s = true ∨ s.1.length = 1) : pref L (s.1.dropLast, s.2) = pref L s := by
  unfold pref
  refine List.map_congr_left fun j hj => ?_
  have hj := List.mem_range.mp hj
  dsimp only at hj ⊢
  rcases v.sh with ⟨h1, h2⟩ | h | h
  · rw [h1, h2]
    rfl
  · have h1 : s.1.length = 1 := by
      rcases hc with z | z
      · have := of_decide_eq_true z
        omega
      · exact z
    have h0 : s.2 = [] := List.length_eq_zero_iff.mp (by omega)
    have hj0 : j = 0 := by
      rw [h0] at hj
      simp at hj
      omega
    obtain ⟨p, hp⟩ := List.length_eq_one_iff.mp h1
    rw [hp, h0, hj0]
    rfl
  · rw [List.dropLast_eq_take, List.take_take, Nat.min_eq_left (by omega)]
theorem pref_back_answer {L : Int} {s : Stt} (h : s.2 ≠ []) : pref L (s.1, s.2.dropLast) = (pref L s).dropLast := by
  have hl : 0 < s.2.length := List.length_pos_iff.mpr h
  unfold pref
  have e1 : s.2.dropLast.length + 1 = s.2.length := by rw [List.length_dropLast]; omega
  show (List.range (s.2.dropLast.length + 1)).map _ = _
  rw [e1, List.range_succ, List.map_append]
  show _ = (_ ++ [_]).dropLast
  rw [List.dropLast_concat]
  refine List.map_congr_left fun j hj => ?_
  have hj := List.mem_range.mp hj
  dsimp only
  rw [List.dropLast_eq_take, List.take_take, Nat.min_eq_left (by omega)]
theorem lies_more {L : Int} {st0 : List Int} {e l : Int} {ws : List Wo} (hl : st0.length = ws.length) (w : Wo) : lies L (st0 ++ [e, l]) (ws ++ [w]) = (lies L ((st0 ++ [e, l]).take (ws.length + 1)) ws).filter fun t => decide (mv t e l = w) := by
  have e1 : (st0 ++ [e, l]).take (ws.length + 1) = st0 ++ [e] := by
    rw [← hl, List.take_append]
    have : st0.take (st0.length + 1) = st0 := List.take_of_length_le (by omega)
    rw [this, show st0.length + 1 - st0.length = 1 by omega]
    rfl
  rw [e1]
  unfold lies
  rw [List.filter_filter]
  refine List.filter_congr fun t _ => ?_
  rw [wordsOf_two]
  have hwl : (wordsOf t (st0 ++ [e])).length = ws.length := by
    rw [wordsOf_len, List.length_append]
    show st0.length + 1 - 1 = ws.length
    omega
  have key : (wordsOf t (st0 ++ [e]) ++ [mv t e l] = ws ++ [w]) ↔ (mv t e l = w ∧ wordsOf t (st0 ++ [e]) = ws) := by
    constructor
    · intro z
      obtain ⟨z1, z2⟩ := List.append_inj z hwl
      exact ⟨(List.cons.inj z2).1, z1⟩
    · rintro ⟨z1, z2⟩
      rw [z1, z2]
  by_cases h1 : mv t e l = w <;> by_cases h2 : wordsOf t (st0 ++ [e]) = ws <;> simp [key, h1, h2]
theorem Val.prev {L : Int} {s : Stt} (v : Val L s) (h : s.1 ≠ []) : Val L (prevS s) := by
  unfold prevS
  have hp : 0 < s.1.length := List.length_pos_iff.mpr h
  split
  · rename_i hc
    refine ⟨fun n hn => v.pl n (List.dropLast_subset _ hn), ?_⟩
    dsimp only
    rcases v.sh with ⟨h1, _⟩ | h1 | h1
    · exact absurd h1 h
    · have h2 : s.1.length = 1 := by
        rcases hc with z | z
        · have := of_decide_eq_true z
          omega
        · exact z
      refine .inl ⟨List.length_eq_zero_iff.mp (by rw [List.length_dropLast]; omega), List.length_eq_zero_iff.mp (by omega)⟩
    · refine .inr (.inl ?_)
      rw [List.length_dropLast]
      omega
  · rename_i hc
    have hw : ¬ s.2.length + 1 < s.1.length := fun z => hc (.inl (decide_eq_true z))
    have h1 : ¬ s.1.length = 1 := fun z => hc (.inr z)
    refine ⟨v.pl, ?_⟩
    dsimp only
    rcases v.sh with ⟨h2, _⟩ | h2 | h2
    · exact absurd h2 h
    · refine .inr (.inr ?_)
      rw [List.length_dropLast]
      omega
    · omega
theorem Val.step {L : Int} {s s' : Stt} {D : Deed} (v : Val L s) (h : stepD L s D = .inr s') : Val L s' := by
  cases D with
  | stand x =>
    simp only [stepD] at h
    split at h
    · cases h
    · split at h
      · cases h
      · rename_i h1 h2
        obtain ⟨p, rfl, p1, p2⟩ := isPl_int (Bool.eq_false_or_eq_true _ |>.resolve_right h1)
        cases h
        have hw : ¬ s.2.length + 1 < s.1.length := fun z => h2 (decide_eq_true z)
        refine ⟨fun n hn => ?_, ?_⟩
        · rcases List.mem_append.mp hn with z | z
          · exact v.pl n z
          · rw [List.mem_singleton.mp z]
            exact ⟨p1, p2⟩
        · show (s.1 ++ [p] = [] ∧ _) ∨ (s.1 ++ [p]).length = _ ∨ (s.1 ++ [p]).length = _
          rw [List.length_append]
          show _ ∨ s.1.length + 1 = s.2.length + 1 ∨ s.1.length + 1 = s.2.length + 2
          rcases v.sh with ⟨z1, z2⟩ | z | z
          · rw [z1, z2]
            exact .inr (.inl rfl)
          · exact .inr (.inr (by omega))
          · omega
  | answer o =>
    cases o with
    | none => cases h
    | some w =>
      simp only [stepD] at h
      split at h
      · cases h
      · split at h
        · cases h
        · rename_i h1 h2
          cases h
          have hw : s.2.length + 1 < s.1.length := of_decide_eq_true (Bool.eq_false_or_eq_true _ |>.resolve_right h1)
          refine ⟨v.pl, ?_⟩
          show _ ∨ s.1.length = (s.2 ++ [w]).length + 1 ∨ _
          rw [List.length_append]
          rcases v.sh with ⟨z1, z2⟩ | z | z
          · rw [z1, z2] at hw
            simp at hw
          · omega
          · exact .inr (.inl (by show s.1.length = s.2.length + 1 + 1; omega))
  | back x =>
    simp only [stepD] at h
    split at h
    · cases h
    · rename_i h1
      cases h
      exact v.prev h1
theorem cut_take (xs : List V) (k : Nat) : cutV xs none (some (k : Int)) = xs.take k := by
  unfold cutV
  rw [HT.sIx_none, HT.sIx_nat, List.drop_zero, Nat.sub_zero]
  by_cases h : k ≤ xs.length
  · rw [Nat.min_eq_left h]
  · rw [Nat.min_eq_right (by omega), List.take_length, List.take_of_length_le (by omega)]
/-! ### anything handed in -/
inductive SmA (H : Hp) : V → Prop
  | sm {v : V} : Sm v → SmA H v
  | tup {a : Addr} {xs : List V} : H a = some (.tup xs) → SmA H (.ref a)
  | lst {a : Addr} {xs : List V} : H a = some (.lst xs) → SmA H (.ref a)
theorem SmA.ex {H H' : Hp} {v : V} (h : SmA H v) (e : Ex H H') : SmA H' v := by
  cases h with
  | sm z => exact .sm z
  | tup z => exact .tup (e _ _ z)
  | lst z => exact .lst (e _ _ z)
/-- a word of an answer -/
def isW : V → Bool
  | .str x => decide (x = "warm") || (decide (x = "cold") || decide (x = "same"))
  | _ => false
theorem isW_vW (w : Wo) : isW (vW w) = true := by
  cases w <;> decide +kernel
/-- a stretch -/
def okSt (l : Int) : List V → Bool
  | [x, y] => isPl x l && (isPl y l && decide (intOf x ≤ intOf y))
  | _ => false
/-- no list of stands -/
def BadSt (H : Hp) (v : V) (l : Int) : Prop := (Sm v ∨ ∃ a xs, v = .ref a ∧ H a = some (.tup xs)) ∨ ∃ a xs, v = .ref a ∧ H a = some (.lst xs) ∧ (∀ x ∈ xs, Sm x) ∧ xs.length ≤ 1000 ∧ (40 < xs.length ∨ (xs.all fun x => isPl x l) = false)
/-- no list of so many answers -/
def BadAn (H : Hp) (v : V) (n : Nat) : Prop := (Sm v ∨ ∃ a xs, v = .ref a ∧ H a = some (.tup xs)) ∨ ∃ a xs, v = .ref a ∧ H a = some (.lst xs) ∧ (∀ x ∈ xs, Sm x) ∧ xs.length ≤ 1000 ∧ (xs.length ≠ n ∨ (xs.all isW) = false)
theorem BadSt.ex {H H' : Hp} {v : V} {l : Int} (h : BadSt H v l) (e : Ex H H') : BadSt H' v l := by
  rcases h with (h | ⟨a, xs, rfl, h⟩) | ⟨a, xs, rfl, h, r⟩
  · exact .inl (.inl h)
  · exact .inl (.inr ⟨a, xs, rfl, e _ _ h⟩)
  · exact .inr ⟨a, xs, rfl, e _ _ h, r⟩
theorem BadAn.ex {H H' : Hp} {v : V} {n : Nat} (h : BadAn H v n) (e : Ex H H') : BadAn H' v n := by
  rcases h with (h | ⟨a, xs, rfl, h⟩) | ⟨a, xs, rfl, h, r⟩
  · exact .inl (.inl h)
  · exact .inl (.inr ⟨a, xs, rfl, e _ _ h⟩)
  · exact .inr ⟨a, xs, rfl, e _ _ h, r⟩
theorem isPl_of {i l : Int} (h1 : 1 ≤ i) (h2 : i ≤ l) : isPl (.int i) l = true := decide_eq_true ⟨h1, h2⟩
theorem call1 {sp : Sp} {E : XK} {i : Nat} {σ : L2.St} {H : Hp} {Q : VK} {v : V} (h : σ[i]? = some (some v)) (q : sp [v] H Q E) : tCall sp [] E (tCons (tVar i) tNil) σ H Q := ⟨v, h, q⟩
theorem call2 {sp : Sp} {E : XK} {i j : Nat} {σ : L2.St} {H : Hp} {Q : VK} {v w : V} (h : σ[i]? = some (some v)) (h' : σ[j]? = some (some w)) (q : sp [v, w] H Q E) : tCall sp [] E (tCons (tVar i) (tCons (tVar j) tNil)) σ H Q := ⟨v, h, w, h', q⟩
theorem seq_drop {t : TE} {u : TS} {D : Ends} {σ : L2.St} {H : Hp} (h : t σ H fun _ H1 => u D σ H1) : tSeq (tDrop t) u D σ H := h
theorem ret_of {t : TE} {D : Ends} {σ : L2.St} {H : Hp} (h : t σ H D.rt) : tRet t D σ H := h
/-- a door of a length, stands and answers: refused by the first that is due, or done -/
def DoorSp (K : PySem.W.Frag) : Sp := fun vs H Q E => ∃ v1 v2 v3 : V, vs = [v1, v2, v3] ∧ SmA H v1 ∧ ((isPl v1 60 = false ∧ E (.ref (He.ga K "NoLength")) none H) ∨ ∃ l : Int, v1 = .int l ∧ 1 ≤ l ∧ l ≤ 60 ∧
  ((BadSt H v2 l ∧ ∀ H', Ex H H' → E (.ref (He.ga K "NoStands")) none H') ∨ ∃ (s : Addr) (st : List Int), v2 = .ref s ∧ H s = some (.lst (st.map V.int)) ∧ st.length ≤ 40 ∧ Places l st ∧
    ((BadAn H v3 (st.length - 1) ∧ ∀ H', Ex H H' → E (.ref (He.ga K "NoAnswers")) none H') ∨ ∃ (a : Addr) (ws : List Wo), v3 = .ref a ∧ H a = some (.lst (ws.map vW)) ∧ ws.length = st.length - 1 ∧ ∀ v H', Ex H H' → Q v H')))
/-- raise TooLong(i): an exception with its field -/
def tRzT (C : Addr) (ta : TE) (E : XK) : TS := fun _ σ H => ta σ H fun v H1 => ∃ i : Int, v = .int i ∧ 0 ≤ i ∧ i ≤ 100 ∧ ∀ d, H1 d = none → E (.ref C) (some d) (upd H1 d (.xd [("most", .int i)]))
def TLE (K : PySem.W.Frag) (E : XK) (H : Hp) : Prop := ∀ d, H d = none → E (.ref (He.ga K "TooLong")) (some d) (upd H d (.xd [("most", .int 16)]))
/-- no stretch -/
def BadStr (H : Hp) (v : V) (l : Int) : Prop := (Sm v ∨ ∃ a xs, v = .ref a ∧ H a = some (.lst xs)) ∨ ∃ a xs, v = .ref a ∧ H a = some (.tup xs) ∧ (∀ x ∈ xs, Sm x) ∧ okSt l xs = false
/-- a door of a length, a stretch and a place -/
def GoSp (K : PySem.W.Frag) : Sp := fun vs H Q E => ∃ v1 v2 v3 : V, vs = [v1, v2, v3] ∧ SmA H v1 ∧ ((isPl v1 60 = false ∧ E (.ref (He.ga K "NoLength")) none H) ∨ ∃ L : Int, v1 = .int L ∧ 1 ≤ L ∧ L ≤ 60 ∧ ((16 < L ∧ TLE K E H) ∨ (L ≤ 16 ∧
  ((BadStr H v2 L ∧ E (.ref (He.ga K "NoStretch")) none H) ∨ ∃ (s : Addr) (a b : Int), v2 = .ref s ∧ H s = some (.tup [.int a, .int b]) ∧ 1 ≤ a ∧ a ≤ b ∧ b ≤ L ∧ SmA H v3 ∧
    ((isPl v3 L = false ∧ E (.ref (He.ga K "NoPlace")) none H) ∨ ∃ p : Int, v3 = .int p ∧ 1 ≤ p ∧ p ≤ L ∧ ∀ v H', Ex H H' → Q v H')))))
def sp_is_whole (K : PySem.W.Frag) : Sp := fun vs H Q _ => ∃ v : V, SmA H v ∧ vs = [v] ∧ Q (.bl (isI v)) H
abbrev N_is_whole : List Str := ["value"]
def t_is_whole (K : PySem.W.Frag) : TS := (tRet (tAndV (tCB (rIsi K) (tCons (tVar 0) (tCons (tC (.ty "int")) tNil))) (tNotV (tCB (rIsi K) (tCons (tVar 0) (tCons (tC (.ty "bool")) tNil))))))
theorem pure_is_whole {K : PySem.W.Frag} {vs : List V} {H : Hp} {Q : VK} {E : XK} (h : sp_is_whole K vs H Q E) : t_is_whole K { nx := fun _ H' => Q .non H', rt := Q } (start N_is_whole vs) H := by
  obtain ⟨v, hv, rfl, q⟩ := h
  cases hv with
  | sm hv =>
    cases hv with
    | int i =>
      refine ⟨_, rfl, .int i, .ty "int", _, _, true, rfl, .ty "int", .base (.int i), kit_ty (by decide +kernel), true, rfl, iteT ?_⟩
      exact ⟨_, rfl, .int i, .ty "bool", _, _, false, rfl, .ty "bool", .base (.int i), kit_ty (by decide +kernel), false, rfl, q⟩
    | bl b =>
      refine ⟨_, rfl, .bl b, .ty "int", _, _, true, rfl, .ty "int", .base (.bl b), kit_ty (by decide +kernel), true, rfl, iteT ?_⟩
      exact ⟨_, rfl, .bl b, .ty "bool", _, _, true, rfl, .ty "bool", .base (.bl b), kit_ty (by decide +kernel), true, rfl, q⟩
    | non => exact ⟨_, rfl, .non, .ty "int", _, _, false, rfl, .ty "int", .base .non, kit_ty (by decide +kernel), false, rfl, iteF q⟩
    | str x => exact ⟨_, rfl, .str x, .ty "int", _, _, false, rfl, .ty "int", .base (.str x), kit_ty (by decide +kernel), false, rfl, iteF q⟩
  | tup z => exact ⟨_, rfl, _, .ty "int", _, _, false, rfl, .ty "int", .base (.tup z), kit_ty (by decide +kernel), false, rfl, iteF q⟩
  | lst z => exact ⟨_, rfl, _, .ty "int", _, _, false, rfl, .ty "int", .base (.lst z), kit_ty (by decide +kernel), false, rfl, iteF q⟩
theorem len_is_whole {K : PySem.W.Frag} {vs : List V} {H : Hp} {Q : VK} {E : XK} (h : sp_is_whole K vs H Q E) : vs.length = 1 := by
  obtain ⟨v, _, rfl, _⟩ := h
  rfl
def sp_is_place (K : PySem.W.Frag) : Sp := fun vs H Q _ => ∃ (v : V) (l : Int), SmA H v ∧ vs = [v, .int l] ∧ Q (.bl (isPl v l)) H
abbrev N_is_place : List Str := ["value", "length"]
def t_is_place (K : PySem.W.Frag) : TS := (tRet (tAndV (tCall (sp_is_whole K) [] E0 (tCons (tVar 0) tNil)) (tChain (rI0 fun i j => .bl (decide (i ≤ j))) (rI0 fun i j => .bl (decide (i ≤ j))) (tC (.int 1)) (tVar 0) (tVar 1))))
theorem pure_is_place {K : PySem.W.Frag} {vs : List V} {H : Hp} {Q : VK} {E : XK} (h : sp_is_place K vs H Q E) : t_is_place K { nx := fun _ H' => Q .non H', rt := Q } (start N_is_place vs) H := by
  obtain ⟨v, l, hv, rfl, q⟩ := h
  refine ⟨_, rfl, v, hv, rfl, isI v, rfl, ?_⟩
  cases hv with
  | sm hv =>
    cases hv with
    | int i =>
      refine iteT ⟨_, rfl, 1, i, rfl, rfl, decide ((1 : Int) ≤ i), rfl, ?_⟩
      by_cases h1 : (1 : Int) ≤ i
      · rw [decide_eq_true h1]
        refine iteT ⟨_, rfl, i, l, rfl, rfl, ?_⟩
        have e : decide (i ≤ l) = isPl (.int i) l := by simp [isPl, h1]
        show Q (.bl (decide (i ≤ l))) H
        rw [e]
        exact q
      · rw [decide_eq_false h1]
        refine iteF ?_
        have e : false = isPl (.int i) l := by simp [isPl, h1]
        show Q (.bl false) H
        rw [e]
        exact q
    | _ => exact iteF q
  | _ => exact iteF q
theorem len_is_place {K : PySem.W.Frag} {vs : List V} {H : Hp} {Q : VK} {E : XK} (h : sp_is_place K vs H Q E) : vs.length = 2 := by
  obtain ⟨v, l, _, rfl, _⟩ := h
  rfl
def sp_is_word (K : PySem.W.Frag) : Sp := fun vs H Q _ => ∃ v : V, Sm v ∧ vs = [v] ∧ Q (.bl (isW v)) H
abbrev N_is_word : List Str := ["value"]
def t_is_word (K : PySem.W.Frag) : TS := (tRet (tAndV (tCB (rIsi K) (tCons (tVar 0) (tCons (tC (.ty "str")) tNil))) (tOp (rIn K false) (tVar 0) (tC (.ref (He.ga K "WORDS"))))))
theorem inV_words (x : Str) : inV (.str x) [V.str "warm", V.str "cold", V.str "same"] = isW (.str x) := by
  have e : ∀ y : Str, eqV (V.str y) (V.str x) = decide (x = y) := fun y => by
    show (y == x) = decide (x = y)
    by_cases h : x = y
    · rw [decide_eq_true h, h]
      simp
    · rw [decide_eq_false h]
      simp [Ne.symm h]
  show (eqV (V.str "warm") (V.str x) || (eqV (V.str "cold") (V.str x) || (eqV (V.str "same") (V.str x) || false))) = _
  rw [e, e, e, Bool.or_false]
  rfl
theorem pure_is_word {K : PySem.W.Frag} (hW : ∀ H, SqT K H (He.ga K "WORDS") [.str "warm", .str "cold", .str "same"]) {vs : List V} {H : Hp} {Q : VK} {E : XK} (h : sp_is_word K vs H Q E) : t_is_word K { nx := fun _ H' => Q .non H', rt := Q } (start N_is_word vs) H := by
  obtain ⟨v, hv, rfl, q⟩ := h
  cases hv with
  | str x =>
    refine ⟨_, rfl, .str x, .ty "str", _, _, true, rfl, .ty "str", .base (.str x), kit_ty (by decide +kernel), true, rfl, iteT ?_⟩
    refine ⟨_, rfl, _, _, rfl, .inr (hW H), rfl, rfl, ?_⟩
    show Q (.bl (inV (.str x) [V.str "warm", V.str "cold", V.str "same"])) H
    rw [inV_words]
    exact q
  | int i => exact ⟨_, rfl, .int i, .ty "str", _, _, false, rfl, .ty "str", .base (.int i), kit_ty (by decide +kernel), false, rfl, iteF q⟩
  | bl b => exact ⟨_, rfl, .bl b, .ty "str", _, _, false, rfl, .ty "str", .base (.bl b), kit_ty (by decide +kernel), false, rfl, iteF q⟩
  | non => exact ⟨_, rfl, .non, .ty "str", _, _, false, rfl, .ty "str", .base .non, kit_ty (by decide +kernel), false, rfl, iteF q⟩
theorem len_is_word {K : PySem.W.Frag} {vs : List V} {H : Hp} {Q : VK} {E : XK} (h : sp_is_word K vs H Q E) : vs.length = 1 := by
  obtain ⟨v, _, rfl, _⟩ := h
  rfl
def sp_check_length (K : PySem.W.Frag) : Sp := fun vs H Q E => ∃ v : V, SmA H v ∧ vs = [v] ∧ (isPl v 60 = true → Q .non H) ∧ (isPl v 60 = false → E (.ref (He.ga K "NoLength")) none H)
abbrev N_check_length : List Str := ["length"]
def t_check_length (K : PySem.W.Frag) (E : XK) : TS := (tIfS (tNot (tB (tCall (sp_is_place K) [] E0 (tCons (tVar 0) (tCons (tC (.int 60)) tNil))))) (tRz (He.ga K "NoLength") (tJoin [(tC (.str (Str.ofString "a length is a whole number from 1 to "))), (tFmt (tC (.int 60)))]) E) tNext)
theorem pure_check_length {K : PySem.W.Frag} {vs : List V} {H : Hp} {Q : VK} {E : XK} (h : sp_check_length K vs H Q E) : t_check_length K E { nx := fun _ H' => Q .non H', rt := Q } (start N_check_length vs) H := by
  obtain ⟨v, hv, rfl, q1, q2⟩ := h
  refine ⟨_, rfl, v, 60, hv, rfl, _, rfl, ?_⟩
  cases hp : isPl v 60 with
  | true => exact iteF (q1 hp)
  | false => exact iteT ⟨_, rfl, by decide +kernel, .inr ⟨60, rfl, int_log (by decide) (by decide), _, rfl, by decide +kernel, q2 hp⟩⟩
theorem len_check_length {K : PySem.W.Frag} {vs : List V} {H : Hp} {Q : VK} {E : XK} (h : sp_check_length K vs H Q E) : vs.length = 1 := by
  obtain ⟨v, _, rfl, _⟩ := h
  rfl
theorem cl_ok {K : PySem.W.Frag} {H : Hp} {Q : VK} {E : XK} {l : Int} (h1 : 1 ≤ l) (h2 : l ≤ 60) (q : Q .non H) : sp_check_length K [.int l] H Q E := ⟨_, .sm (.int l), rfl, fun _ => q, fun z => by rw [isPl_of h1 h2] at z; cases z⟩
theorem cl_bad {K : PySem.W.Frag} {H : Hp} {Q : VK} {E : XK} {v : V} (hv : SmA H v) (hb : isPl v 60 = false) (q : E (.ref (He.ga K "NoLength")) none H) : sp_check_length K [v] H Q E := ⟨_, hv, rfl, fun z => (by rw [hb] at z; cases z), fun _ => q⟩
def sp_check_going_length (K : PySem.W.Frag) : Sp := fun vs H Q E => ∃ v : V, vs = [v] ∧ SmA H v ∧ ((isPl v 60 = false ∧ E (.ref (He.ga K "NoLength")) none H) ∨ ∃ l : Int, v = .int l ∧ 1 ≤ l ∧ l ≤ 60 ∧ ((16 < l ∧ TLE K E H) ∨ (l ≤ 16 ∧ Q .non H)))
abbrev N_check_going_length : List Str := ["length"]
def t_check_going_length (K : PySem.W.Frag) (E : XK) : TS := (tSeq (tDrop (tCall (sp_check_length K) [] E (tCons (tVar 0) tNil)))
  (tIfS (tTest (tOp (rI0 fun i j => .bl (decide (j < i))) (tVar 0) (tC (.int 16)))) (tRzT (He.ga K "TooLong") (tC (.int 16)) E) tNext))
theorem pure_check_going_length {K : PySem.W.Frag} {vs : List V} {H : Hp} {Q : VK} {E : XK} (h : sp_check_going_length K vs H Q E) : t_check_going_length K E { nx := fun _ H' => Q .non H', rt := Q } (start N_check_going_length vs) H := by
  obtain ⟨v, rfl, s, ⟨b, q⟩ | ⟨l, rfl, h1, h2, ⟨h3, q⟩ | ⟨h3, q⟩⟩⟩ := h
  · exact seq_drop (call1 rfl (cl_bad s b q))
  · refine seq_drop (call1 rfl (cl_ok h1 h2 ⟨_, rfl, l, 16, rfl, rfl, _, rfl, ?_⟩))
    rw [decide_eq_true h3]
    exact iteT ⟨16, rfl, by decide, by decide, q⟩
  · refine seq_drop (call1 rfl (cl_ok h1 h2 ⟨_, rfl, l, 16, rfl, rfl, _, rfl, ?_⟩))
    rw [decide_eq_false (show ¬ (16 : Int) < l by omega)]
    exact iteF q
theorem len_check_going_length {K : PySem.W.Frag} {vs : List V} {H : Hp} {Q : VK} {E : XK} (h : sp_check_going_length K vs H Q E) : vs.length = 1 := by
  obtain ⟨v, rfl, _⟩ := h
  rfl
theorem cg_bad {K : PySem.W.Frag} {H : Hp} {Q : VK} {E : XK} {v : V} (s : SmA H v) (b : isPl v 60 = false) (q : E (.ref (He.ga K "NoLength")) none H) : sp_check_going_length K [v] H Q E := ⟨v, rfl, s, .inl ⟨b, q⟩⟩
theorem cg_long {K : PySem.W.Frag} {H : Hp} {Q : VK} {E : XK} {l : Int} (h1 : 1 ≤ l) (h2 : l ≤ 60) (h3 : 16 < l) (q : TLE K E H) : sp_check_going_length K [.int l] H Q E := ⟨_, rfl, .sm (.int l), .inr ⟨l, rfl, h1, h2, .inl ⟨h3, q⟩⟩⟩
theorem cg_ok {K : PySem.W.Frag} {H : Hp} {Q : VK} {E : XK} {l : Int} (h1 : 1 ≤ l) (h3 : l ≤ 16) (q : Q .non H) : sp_check_going_length K [.int l] H Q E := ⟨_, rfl, .sm (.int l), .inr ⟨l, rfl, h1, by omega, .inr ⟨h3, q⟩⟩⟩
def sp_check_place (K : PySem.W.Frag) : Sp := fun vs H Q E => ∃ (v : V) (l : Int), SmA H v ∧ vs = [v, .int l] ∧ 0 ≤ l ∧ l ≤ 60 ∧ (isPl v l = true → Q .non H) ∧ (isPl v l = false → E (.ref (He.ga K "NoPlace")) none H)
abbrev N_check_place : List Str := ["place", "length"]
def t_check_place (K : PySem.W.Frag) (E : XK) : TS := (tIfS (tNot (tB (tCall (sp_is_place K) [] E0 (tCons (tVar 0) (tCons (tVar 1) tNil))))) (tRz (He.ga K "NoPlace") (tJoin [(tC (.str (Str.ofString "a place is a whole number from 1 to "))), (tFmt (tVar 1))]) E) tNext)
theorem pure_check_place {K : PySem.W.Frag} {vs : List V} {H : Hp} {Q : VK} {E : XK} (h : sp_check_place K vs H Q E) : t_check_place K E { nx := fun _ H' => Q .non H', rt := Q } (start N_check_place vs) H := by
  obtain ⟨v, l, hv, rfl, h0, h1, q1, q2⟩ := h
  refine ⟨_, rfl, _, rfl, v, l, hv, rfl, _, rfl, ?_⟩
  cases hp : isPl v l with
  | true => exact iteF (q1 hp)
  | false =>
    refine iteT ⟨_, rfl, by decide +kernel, _, rfl, .inr ⟨l, rfl, int_log h0 (by omega), _, rfl, ?_, q2 hp⟩⟩
    rw [Str.length_append]
    have := int_len h0 (by omega)
    refine Nat.le_trans (Nat.add_le_add (Nat.le_refl _) this) (by decide +kernel)
theorem len_check_place {K : PySem.W.Frag} {vs : List V} {H : Hp} {Q : VK} {E : XK} (h : sp_check_place K vs H Q E) : vs.length = 2 := by
  obtain ⟨v, l, _, rfl, _⟩ := h
  rfl
theorem cp_ok {K : PySem.W.Frag} {H : Hp} {Q : VK} {E : XK} {v : V} {l : Int} (h0 : 0 ≤ l) (h6 : l ≤ 60) (hv : SmA H v) (hp : isPl v l = true) (q : Q .non H) : sp_check_place K [v, .int l] H Q E := ⟨_, _, hv, rfl, h0, h6, fun _ => q, fun z => (by rw [hp] at z; cases z)⟩
theorem cp_bad {K : PySem.W.Frag} {H : Hp} {Q : VK} {E : XK} {v : V} {l : Int} (h0 : 0 ≤ l) (h6 : l ≤ 60) (hv : SmA H v) (hb : isPl v l = false) (q : E (.ref (He.ga K "NoPlace")) none H) : sp_check_place K [v, .int l] H Q E := ⟨_, _, hv, rfl, h0, h6, fun z => (by rw [hb] at z; cases z), fun _ => q⟩
def sp_check_stands (K : PySem.W.Frag) : Sp := fun vs H Q E => ∃ (v : V) (l : Int), vs = [v, .int l] ∧ 0 ≤ l ∧ l ≤ 60 ∧
  (((Sm v ∨ ∃ a xs, v = .ref a ∧ H a = some (.tup xs)) ∧ E (.ref (He.ga K "NoStands")) none H) ∨
    ∃ a xs, v = .ref a ∧ H a = some (.lst xs) ∧ (∀ x ∈ xs, Sm x) ∧ xs.length ≤ 1000 ∧ (xs.length ≤ 40 → (xs.all fun x => isPl x l) = true → ∀ H', Ex H H' → Q .non H') ∧
      ((40 < xs.length ∨ (xs.all fun x => isPl x l) = false) → ∀ H', Ex H H' → E (.ref (He.ga K "NoStands")) none H'))
abbrev N_check_stands : List Str := ["stands", "length", "stand"]
def t_check_stands (K : PySem.W.Frag) (E : XK) : TS := (tSeq (tIfS (tOr (tNot (tB (tCB (rIsi K) (tCons (tVar 0) (tCons (tC (.ty "list")) tNil))))) (tTest (tOp (rI0 fun i j => .bl (decide (j < i))) (tCB (rLenQ K) (tCons (tVar 0) tNil)) (tC (.int 40))))) (tRz (He.ga K "NoStands") (tJoin [(tC (.str (Str.ofString "stands are a list of at most "))), (tFmt (tC (.int 40))), (tC (.str (Str.ofString " places")))]) E) tNext)
  (tIfS (tNot (tB (tCB (rAll K) (tCons (tLc (iList K (tVar 0)) (gName 2) tYes (tCall (sp_is_place K) [] E0 (tCons (tVar 2) (tCons (tVar 1) tNil))) [2]) tNil)))) (tRz (He.ga K "NoStands") (tJoin [(tC (.str (Str.ofString "each stand is a whole number from 1 to "))), (tFmt (tVar 1))]) E) tNext))
theorem pure_check_stands {K : PySem.W.Frag} {vs : List V} {H : Hp} {Q : VK} {E : XK} (h : sp_check_stands K vs H Q E) : t_check_stands K E { nx := fun _ H' => Q .non H', rt := Q } (start N_check_stands vs) H := by
  obtain ⟨v, l, rfl, h0, h6, hh⟩ := h
  have say : ∀ (σ : L2.St) (H1 : Hp), E (.ref (He.ga K "NoStands")) none H1 → tJoin [(tC (.str (Str.ofString "stands are a list of at most "))), (tFmt (tC (.int 40))), (tC (.str (Str.ofString " places")))] σ H1 fun _ H2 => E (.ref (He.ga K "NoStands")) none H2 := fun σ H1 q =>
    ⟨_, rfl, by decide +kernel, .inr ⟨40, rfl, int_log (by decide) (by decide), _, rfl, by decide +kernel, _, rfl, by decide +kernel, q⟩⟩
  rcases hh with ⟨hv, q⟩ | ⟨a, xs, rfl, ha, hx, hl, q1, q2⟩
  · rcases hv with hv | ⟨a, xs, rfl, ha⟩
    · cases hv with
      | int i => exact ⟨_, rfl, .int i, .ty "list", _, _, false, rfl, .ty "list", .base (.int i), kit_ty (by decide +kernel), false, rfl, iteT (iteT (say _ H q))⟩
      | bl b => exact ⟨_, rfl, .bl b, .ty "list", _, _, false, rfl, .ty "list", .base (.bl b), kit_ty (by decide +kernel), false, rfl, iteT (iteT (say _ H q))⟩
      | non => exact ⟨_, rfl, .non, .ty "list", _, _, false, rfl, .ty "list", .base .non, kit_ty (by decide +kernel), false, rfl, iteT (iteT (say _ H q))⟩
      | str x => exact ⟨_, rfl, .str x, .ty "list", _, _, false, rfl, .ty "list", .base (.str x), kit_ty (by decide +kernel), false, rfl, iteT (iteT (say _ H q))⟩
    · exact ⟨_, rfl, .ref a, .ty "list", _, _, false, rfl, .ty "list", .base (.tup ha), kit_ty (by decide +kernel), false, rfl, iteT (iteT (say _ H q))⟩
  refine ⟨_, rfl, .ref a, .ty "list", _, _, true, rfl, .ty "list", .base (.lst ha), kit_ty (by decide +kernel), true, rfl, iteF ?_⟩
  refine ⟨_, rfl, a, _, rfl, .inl (SqL.of ha), _, _, rfl, rfl, _, rfl, ?_⟩
  by_cases hlong : 40 < xs.length
  · rw [decide_eq_true (show (40 : Int) < (xs.length : Int) by omega)]
    exact iteT (say _ H (q2 (.inl hlong) H (Ex.refl H)))
  rw [decide_eq_false (show ¬ (40 : Int) < (xs.length : Int) by omega)]
  refine iteF ?_
  have hc : Evl.EvL (tLc (iList K (tVar 0)) (gName 2) tYes (tCall (sp_is_place K) [] E0 (tCons (tVar 2) (tCons (tVar 1) tNil))) [2]) (start N_check_stands [.ref a, .int l]) H (xs.map fun n => V.bl (isPl n l)) := by
    have hxs : xs.map id = xs := List.map_id xs
    exact el_mapG .non id (K := K) (a := a) (fun n => V.bl (isPl n l)) (Evl.ev_var rfl) (by rw [hxs]; exact SqL.of ha) (by omega) (fun _ => rfl) fun n H1 _ hn => fun H2 _ Q2 q2 => ⟨_, rfl, _, rfl, n, l, .sm (hx n hn), rfl, q2 H2 (Ex.refl H2)⟩
  dsimp only [tNext, tIfS, tNot, tB, tCB, tCons]
  refine hc H (Ex.refl H) _ fun p H2 _ e2 h2 => ?_
  refine ⟨p, xs.map fun n => isPl n l, rfl, .inl (.inl ?_), _, rfl, ?_⟩
  · rw [h2, List.map_map]
    rfl
  · have ea : ((xs.map fun n => isPl n l).all id) = (xs.all fun n => isPl n l) := by
      rw [List.all_map]
      rfl
    rw [ea]
    cases hall : (xs.all fun n => isPl n l) with
    | true => exact iteF (q1 (by omega) hall H2 e2)
    | false =>
      refine iteT ⟨_, rfl, by decide +kernel, _, rfl, .inr ⟨l, rfl, int_log h0 (by omega), _, rfl, ?_, q2 (.inr hall) H2 e2⟩⟩
      rw [Str.length_append]
      have := int_len h0 (by omega)
      refine Nat.le_trans (Nat.add_le_add (Nat.le_refl _) this) (by decide +kernel)
theorem len_check_stands {K : PySem.W.Frag} {vs : List V} {H : Hp} {Q : VK} {E : XK} (h : sp_check_stands K vs H Q E) : vs.length = 2 := by
  obtain ⟨v, l, rfl, _⟩ := h
  rfl
theorem cs_bad {K : PySem.W.Frag} {H : Hp} {Q : VK} {E : XK} {v : V} {l : Int} (h0 : 0 ≤ l) (h6 : l ≤ 60) (b : BadSt H v l) (q : ∀ H', Ex H H' → E (.ref (He.ga K "NoStands")) none H') : sp_check_stands K [v, .int l] H Q E := by
  refine ⟨v, l, rfl, h0, h6, ?_⟩
  rcases b with b | ⟨a, xs, rfl, ha, hx, hl, hb⟩
  · exact .inl ⟨b, q H (Ex.refl H)⟩
  · refine .inr ⟨a, xs, rfl, ha, hx, hl, fun z1 z2 => ?_, fun _ => q⟩
    rcases hb with hb | hb
    · omega
    · rw [hb] at z2
      cases z2
theorem cs_ok {K : PySem.W.Frag} {H : Hp} {Q : VK} {E : XK} {a : Addr} {st : List Int} {l : Int} (h0 : 0 ≤ l) (h6 : l ≤ 60) (ha : H a = some (.lst (st.map V.int))) (hl : st.length ≤ 40) (hp : Places l st) (q : ∀ H', Ex H H' → Q .non H') : sp_check_stands K [.ref a, .int l] H Q E := by
  have hall : ((st.map V.int).all fun x => isPl x l) = true := by
    rw [List.all_map, List.all_eq_true]
    intro n hn
    exact decide_eq_true (hp n hn)
  refine ⟨_, l, rfl, h0, h6, .inr ⟨a, _, rfl, ha, fun x hx => ?_, by rw [List.length_map]; omega, fun _ _ => q, fun z => ?_⟩⟩
  · obtain ⟨n, _, rfl⟩ := List.mem_map.mp hx
    exact .int n
  · rcases z with z | z
    · rw [List.length_map] at z
      omega
    · rw [hall] at z
      cases z
def sp_check_answers (K : PySem.W.Frag) : Sp := fun vs H Q E => ∃ (v : V) (s : Addr) (st : List Int), vs = [v, .ref s] ∧ SqL K H s (st.map V.int) ∧ st.length ≤ 40 ∧
  (((Sm v ∨ ∃ a xs, v = .ref a ∧ H a = some (.tup xs)) ∧ E (.ref (He.ga K "NoAnswers")) none H) ∨
    ∃ a xs, v = .ref a ∧ H a = some (.lst xs) ∧ (∀ x ∈ xs, Sm x) ∧ xs.length ≤ 1000 ∧ (xs.length = st.length - 1 → (xs.all isW) = true → ∀ H', Ex H H' → Q .non H') ∧
      ((xs.length ≠ st.length - 1 ∨ (xs.all isW) = false) → ∀ H', Ex H H' → E (.ref (He.ga K "NoAnswers")) none H'))
abbrev N_check_answers : List Str := ["answers", "stands", "wanted", "answer"]
def t_check_answers (K : PySem.W.Frag) (E : XK) : TS := (tSeq (tAsg (tCB rMax2 (tCons (tC (.int 0)) (tCons (tOp (rI0 fun i j => .int (i - j)) (tCB (rLenQ K) (tCons (tVar 1) tNil)) (tC (.int 1))) tNil))) (gName 2))
  (tSeq (tIfS (tOr (tNot (tB (tCB (rIsi K) (tCons (tVar 0) (tCons (tC (.ty "list")) tNil))))) (tTest (tOp rNe (tCB (rLenQ K) (tCons (tVar 0) tNil)) (tVar 2)))) (tRz (He.ga K "NoAnswers") (tJoin [(tC (.str (Str.ofString "answers to these stands are a list of "))), (tFmt (tVar 2)), (tC (.str (Str.ofString " words")))]) E) tNext)
  (tIfS (tNot (tB (tCB (rAll K) (tCons (tLc (iList K (tVar 0)) (gName 3) tYes (tCall (sp_is_word K) [] E0 (tCons (tVar 3) tNil)) [3]) tNil)))) (tRz (He.ga K "NoAnswers") (tC (.str (Str.ofString "each answer is warm, cold or same"))) E) tNext)))
theorem pure_check_answers {K : PySem.W.Frag} {vs : List V} {H : Hp} {Q : VK} {E : XK} (h : sp_check_answers K vs H Q E) : t_check_answers K E { nx := fun _ H' => Q .non H', rt := Q } (start N_check_answers vs) H := by
  obtain ⟨v, s, st, rfl, hs, hl2, hh⟩ := h
  refine ⟨_, rfl, s, _, rfl, .inl hs, _, _, rfl, rfl, _, _, rfl, ?_⟩
  have en : (if ((st.map V.int).length : Int) - 1 > 0 then ((st.map V.int).length : Int) - 1 else 0) = ((st.length - 1 : Nat) : Int) := by
    rw [List.length_map]
    split <;> omega
  dsimp only [gName]
  rw [en]
  have say : ∀ (σ : L2.St) (H1 : Hp), σ[2]? = some (some (.int ((st.length - 1 : Nat) : Int))) → E (.ref (He.ga K "NoAnswers")) none H1 → tJoin [(tC (.str (Str.ofString "answers to these stands are a list of "))), (tFmt (tVar 2)), (tC (.str (Str.ofString " words")))] σ H1 fun _ H2 => E (.ref (He.ga K "NoAnswers")) none H2 := fun σ H1 h2 q => by
    have hlen := int_len (i := ((st.length - 1 : Nat) : Int)) (by omega) (by omega)
    refine ⟨_, rfl, by decide +kernel, _, h2, .inr ⟨_, rfl, int_log (by omega) (by omega), _, rfl, ?_, _, rfl, ?_, q⟩⟩
    · rw [Str.length_append]
      refine Nat.le_trans (Nat.add_le_add (Nat.le_refl _) hlen) (by decide +kernel)
    · rw [Str.length_append, Str.length_append]
      refine Nat.le_trans (Nat.add_le_add (Nat.add_le_add (Nat.le_refl _) hlen) (Nat.le_refl _)) (by decide +kernel)
  rcases hh with ⟨hv, q⟩ | ⟨a, xs, rfl, ha, hx, hl, q1, q2⟩
  · rcases hv with hv | ⟨a, xs, rfl, ha⟩
    · cases hv with
      | int i => exact ⟨_, rfl, .int i, .ty "list", _, _, false, rfl, .ty "list", .base (.int i), kit_ty (by decide +kernel), false, rfl, iteT (iteT (say _ H rfl q))⟩
      | bl b => exact ⟨_, rfl, .bl b, .ty "list", _, _, false, rfl, .ty "list", .base (.bl b), kit_ty (by decide +kernel), false, rfl, iteT (iteT (say _ H rfl q))⟩
      | non => exact ⟨_, rfl, .non, .ty "list", _, _, false, rfl, .ty "list", .base .non, kit_ty (by decide +kernel), false, rfl, iteT (iteT (say _ H rfl q))⟩
      | str x => exact ⟨_, rfl, .str x, .ty "list", _, _, false, rfl, .ty "list", .base (.str x), kit_ty (by decide +kernel), false, rfl, iteT (iteT (say _ H rfl q))⟩
    · exact ⟨_, rfl, .ref a, .ty "list", _, _, false, rfl, .ty "list", .base (.tup ha), kit_ty (by decide +kernel), false, rfl, iteT (iteT (say _ H rfl q))⟩
  refine ⟨_, rfl, .ref a, .ty "list", _, _, true, rfl, .ty "list", .base (.lst ha), kit_ty (by decide +kernel), true, rfl, iteF ?_⟩
  refine ⟨_, rfl, a, _, rfl, .inl (SqL.of ha), _, rfl, rfl, _, rfl, ?_⟩
  by_cases hlong : xs.length = st.length - 1
  rotate_left
  · have e : (!decide (V.int ((xs.length : Nat) : Int) = V.int ((st.length - 1 : Nat) : Int))) = true := by
      rw [decide_eq_false (fun z => hlong (by have := V.int.inj z; omega))]
      rfl
    rw [e]
    exact iteT (say _ H rfl (q2 (.inl hlong) H (Ex.refl H)))
  have e : (!decide (V.int ((xs.length : Nat) : Int) = V.int ((st.length - 1 : Nat) : Int))) = false := by
    rw [decide_eq_true (by rw [hlong])]
    rfl
  rw [e]
  refine iteF ?_
  have hc : Evl.EvL (tLc (iList K (tVar 0)) (gName 3) tYes (tCall (sp_is_word K) [] E0 (tCons (tVar 3) tNil)) [3]) [some (.ref a), some (.ref s), some (.int ((st.length - 1 : Nat) : Int)), none] H (xs.map fun n => V.bl (isW n)) := by
    have hxs : xs.map id = xs := List.map_id xs
    exact el_mapG .non id (K := K) (a := a) (fun n => V.bl (isW n)) (Evl.ev_var rfl) (by rw [hxs]; exact SqL.of ha) (by omega) (fun _ => rfl) fun n H1 _ hn => fun H2 _ Q2 q2 => ⟨_, rfl, n, hx n hn, rfl, q2 H2 (Ex.refl H2)⟩
  dsimp only [tNext, tIfS, tNot, tB, tCB, tCons]
  refine hc H (Ex.refl H) _ fun p H2 _ e2 h2 => ?_
  refine ⟨p, xs.map isW, rfl, .inl (.inl ?_), _, rfl, ?_⟩
  · rw [h2, List.map_map]
    rfl
  · have ea : ((xs.map isW).all id) = (xs.all isW) := by
      rw [List.all_map]
      rfl
    rw [ea]
    cases hall : (xs.all isW) with
    | true => exact iteF (q1 hlong hall H2 e2)
    | false => exact iteT (q2 (.inr hall) H2 e2)
theorem len_check_answers {K : PySem.W.Frag} {vs : List V} {H : Hp} {Q : VK} {E : XK} (h : sp_check_answers K vs H Q E) : vs.length = 2 := by
  obtain ⟨v, s, st, rfl, _⟩ := h
  rfl
theorem ca_bad {K : PySem.W.Frag} {H : Hp} {Q : VK} {E : XK} {v : V} {s : Addr} {st : List Int} (hs : SqL K H s (st.map V.int)) (hl : st.length ≤ 40) (b : BadAn H v (st.length - 1)) (q : ∀ H', Ex H H' → E (.ref (He.ga K "NoAnswers")) none H') : sp_check_answers K [v, .ref s] H Q E := by
  refine ⟨v, s, st, rfl, hs, hl, ?_⟩
  rcases b with b | ⟨a, xs, rfl, ha, hx, hl, hb⟩
  · exact .inl ⟨b, q H (Ex.refl H)⟩
  · refine .inr ⟨a, xs, rfl, ha, hx, hl, fun z1 z2 => ?_, fun _ => q⟩
    rcases hb with hb | hb
    · exact absurd z1 hb
    · rw [hb] at z2
      cases z2
theorem ca_ok {K : PySem.W.Frag} {H : Hp} {Q : VK} {E : XK} {a s : Addr} {ws : List Wo} {st : List Int} (hs : SqL K H s (st.map V.int)) (hl : st.length ≤ 40) (ha : H a = some (.lst (ws.map vW))) (hw : ws.length = st.length - 1) (q : ∀ H', Ex H H' → Q .non H') : sp_check_answers K [.ref a, .ref s] H Q E := by
  have hall : ((ws.map vW).all isW) = true := by
    rw [List.all_map, List.all_eq_true]
    intro n _
    exact isW_vW n
  refine ⟨_, s, st, rfl, hs, hl, .inr ⟨a, _, rfl, ha, fun x hx => ?_, by rw [List.length_map]; omega, fun _ _ => q, fun z => ?_⟩⟩
  · obtain ⟨n, _, rfl⟩ := List.mem_map.mp hx
    exact .str _
  · rcases z with z | z
    · rw [List.length_map] at z
      exact absurd hw z
    · rw [hall] at z
      cases z
def sp_check_stretch (K : PySem.W.Frag) : Sp := fun vs H Q E => ∃ (v : V) (l : Int), vs = [v, .int l] ∧ 0 ≤ l ∧ l ≤ 60 ∧
  (((Sm v ∨ ∃ a xs, v = .ref a ∧ H a = some (.lst xs)) ∧ E (.ref (He.ga K "NoStretch")) none H) ∨
    ∃ a xs, v = .ref a ∧ H a = some (.tup xs) ∧ (∀ x ∈ xs, Sm x) ∧ (okSt l xs = true → Q .non H) ∧ (okSt l xs = false → E (.ref (He.ga K "NoStretch")) none H))
abbrev N_check_stretch : List Str := ["stretch", "length", "low", "high"]
def t_check_stretch (K : PySem.W.Frag) (E : XK) : TS := (tSeq (tIfS (tOr (tNot (tB (tCB (rIsi K) (tCons (tVar 0) (tCons (tC (.ty "tuple")) tNil))))) (tTest (tOp rNe (tCB (rLenQ K) (tCons (tVar 0) tNil)) (tC (.int 2))))) (tRz (He.ga K "NoStretch") (tC (.str (Str.ofString "a stretch is a tuple of two places"))) E) tNext)
  (tSeq (tAsg (tVar 0) (gTup K 2 (gCons (gName 2) (gCons (gName 3) gNil))))
  (tIfS (tOr (tNot (tB (tCall (sp_is_place K) [] E0 (tCons (tVar 2) (tCons (tVar 1) tNil))))) (tOr (tNot (tB (tCall (sp_is_place K) [] E0 (tCons (tVar 3) (tCons (tVar 1) tNil))))) (tTest (tOp (rI0 fun i j => .bl (decide (j < i))) (tVar 2) (tVar 3))))) (tRz (He.ga K "NoStretch") (tJoin [(tC (.str (Str.ofString "a stretch goes from a place to one no less, both from 1 to "))), (tFmt (tVar 1))]) E) tNext)))
theorem pure_check_stretch {K : PySem.W.Frag} {vs : List V} {H : Hp} {Q : VK} {E : XK} (h : sp_check_stretch K vs H Q E) : t_check_stretch K E { nx := fun _ H' => Q .non H', rt := Q } (start N_check_stretch vs) H := by
  obtain ⟨v, l, rfl, h0, h1, ⟨hv, q⟩ | ⟨a, xs, rfl, ha, hx, q1, q2⟩⟩ := h
  · rcases hv with hv | ⟨a, xs, rfl, ha⟩
    · cases hv with
      | int i => exact ⟨_, rfl, .int i, .ty "tuple", _, _, false, rfl, .ty "tuple", .base (.int i), kit_ty (by decide +kernel), false, rfl, iteT (iteT q)⟩
      | bl b => exact ⟨_, rfl, .bl b, .ty "tuple", _, _, false, rfl, .ty "tuple", .base (.bl b), kit_ty (by decide +kernel), false, rfl, iteT (iteT q)⟩
      | non => exact ⟨_, rfl, .non, .ty "tuple", _, _, false, rfl, .ty "tuple", .base .non, kit_ty (by decide +kernel), false, rfl, iteT (iteT q)⟩
      | str x => exact ⟨_, rfl, .str x, .ty "tuple", _, _, false, rfl, .ty "tuple", .base (.str x), kit_ty (by decide +kernel), false, rfl, iteT (iteT q)⟩
    · exact ⟨_, rfl, .ref a, .ty "tuple", _, _, false, rfl, .ty "tuple", .base (.lst ha), kit_ty (by decide +kernel), false, rfl, iteT (iteT q)⟩
  refine ⟨_, rfl, .ref a, .ty "tuple", _, _, true, rfl, .ty "tuple", .base (.tup ha), kit_ty (by decide +kernel), true, rfl, iteF ?_⟩
  refine ⟨_, rfl, a, _, rfl, .inr (SqT.of ha), rfl, _, rfl, ?_⟩
  have bad : okSt l xs = false → ∀ σ : L2.St, σ[1]? = some (some (.int l)) → tJoin [(tC (.str (Str.ofString "a stretch goes from a place to one no less, both from 1 to "))), (tFmt (tVar 1))] σ H fun _ H1 => E (.ref (He.ga K "NoStretch")) none H1 := fun hb σ hs => by
    refine ⟨_, rfl, by decide +kernel, _, hs, .inr ⟨l, rfl, int_log h0 (by omega), _, rfl, ?_, q2 hb⟩⟩
    rw [Str.length_append]
    have := int_len h0 (by omega)
    refine Nat.le_trans (Nat.add_le_add (Nat.le_refl _) this) (by decide +kernel)
  match xs, hx, ha, q1, q2, bad with
  | [], _, _, _, q2, _ => exact iteT (q2 rfl)
  | [_], _, _, _, q2, _ => exact iteT (q2 rfl)
  | x :: y :: z :: r, _, _, _, q2, _ =>
    have e : (!decide (V.int (((x :: y :: z :: r).length : Nat) : Int) = V.int 2)) = true := by
      rw [decide_eq_false (fun w => by have := V.int.inj w; simp at this; omega)]
      rfl
    rw [e]
    exact iteT (q2 rfl)
  | [x, y], hx, ha, q1, q2, bad =>
    refine iteF ?_
    have sx := hx x List.mem_cons_self
    have sy := hx y (List.mem_cons_of_mem _ List.mem_cons_self)
    refine ⟨_, rfl, a, _, rfl, SqT.of ha, rfl, _, _, rfl, _, [], rfl, rfl, ?_⟩
    refine ⟨_, rfl, _, rfl, x, l, .sm sx, rfl, _, rfl, ?_⟩
    cases hpx : isPl x l with
    | false => exact iteT (iteT (bad (by simp [okSt, hpx]) _ rfl))
    | true =>
      refine iteF ⟨_, rfl, _, rfl, y, l, .sm sy, rfl, _, rfl, ?_⟩
      cases hpy : isPl y l with
      | false => exact iteT (iteT (bad (by simp [okSt, hpx, hpy]) _ rfl))
      | true =>
        obtain ⟨i, rfl, _, _⟩ := isPl_int hpx
        obtain ⟨j, rfl, _, _⟩ := isPl_int hpy
        refine iteF ⟨_, rfl, _, rfl, i, j, rfl, rfl, _, rfl, ?_⟩
        by_cases hij : j < i
        · rw [decide_eq_true hij]
          refine iteT (bad ?_ _ rfl)
          show (isPl (.int i) l && (isPl (.int j) l && decide (i ≤ j))) = false
          rw [hpx, hpy, decide_eq_false (by omega)]
          rfl
        · rw [decide_eq_false hij]
          refine iteF (q1 ?_)
          show (isPl (.int i) l && (isPl (.int j) l && decide (i ≤ j))) = true
          rw [hpx, hpy, decide_eq_true (by omega)]
          rfl
theorem len_check_stretch {K : PySem.W.Frag} {vs : List V} {H : Hp} {Q : VK} {E : XK} (h : sp_check_stretch K vs H Q E) : vs.length = 2 := by
  obtain ⟨v, l, rfl, _⟩ := h
  rfl
theorem ct_bad {K : PySem.W.Frag} {H : Hp} {Q : VK} {E : XK} {v : V} {l : Int} (h0 : 0 ≤ l) (h6 : l ≤ 60) (b : BadStr H v l) (q : E (.ref (He.ga K "NoStretch")) none H) : sp_check_stretch K [v, .int l] H Q E := by
  refine ⟨v, l, rfl, h0, h6, ?_⟩
  rcases b with b | ⟨a, xs, rfl, ha, hx, hb⟩
  · exact .inl ⟨b, q⟩
  · exact .inr ⟨a, xs, rfl, ha, hx, fun z => (by rw [hb] at z; cases z), fun _ => q⟩
theorem ct_ok {K : PySem.W.Frag} {H : Hp} {Q : VK} {E : XK} {s : Addr} {a b l : Int} (h0 : 0 ≤ l) (h6 : l ≤ 60) (hs : H s = some (.tup [.int a, .int b])) (h1 : 1 ≤ a) (h2 : a ≤ b) (h3 : b ≤ l) (q : Q .non H) : sp_check_stretch K [.ref s, .int l] H Q E := by
  have ho : okSt l [.int a, .int b] = true := by
    show (isPl (.int a) l && (isPl (.int b) l && decide (a ≤ b))) = true
    rw [isPl_of h1 (by omega), isPl_of (by omega) h3, decide_eq_true h2]
    rfl
  refine ⟨_, l, rfl, h0, h6, .inr ⟨s, _, rfl, hs, fun x hx => ?_, fun _ => q, fun z => (by rw [ho] at z; cases z)⟩⟩
  rcases List.mem_cons.mp hx with rfl | hx
  · exact .int a
  · rw [List.mem_singleton.mp hx]
    exact .int b
def sp_word_for (K : PySem.W.Frag) : Sp := fun vs H Q _ => ∃ b a : Int, vs = [.int b, .int a] ∧ Q (vW (word b a)) H
abbrev N_word_for : List Str := ["before", "after"]
def t_word_for (K : PySem.W.Frag) : TS := (tSeq (tIfS (tTest (tOp (rI0 fun i j => .bl (decide (i < j))) (tVar 1) (tVar 0))) (tRet (tC (.str (Str.ofString "warm")))) tNext)
  (tSeq (tIfS (tTest (tOp (rI0 fun i j => .bl (decide (j < i))) (tVar 1) (tVar 0))) (tRet (tC (.str (Str.ofString "cold")))) tNext)
  (tRet (tC (.str (Str.ofString "same"))))))
theorem pure_word_for {K : PySem.W.Frag} {vs : List V} {H : Hp} {Q : VK} {E : XK} (h : sp_word_for K vs H Q E) : t_word_for K { nx := fun _ H' => Q .non H', rt := Q } (start N_word_for vs) H := by
  obtain ⟨b, a, rfl, q⟩ := h
  refine ⟨_, rfl, _, rfl, a, b, rfl, rfl, _, rfl, ite2 (fun h1 => ?_) (fun h1 => ?_)⟩
  · have e1 : word b a = .warm := if_pos (of_decide_eq_true h1)
    rw [e1] at q
    exact q
  · have n1 : ¬ a < b := fun z => h1 (decide_eq_true z)
    refine ⟨_, rfl, _, rfl, a, b, rfl, rfl, _, rfl, ite2 (fun h2 => ?_) (fun h2 => ?_)⟩
    · have e2 : word b a = .cold := (if_neg n1).trans (if_pos (of_decide_eq_true h2))
      rw [e2] at q
      exact q
    · have n2 : ¬ b < a := fun z => h2 (decide_eq_true z)
      have e3 : word b a = .same := (if_neg n1).trans (if_neg n2)
      rw [e3] at q
      exact q
theorem len_word_for {K : PySem.W.Frag} {vs : List V} {H : Hp} {Q : VK} {E : XK} (h : sp_word_for K vs H Q E) : vs.length = 2 := by
  obtain ⟨b, a, rfl, _⟩ := h
  rfl
def sp_answer_to_move (K : PySem.W.Frag) : Sp := fun vs H Q _ => ∃ t e l : Int, vs = [.int t, .int e, .int l] ∧ Q (vW (mv t e l)) H
abbrev N_answer_to_move : List Str := ["thing", "earlier", "later"]
def t_answer_to_move (K : PySem.W.Frag) : TS := (tRet (tCall (sp_word_for K) [] E0 (tCons (tCB rAbs (tCons (tOp (rI0 fun i j => .int (i - j)) (tVar 0) (tVar 1)) tNil)) (tCons (tCB rAbs (tCons (tOp (rI0 fun i j => .int (i - j)) (tVar 0) (tVar 2)) tNil)) tNil))))
theorem pure_answer_to_move {K : PySem.W.Frag} {vs : List V} {H : Hp} {Q : VK} {E : XK} (h : sp_answer_to_move K vs H Q E) : t_answer_to_move K { nx := fun _ H' => Q .non H', rt := Q } (start N_answer_to_move vs) H := by
  obtain ⟨t, e, l, rfl, q⟩ := h
  exact ⟨_, rfl, _, rfl, t, e, rfl, rfl, _, rfl, _, rfl, _, rfl, t, l, rfl, rfl, _, rfl, ab (t - e), ab (t - l), rfl, q⟩
theorem len_answer_to_move {K : PySem.W.Frag} {vs : List V} {H : Hp} {Q : VK} {E : XK} (h : sp_answer_to_move K vs H Q E) : vs.length = 3 := by
  obtain ⟨t, e, l, rfl, _⟩ := h
  rfl
def sp_row_of_answers (K : PySem.W.Frag) : Sp := fun vs H Q _ => ∃ (t : Int) (a : Addr) (ns : List Int), vs = [.int t, .ref a] ∧ SqL K H a (ns.map V.int) ∧ ns.length ≤ 1000 ∧ ∀ p H', H p = none → Ex H H' → H' p = some (.lst ((wordsOf t ns).map vW)) → Q (.ref p) H'
abbrev N_row_of_answers : List Str := ["thing", "stands", "earlier", "later"]
def t_row_of_answers (K : PySem.W.Frag) : TS := (tRet (tLc (iZip K (tCons (tVar 1) (tCons (tSl (rSlL K) (tVar 1) (tPart (tC (.int 1))) tNoPart) tNil))) (gTup K 2 (gCons (gName 2) (gCons (gName 3) gNil))) tYes (tCall (sp_answer_to_move K) [] E0 (tCons (tVar 0) (tCons (tVar 2) (tCons (tVar 3) tNil)))) [2, 3]))
theorem pure_row_of_answers {K : PySem.W.Frag} {vs : List V} {H : Hp} {Q : VK} {E : XK} (h : sp_row_of_answers K vs H Q E) : t_row_of_answers K { nx := fun _ H' => Q .non H', rt := Q } (start N_row_of_answers vs) H := by
  obtain ⟨t, a, ns, rfl, hS, hlen, q⟩ := h
  refine ⟨.ref a, rfl, .ref a, rfl, 1, rfl, a, ns.map V.int, rfl, hS, fun c nc => ?_⟩
  have s1 : Ex H (upd H c (.lst (cutV (ns.map V.int) (some 1) none))) := Ex.new nc
  refine ⟨a, c, ns.map V.int, _, rfl, ex_l s1 hS, .inl (.inl upd_same), fun D hD => ?_⟩
  have hD0 : H D = none := fresh_back s1 hD
  have s2 : Ex (upd H c (.lst (cutV (ns.map V.int) (some 1) none))) (upd (upd H c (.lst (cutV (ns.map V.int) (some 1) none))) D (.lst [])) := Ex.new hD
  have ncD : c ≠ D := fun e => by
    rw [← e, upd_same] at hD
    cases hD
  refine ⟨fun i m H3 => i + m = ns.length - 1 ∧ Ex H H3 ∧ H3 c = some (.lst ((ns.drop 1).map V.int)) ∧ H3 D = some (.lst (((wordsOf t ns).take i).map vW)),
    ⟨ns.length - 1, by omega, s1.trans s2, ?_, ?_⟩, fun i m H3 hW => ?_⟩
  · rw [upd_ne ncD, upd_same, cut1, List.map_drop]
  · rw [upd_same]
    rfl
  · obtain ⟨em, sm, ec, eo⟩ := hW
    have hA : SqL K H3 a (ns.map V.int) := ex_l sm hS
    have hC : SqL K H3 c ((ns.drop 1).map V.int) := .inl (.inl ec)
    by_cases hi : i < ns.length - 1
    · have h1 : i < ns.length := by omega
      have h2 : i + 1 < ns.length := by omega
      have g1 : (ns.map V.int)[i]? = some (.int ns[i]) := by
        rw [List.getElem?_map, List.getElem?_eq_getElem h1]
        rfl
      have g2 : ((ns.drop 1).map V.int)[i]? = some (.int ns[i + 1]) := by
        rw [List.getElem?_map, List.getElem?_drop, Nat.add_comm 1 i, List.getElem?_eq_getElem h2]
        rfl
      have gd : (wordsOf t ns)[i]? = some (mv t ns[i] ns[i + 1]) := wordsOf_get t ns i _ _ (List.getElem?_eq_getElem h1) (List.getElem?_eq_getElem h2)
      refine .inr ⟨⟨_, _, _, _, hA, hC, g1, g2⟩, fun H' => Ex H H' ∧ H' c = some (.lst ((ns.drop 1).map V.int)) ∧ H' D = some (.lst (((wordsOf t ns).take (i + 1)).map vW)), fun H' hN => ?_, fun x H' hy => ?_⟩
      · obtain ⟨sm', ec', eo'⟩ := hN
        exact ⟨m - 1, by omega, by omega, sm', ec', eo'⟩
      · obtain ⟨T, x1, x2, rfl, nT, rfl, f1, f2⟩ := hy
        have ex1 : x1 = .int ns[i] := Option.some.inj ((f1 _ hA).symm.trans g1)
        have ex2 : x2 = .int ns[i + 1] := Option.some.inj ((f2 _ hC).symm.trans g2)
        subst ex1 ex2
        have nTo : D ≠ T := ne_of_none eo nT
        have nTc : c ≠ T := ne_of_none ec nT
        have smT : Ex H3 (upd H3 T (.tup [.int ns[i], .int ns[i + 1]])) := Ex.new nT
        refine ⟨T, [.int ns[i], .int ns[i + 1]], rfl, .inl (.inl upd_same), rfl, _, [.int ns[i + 1]], rfl, _, [], rfl, rfl, rfl, ?_⟩
        dsimp only [tYes]
        rw [if_pos rfl]
        refine ⟨_, rfl, _, rfl, _, rfl, t, ns[i], ns[i + 1], rfl, ?_⟩
        have eoT : (upd H3 T (.tup [.int ns[i], .int ns[i + 1]])) D = some (.lst (((wordsOf t ns).take i).map vW)) := smT _ _ eo
        refine ⟨_, eoT, ?_, (sm.trans smT).mut hD0, ?_, ?_⟩
        · rw [List.length_map, List.length_take]
          exact Nat.lt_of_le_of_lt (Nat.min_le_left _ _) (small1000 (by omega))
        · rw [upd_ne ncD]
          exact smT _ _ ec
        · rw [upd_same, List.take_add_one, gd, List.map_append]
          rfl
    · refine .inl ⟨⟨_, _, hA, hC, .inr ?_⟩, ?_⟩
      · rw [List.length_map, List.length_drop]
        omega
      · have ei : (wordsOf t ns).take i = wordsOf t ns := List.take_of_length_le (by
          rw [wordsOf_len]
          omega)
        rw [ei] at eo
        exact q D H3 hD0 sm eo
theorem len_row_of_answers {K : PySem.W.Frag} {vs : List V} {H : Hp} {Q : VK} {E : XK} (h : sp_row_of_answers K vs H Q E) : vs.length = 2 := by
  obtain ⟨t, a, ns, rfl, _⟩ := h
  rfl
def sp_answers_to (K : PySem.W.Frag) : Sp := fun vs H _ E => ∃ v1 v2 v3 : V, vs = [v1, v2, v3] ∧ SmA H v1 ∧ ((isPl v1 60 = false ∧ E (.ref (He.ga K "NoLength")) none H) ∨ ∃ l : Int, v1 = .int l ∧ 1 ≤ l ∧ l ≤ 60 ∧ SmA H v2 ∧
  ((isPl v2 l = false ∧ E (.ref (He.ga K "NoPlace")) none H) ∨ (isPl v2 l = true ∧ BadSt H v3 l ∧ ∀ H', Ex H H' → E (.ref (He.ga K "NoStands")) none H')))
abbrev N_answers_to : List Str := ["length", "thing", "stands"]
def t_answers_to (K : PySem.W.Frag) (E : XK) : TS := (tSeq (tDrop (tCall (sp_check_length K) [] E (tCons (tVar 0) tNil)))
  (tSeq (tDrop (tCall (sp_check_place K) [] E (tCons (tVar 1) (tCons (tVar 0) tNil))))
  (tSeq (tDrop (tCall (sp_check_stands K) [] E (tCons (tVar 2) (tCons (tVar 0) tNil))))
  (tRet (tCall (sp_row_of_answers K) [] E0 (tCons (tVar 1) (tCons (tVar 2) tNil)))))))
theorem pure_answers_to {K : PySem.W.Frag} {vs : List V} {H : Hp} {Q : VK} {E : XK} (h : sp_answers_to K vs H Q E) : t_answers_to K E { nx := fun _ H' => Q .non H', rt := Q } (start N_answers_to vs) H := by
  obtain ⟨v1, v2, v3, rfl, s1, ⟨b, q⟩ | ⟨l, rfl, h1, h6, s2, ⟨b, q⟩ | ⟨p, b, q⟩⟩⟩ := h
  · exact seq_drop (call1 rfl (cl_bad s1 b q))
  · exact seq_drop (call1 rfl (cl_ok h1 h6 (seq_drop (call2 rfl rfl (cp_bad (by omega) h6 s2 b q)))))
  · exact seq_drop (call1 rfl (cl_ok h1 h6 (seq_drop (call2 rfl rfl (cp_ok (by omega) h6 s2 p (seq_drop (call2 rfl rfl (cs_bad (by omega) h6 b q))))))))
theorem len_answers_to {K : PySem.W.Frag} {vs : List V} {H : Hp} {Q : VK} {E : XK} (h : sp_answers_to K vs H Q E) : vs.length = 3 := by
  obtain ⟨v1, v2, v3, rfl, _⟩ := h
  rfl
def sp_can_lie (K : PySem.W.Frag) : Sp := DoorSp K
abbrev N_can_lie : List Str := ["length", "stands", "answers", "place"]
def t_can_lie (K : PySem.W.Frag) (E : XK) : TS := (tSeq (tDrop (tCall (sp_check_length K) [] E (tCons (tVar 0) tNil)))
  (tSeq (tDrop (tCall (sp_check_stands K) [] E (tCons (tVar 1) (tCons (tVar 0) tNil))))
  (tSeq (tDrop (tCall (sp_check_answers K) [] E (tCons (tVar 2) (tCons (tVar 1) tNil))))
  (tRet (tCB (rTupleOf K) (tCons (tLc (iRng2 (tCons (tC (.int 1)) (tCons (tOp (rI0 fun i j => .int (i + j)) (tVar 0) (tC (.int 1))) tNil))) (gName 3) (tTest (tOp (rEqD K) (tCall (sp_row_of_answers K) [] E0 (tCons (tVar 3) (tCons (tVar 1) tNil))) (tVar 2))) (tVar 3) [3]) tNil))))))
theorem pure_can_lie {K : PySem.W.Frag} {vs : List V} {H : Hp} {Q : VK} {E : XK} (h : sp_can_lie K vs H Q E) : t_can_lie K E { nx := fun _ H' => Q .non H', rt := Q } (start N_can_lie vs) H := by
  obtain ⟨v1, v2, v3, rfl, s1, ⟨b, q⟩ | ⟨l, rfl, h1, h2, ⟨b, q⟩ | ⟨s, st, rfl, hs, hl, hp, ⟨b, q⟩ | ⟨a, ws, rfl, ha, hw, q⟩⟩⟩⟩ := h
  · exact seq_drop (call1 rfl (cl_bad s1 b q))
  · exact seq_drop (call1 rfl (cl_ok h1 h2 (seq_drop (call2 rfl rfl (cs_bad (by omega) h2 b q)))))
  · exact seq_drop (call1 rfl (cl_ok h1 h2 (seq_drop (call2 rfl rfl (cs_ok (by omega) h2 hs hl hp fun H1 e1 => seq_drop (call2 rfl rfl (ca_bad (SqL.of (e1 _ _ hs)) hl (b.ex e1) fun H2 e2 => q H2 (e1.trans e2))))))))
  refine seq_drop (call1 rfl (cl_ok h1 h2 (seq_drop (call2 rfl rfl (cs_ok (by omega) h2 hs hl hp fun H1 e1 => seq_drop (call2 rfl rfl (ca_ok (SqL.of (e1 _ _ hs)) hl (e1 _ _ ha) hw fun H2 e2 => ?_)))))))
  have hs2 := e2 _ _ (e1 _ _ hs)
  have ha2 := e2 _ _ (e1 _ _ ha)
  have hc : Evl.EvL (tLc (iRng2 (tCons (tC (.int 1)) (tCons (tOp (rI0 fun i j => .int (i + j)) (tVar 0) (tC (.int 1))) tNil))) (gName 3) (tTest (tOp (rEqD K) (tCall (sp_row_of_answers K) [] E0 (tCons (tVar 3) (tCons (tVar 1) tNil))) (tVar 2))) (tVar 3) [3]) (start N_can_lie [.int l, .ref s, .ref a]) H2 (((rng 1 (l + 1)).filter fun t => decide (wordsOf t st = ws)).map V.int) := by
    refine el_rng (fun t => decide (wordsOf t st = ws)) V.int (Evl.ea_cons Evl.ev_c (Evl.ea_cons (Evl.ev_op (Evl.ev_var rfl) Evl.ev_c Evl.rv_I0) Evl.ea_nil)) (by omega) (fun _ => rfl) (fun n H3 e3 _ _ => ?_) (fun n H3 e3 _ _ _ => Evl.ev_var rfl)
    intro H4 e4 Q4 q4
    refine ⟨_, rfl, _, rfl, n, s, st, rfl, SqL.of ((e3.trans e4) _ _ hs2), by omega, fun p H5 np e5 hp5 => ?_⟩
    refine ⟨_, rfl, ?_⟩
    exact eqWW (SqL.of hp5) (SqL.of (((e3.trans e4).trans e5) _ _ ha2)) ⟨_, rfl, q4 H5 e5⟩
  dsimp only [tRet, tCB, tCons]
  refine hc H2 (Ex.refl H2) _ fun p H3 np e3 h3 => ?_
  refine ⟨p, _, rfl, .inl ⟨SqL.of h3, fun u nu => ?_⟩⟩
  exact q _ _ (((e1.trans e2).trans e3).trans (Ex.new nu))
theorem len_can_lie {K : PySem.W.Frag} {vs : List V} {H : Hp} {Q : VK} {E : XK} (h : sp_can_lie K vs H Q E) : vs.length = 3 := by
  obtain ⟨v1, v2, v3, rfl, _⟩ := h
  rfl
/-! ### comprehensions over zip and enumerate of lists that stay -/
theorem lc_zip {K : PySem.W.Frag} {a b : Addr} {xs ys : List V} {g : TG} {tt : TT} {te : TE} {vs : List Nat} {σ : L2.St} {H1 : Hp} {D : Addr} {Qd : Hp → Prop} (hl : xs.length = ys.length) (Pv : Nat → Hp → Prop) (h0 : Pv 0 (upd H1 D (.lst [])))
    (hq : ∀ i H, Pv i H → SqL K H a xs ∧ SqL K H b ys)
    (hs : ∀ (i : Nat) (x y : V) (T : Addr) (H : Hp), xs[i]? = some x → ys[i]? = some y → Pv i H → H T = none → g (.ref T) (wipe σ vs) (upd H T (.tup [x, y])) fun σ2 H2 => wipe σ2 vs = wipe σ vs ∧ tt σ2 H2 fun c H3 =>
      if c = true then te σ2 H3 fun v H4 => ∃ acc, H4 D = some (.lst acc) ∧ acc.length < sizeLine ∧ Pv (i + 1) (upd H4 D (.lst (acc ++ [v]))) else Pv (i + 1) H3) (hd : ∀ H, Pv xs.length H → Qd H) :
    ∃ W : Nat → Nat → Hp → Prop, (∃ m, W 0 m (upd H1 D (.lst []))) ∧ ∀ i m H, W i m H →
      ((Itz K a b).stop i H ∧ Qd H) ∨ ((Itz K a b).go i H ∧ ∃ Nx : Hp → Prop, (∀ H', Nx H' → ∃ m', m' < m ∧ W (i + 1) m' H') ∧ ∀ x H', (Itz K a b).yld i H x H' → g x (wipe σ vs) H' fun σ2 H2 => wipe σ2 vs = wipe σ vs ∧ tt σ2 H2 fun c H3 =>
        if c = true then te σ2 H3 fun v H4 => ∃ acc, H4 D = some (.lst acc) ∧ acc.length < sizeLine ∧ Nx (upd H4 D (.lst (acc ++ [v]))) else Nx H3) := by
  refine ⟨fun i m H => i + m = xs.length ∧ Pv i H, ⟨xs.length, Nat.zero_add _, h0⟩, ?_⟩
  rintro i m H ⟨hm, p⟩
  obtain ⟨qx, qy⟩ := hq i H p
  by_cases hi : i < xs.length
  · have hi2 : i < ys.length := by omega
    refine .inr ⟨⟨xs, ys, _, _, qx, qy, List.getElem?_eq_getElem hi, List.getElem?_eq_getElem hi2⟩, Pv (i + 1), fun H' p' => ⟨m - 1, by omega, by omega, p'⟩, ?_⟩
    rintro v H' ⟨T, x, y, rfl, nT, rfl, f1, f2⟩
    exact hs i x y T H (f1 xs qx) (f2 ys qy) p nT
  · have e : i = xs.length := by omega
    rw [e] at p
    exact .inl ⟨⟨xs, ys, qx, qy, .inl (by omega)⟩, hd H p⟩
theorem lc_enum {K : PySem.W.Frag} {a : Addr} {xs : List V} {g : TG} {tt : TT} {te : TE} {vs : List Nat} {σ : L2.St} {H1 : Hp} {D : Addr} {Qd : Hp → Prop} (Pv : Nat → Hp → Prop) (h0 : Pv 0 (upd H1 D (.lst []))) (hq : ∀ i H, Pv i H → SqL K H a xs)
    (hs : ∀ (i : Nat) (x : V) (T : Addr) (H : Hp), xs[i]? = some x → Pv i H → H T = none → g (.ref T) (wipe σ vs) (upd H T (.tup [.int (i : Nat), x])) fun σ2 H2 => wipe σ2 vs = wipe σ vs ∧ tt σ2 H2 fun c H3 =>
      if c = true then te σ2 H3 fun v H4 => ∃ acc, H4 D = some (.lst acc) ∧ acc.length < sizeLine ∧ Pv (i + 1) (upd H4 D (.lst (acc ++ [v]))) else Pv (i + 1) H3) (hd : ∀ H, Pv xs.length H → Qd H) :
    ∃ W : Nat → Nat → Hp → Prop, (∃ m, W 0 m (upd H1 D (.lst []))) ∧ ∀ i m H, W i m H →
      ((Ite K a).stop i H ∧ Qd H) ∨ ((Ite K a).go i H ∧ ∃ Nx : Hp → Prop, (∀ H', Nx H' → ∃ m', m' < m ∧ W (i + 1) m' H') ∧ ∀ x H', (Ite K a).yld i H x H' → g x (wipe σ vs) H' fun σ2 H2 => wipe σ2 vs = wipe σ vs ∧ tt σ2 H2 fun c H3 =>
        if c = true then te σ2 H3 fun v H4 => ∃ acc, H4 D = some (.lst acc) ∧ acc.length < sizeLine ∧ Nx (upd H4 D (.lst (acc ++ [v]))) else Nx H3) := by
  refine ⟨fun i m H => i + m = xs.length ∧ Pv i H, ⟨xs.length, Nat.zero_add _, h0⟩, ?_⟩
  rintro i m H ⟨hm, p⟩
  have qx := hq i H p
  by_cases hi : i < xs.length
  · refine .inr ⟨⟨xs, _, qx, List.getElem?_eq_getElem hi⟩, Pv (i + 1), fun H' p' => ⟨m - 1, by omega, by omega, p'⟩, ?_⟩
    rintro v H' ⟨T, x, rfl, nT, rfl, f1⟩
    exact hs i x T H (f1 xs qx) p nT
  · have e : i = xs.length := by omega
    rw [e] at p
    exact .inl ⟨⟨xs, qx, by omega⟩, hd H p⟩
/-! ### wrong answers -/
/-- how many of two rows of words are unlike -/
def diffs (xs ys : List Wo) : Nat := ((xs.zip ys).filter fun p => decide (p.1 ≠ p.2)).length
def wr (st : List Int) (ws : List Wo) (t : Int) : Int := (diffs (wordsOf t st) ws : Nat)
/-- m is the least number of wrong answers of all places -/
def Least (l : Int) (st : List Int) (ws : List Wo) (m : Int) : Prop := (∃ t, (1 ≤ t ∧ t ≤ l) ∧ wr st ws t = m) ∧ ∀ t, 1 ≤ t → t ≤ l → m ≤ wr st ws t
def wplaces (l : Int) (st : List Int) (ws : List Wo) (m : Int) : List Int := (rng 1 (l + 1)).filter fun t => decide (wr st ws t = m)
theorem Least.inj {l : Int} {st : List Int} {ws : List Wo} {m m' : Int} (h : Least l st ws m) (h' : Least l st ws m') : m = m' := by
  obtain ⟨⟨t, ⟨a1, a2⟩, a3⟩, a4⟩ := h
  obtain ⟨⟨u, ⟨b1, b2⟩, b3⟩, b4⟩ := h'
  have := a4 u b1 b2
  have := b4 t a1 a2
  omega
theorem diffs_take (xs ys : List Wo) (i : Nat) (x y : Wo) (hx : xs[i]? = some x) (hy : ys[i]? = some y) :
    ((xs.zip ys).take (i + 1)).filter (fun p => decide (p.1 ≠ p.2)) = ((xs.zip ys).take i).filter (fun p => decide (p.1 ≠ p.2)) ++ (if x = y then [] else [(x, y)]) := by
  have hz : (xs.zip ys)[i]? = some (x, y) := by
    rw [List.getElem?_zip_eq_some]
    exact ⟨hx, hy⟩
  rw [List.take_add_one, hz, List.filter_append]
  congr 1
  by_cases h : x = y
  · rw [if_pos h]
    simp [h]
  · rw [if_neg h]
    simp [h]
/-- [1 for one, other in zip(xs, ys) if one != other] -/
theorem lc_diffs {K : PySem.W.Frag} {σ : L2.St} {H1 : Hp} {i j : Nat} {a b D : Addr} {xs ys : List Wo} {Qd : Hp → Prop} (hlen : xs.length = ys.length) (hsz : xs.length ≤ 900) (hij : i ≠ j) (hi : i < σ.length) (hj : j < σ.length)
    (hw : ∀ x y, wipe (((wipe σ [i, j]).set i (some x)).set j (some y)) [i, j] = wipe σ [i, j]) (ha : SqL K H1 a (xs.map vW)) (hb : SqL K H1 b (ys.map vW)) (hD : H1 D = none)
    (hd : ∀ H2, Ex H1 H2 → H2 D = some (.lst (List.replicate (diffs xs ys) (V.int 1))) → Qd H2) :
    ∃ W : Nat → Nat → Hp → Prop, (∃ m, W 0 m (upd H1 D (.lst []))) ∧ ∀ k m H, W k m H →
      ((Itz K a b).stop k H ∧ Qd H) ∨ ((Itz K a b).go k H ∧ ∃ Nx : Hp → Prop, (∀ H', Nx H' → ∃ m', m' < m ∧ W (k + 1) m' H') ∧ ∀ x H', (Itz K a b).yld k H x H' → gTup K 2 (gCons (gName i) (gCons (gName j) gNil)) x (wipe σ [i, j]) H' fun σ2 H2 => wipe σ2 [i, j] = wipe σ [i, j] ∧ tTest (tOp rNe (tVar i) (tVar j)) σ2 H2 fun c H3 =>
        if c = true then tC (.int 1) σ2 H3 fun v H4 => ∃ acc, H4 D = some (.lst acc) ∧ acc.length < sizeLine ∧ Nx (upd H4 D (.lst (acc ++ [v]))) else Nx H3) := by
  refine lc_zip (K := K) (xs := xs.map vW) (ys := ys.map vW) (by rw [List.length_map, List.length_map, hlen]) (fun k H2 => Ex H1 H2 ∧ H2 D = some (.lst (List.replicate (((xs.zip ys).take k).filter fun p => decide (p.1 ≠ p.2)).length (V.int 1))))
    ⟨Ex.new hD, upd_same⟩ (fun k H2 p => ⟨ex_l p.1 ha, ex_l p.1 hb⟩) (fun k x y T H2 hx hy p nT => ?_) (fun H2 p => ?_)
  · obtain ⟨e2, hdd⟩ := p
    obtain ⟨x', hx', rfl⟩ : ∃ w, xs[k]? = some w ∧ x = vW w := by
      rw [List.getElem?_map] at hx
      cases hg : xs[k]? with
      | none => rw [hg] at hx; cases hx
      | some w =>
        rw [hg] at hx
        exact ⟨w, rfl, (Option.some.inj hx).symm⟩
    obtain ⟨y', hy', rfl⟩ : ∃ w, ys[k]? = some w ∧ y = vW w := by
      rw [List.getElem?_map] at hy
      cases hg : ys[k]? with
      | none => rw [hg] at hy; cases hy
      | some w =>
        rw [hg] at hy
        exact ⟨w, rfl, (Option.some.inj hy).symm⟩
    have e3 : Ex H2 (upd H2 T (.tup [vW x', vW y'])) := Ex.new nT
    have hd3 := e3 _ _ hdd
    have g1 : (((wipe σ [i, j]).set i (some (vW x'))).set j (some (vW y')))[i]? = some (some (vW x')) := by
      rw [List.getElem?_set_ne (Ne.symm hij), List.getElem?_set_self (by rw [wipe_length]; exact hi)]
    have g2 : (((wipe σ [i, j]).set i (some (vW x'))).set j (some (vW y')))[j]? = some (some (vW y')) := by
      rw [List.getElem?_set_self (by rw [List.length_set, wipe_length]; exact hj)]
    refine ⟨T, _, rfl, SqT.of upd_same, rfl, _, _, rfl, _, [], rfl, rfl, hw _ _, _, g1, _, g2, rfl, _, rfl, ?_⟩
    have dt := diffs_take xs ys k x' y' hx' hy'
    have hk : k < xs.length := (List.getElem?_eq_some_iff.mp hx').1
    by_cases hxy : x' = y'
    · rw [if_pos hxy, List.append_nil] at dt
      have e : vW x' = vW y' := by rw [hxy]
      rw [decide_eq_true e]
      refine iteF ⟨e2.trans e3, ?_⟩
      rw [hd3, dt]
    · rw [if_neg hxy] at dt
      have e : ¬ vW x' = vW y' := fun z => hxy (vW_inj z)
      rw [decide_eq_false e]
      refine iteT ⟨_, hd3, ?_, (e2.trans e3).mut hD, ?_⟩
      · rw [List.length_replicate]
        refine small1000 (Nat.le_trans (List.length_filter_le _ _) ?_)
        rw [List.length_take]
        omega
      · rw [upd_same, dt, List.length_append]
        show some (HO.lst (List.replicate _ (V.int 1) ++ [V.int 1])) = some (HO.lst (List.replicate (_ + 1) (V.int 1)))
        rw [List.replicate_succ']
  · obtain ⟨e2, hdd⟩ := p
    refine hd H2 e2 ?_
    rw [hdd, List.take_of_length_le (by rw [List.length_zip, List.length_map]; omega)]
    rfl
theorem shP (m : Int) (ps : List Int) : SeqAt.shaped (.tuple [.int m, .tuple (ps.map PyData.int)]) = true := by
  obtain ⟨h1, h2⟩ := shI ps
  unfold SeqAt.shaped
  have e1 : PyData.canLay0 (.tuple [.int m, .tuple (ps.map PyData.int)]) = true := by
    show (PyData.canLay0 (.int m) && (PyData.canLayAll0 (ps.map PyData.int) && true)) = true
    rw [h1]
    rfl
  have e2 : PyData.depth (.tuple [.int m, .tuple (ps.map PyData.int)]) = 2 := by
    show max (PyData.depth (.int m)) (max (PyData.depthAll (ps.map PyData.int) + 1) 0) + 1 = 2
    rw [h2]
    rfl
  rw [e1, e2]
  rfl
theorem eqvP (m m' : Int) (ps ps' : List Int) : PyData.eqv (.tuple [.int m, .tuple (ps.map PyData.int)]) (.tuple [.int m', .tuple (ps'.map PyData.int)]) = decide (m = m' ∧ ps = ps') := by
  show ((m == m') && (PyData.eqvAll (ps.map PyData.int) (ps'.map PyData.int) && true)) = _
  rw [eqvI, Bool.and_true]
  by_cases h1 : m = m' <;> by_cases h2 : ps = ps' <;> simp [h1, h2]
theorem dpP {K : PySem.W.Frag} {H : Hp} {u v : Addr} {m : Int} {ps : List Int} (h1 : H u = some (.tup [.int m, .ref v])) (h2 : H v = some (.tup (ps.map V.int))) : Dp K H (.ref u) (.tuple [.int m, .tuple (ps.map PyData.int)]) :=
  .tup (SqT.of h1) (.cons (.int m) (.cons (.tup (SqT.of h2) (dpI ps)) .nil))
theorem nePP {K : PySem.W.Frag} {H : Hp} {u v u' v' : Addr} {m m' : Int} {ps ps' : List Int} {Q : VK} (h1 : H u = some (.tup [.int m, .ref v])) (h2 : H v = some (.tup (ps.map V.int))) (h3 : H u' = some (.tup [.int m', .ref v'])) (h4 : H v' = some (.tup (ps'.map V.int)))
    (q : Q (.bl (!decide (m = m' ∧ ps = ps'))) H) : rNeD K (.ref u) (.ref u') H Q := by
  refine ⟨_, _, dpP h1 h2, dpP h3 h4, shP _ _, shP _ _, ?_⟩
  rw [eqvP]
  exact q
theorem eqPP {K : PySem.W.Frag} {H : Hp} {u v u' v' : Addr} {m m' : Int} {ps ps' : List Int} {Q : VK} (h1 : H u = some (.tup [.int m, .ref v])) (h2 : H v = some (.tup (ps.map V.int))) (h3 : H u' = some (.tup [.int m', .ref v'])) (h4 : H v' = some (.tup (ps'.map V.int)))
    (q : Q (.bl (decide (m = m' ∧ ps = ps'))) H) : rEqD K (.ref u) (.ref u') H Q := by
  refine ⟨_, _, dpP h1 h2, dpP h3 h4, shP _ _, shP _ _, ?_⟩
  rw [eqvP]
  exact q
theorem rng_more (i : Nat) : rng 1 (1 + ((i + 1 : Nat) : Int)) = rng 1 (1 + (i : Int)) ++ [1 + (i : Int)] := by
  unfold rng
  have e1 : (1 + ((i + 1 : Nat) : Int) - 1).toNat = i + 1 := by omega
  have e2 : (1 + (i : Int) - 1).toNat = i := by omega
  rw [e1, e2, List.range_succ, List.map_append]
  rfl
theorem diffs_comm : ∀ xs ys : List Wo, diffs xs ys = diffs ys xs
  | [], [] => rfl
  | [], _ :: _ => rfl
  | _ :: _, [] => rfl
  | x :: r, y :: q => by
    have ih := diffs_comm r q
    unfold diffs at ih ⊢
    rw [List.zip_cons_cons, List.zip_cons_cons, List.filter_cons, List.filter_cons]
    by_cases h : x = y
    · subst h
      simp only [ne_eq, not_true_eq_false, decide_false]
      exact ih
    · have h' : ¬ y = x := fun z => h z.symm
      simp only [ne_eq, h, h', not_false_eq_true, decide_true, if_true, List.length_cons]
      exact congrArg (· + 1) ih
def sp_count_wrong (K : PySem.W.Frag) : Sp := fun vs H Q _ => ∃ (t : Int) (s a : Addr) (st : List Int) (ws : List Wo), vs = [.int t, .ref s, .ref a] ∧ SqL K H s (st.map V.int) ∧ st.length ≤ 900 ∧ SqL K H a (ws.map vW) ∧ ws.length = st.length - 1 ∧ ∀ H', Ex H H' → Q (.int (wr st ws t)) H'
abbrev N_count_wrong : List Str := ["thing", "stands", "answers", "right", "told", "due"]
def t_count_wrong (K : PySem.W.Frag) : TS := (tSeq (tAsg (tCall (sp_row_of_answers K) [] E0 (tCons (tVar 0) (tCons (tVar 1) tNil))) (gName 3))
  (tRet (tCB (rSum K) (tCons (tLc (iZip K (tCons (tVar 2) (tCons (tVar 3) tNil))) (gTup K 2 (gCons (gName 4) (gCons (gName 5) gNil))) (tTest (tOp rNe (tVar 4) (tVar 5))) (tC (.int 1)) [4, 5]) tNil))))
theorem pure_count_wrong {K : PySem.W.Frag} {vs : List V} {H : Hp} {Q : VK} {E : XK} (h : sp_count_wrong K vs H Q E) : t_count_wrong K { nx := fun _ H' => Q .non H', rt := Q } (start N_count_wrong vs) H := by
  obtain ⟨t, s, a, st, ws, rfl, hs, hl, ha, hw, q⟩ := h
  refine ⟨_, rfl, _, rfl, t, s, st, rfl, hs, by omega, fun p H1 np e1 h1 => ?_⟩
  refine ⟨_, rfl, _, rfl, a, p, _, _, rfl, ex_l e1 ha, SqL.of h1, fun D hD => ?_⟩
  refine lc_diffs (K := K) (xs := ws) (ys := wordsOf t st) (by rw [wordsOf_len]; exact hw) (by omega) (by decide) (by show 4 < 6; decide) (by show 5 < 6; decide) (fun _ _ => rfl) (ex_l e1 ha) (SqL.of h1) hD fun H2 e2 h2 => ?_
  refine ⟨D, List.replicate (diffs ws (wordsOf t st)) 1, rfl, ?_, ?_⟩
  · rw [List.map_replicate]
    exact SqL.of h2
  · have e : (List.replicate (diffs ws (wordsOf t st)) (1 : Int)).sum = wr st ws t := by
      rw [diffs_comm]
      show _ = ((diffs (wordsOf t st) ws : Nat) : Int)
      generalize diffs (wordsOf t st) ws = n
      induction n with
      | zero => rfl
      | succ n ih =>
        rw [List.replicate_succ, List.sum_cons, ih]
        omega
    rw [e]
    exact q H2 (e1.trans e2)
theorem len_count_wrong {K : PySem.W.Frag} {vs : List V} {H : Hp} {Q : VK} {E : XK} (h : sp_count_wrong K vs H Q E) : vs.length = 3 := by
  obtain ⟨t, s, a, st, ws, rfl, _⟩ := h
  rfl
def sp_fewest_wrong (K : PySem.W.Frag) : Sp := DoorSp K
abbrev N_fewest_wrong : List Str := ["length", "stands", "answers", "places", "counts", "place", "least", "count"]
def t_fewest_wrong (K : PySem.W.Frag) (E : XK) : TS := (tSeq (tDrop (tCall (sp_check_length K) [] E (tCons (tVar 0) tNil)))
  (tSeq (tDrop (tCall (sp_check_stands K) [] E (tCons (tVar 1) (tCons (tVar 0) tNil))))
  (tSeq (tDrop (tCall (sp_check_answers K) [] E (tCons (tVar 2) (tCons (tVar 1) tNil))))
  (tSeq (tAsg (tLstRg (tRg2 (tC (.int 1)) (tOp (rI0 fun i j => .int (i + j)) (tVar 0) (tC (.int 1))))) (gName 3))
  (tSeq (tAsg (tLc (iList K (tVar 3)) (gName 5) tYes (tCall (sp_count_wrong K) [] E0 (tCons (tVar 5) (tCons (tVar 1) (tCons (tVar 2) tNil)))) [5]) (gName 4))
  (tSeq (tAsg (tCB (rMin K) (tCons (tVar 4) tNil)) (gName 6))
  (tRet (tTup (tCons (tVar 6) (tCons (tCB (rTupleOf K) (tCons (tLc (iZip K (tCons (tVar 3) (tCons (tVar 4) tNil))) (gTup K 2 (gCons (gName 5) (gCons (gName 7) gNil))) (tTest (tOp rEq (tVar 7) (tVar 6))) (tVar 5) [5, 7]) tNil)) tNil))))))))))
theorem rgV_rng (a b : Int) : rgV a b = (rng a b).map V.int := by
  unfold rgV rng
  rw [List.map_map]
  rfl
theorem rng_get {l : Int} {k : Nat} {v : V} {F : Int → V} (hv : ((rng 1 (l + 1)).map F)[k]? = some v) : (k : Int) < l ∧ v = F (1 + (k : Int)) := by
  unfold rng at hv
  rw [List.map_map, List.getElem?_map] at hv
  by_cases hk : k < (l + 1 - 1).toNat
  · rw [List.getElem?_range hk] at hv
    exact ⟨by omega, (Option.some.inj hv).symm⟩
  · rw [List.getElem?_eq_none (by rw [List.length_range]; omega)] at hv
    cases hv
theorem pure_fewest_wrong {K : PySem.W.Frag} {vs : List V} {H : Hp} {Q : VK} {E : XK} (h : sp_fewest_wrong K vs H Q E) : t_fewest_wrong K E { nx := fun _ H' => Q .non H', rt := Q } (start N_fewest_wrong vs) H := by
  obtain ⟨v1, v2, v3, rfl, s1, ⟨b, q⟩ | ⟨l, rfl, h1, h2, ⟨b, q⟩ | ⟨s, st, rfl, hs, hl, hp, ⟨b, q⟩ | ⟨a, ws, rfl, ha, hw, q⟩⟩⟩⟩ := h
  · exact seq_drop (call1 rfl (cl_bad s1 b q))
  · exact seq_drop (call1 rfl (cl_ok h1 h2 (seq_drop (call2 rfl rfl (cs_bad (by omega) h2 b q)))))
  · exact seq_drop (call1 rfl (cl_ok h1 h2 (seq_drop (call2 rfl rfl (cs_ok (by omega) h2 hs hl hp fun H1 e1 => seq_drop (call2 rfl rfl (ca_bad (SqL.of (e1 _ _ hs)) hl (b.ex e1) fun H2 e2 => q H2 (e1.trans e2))))))))
  refine seq_drop (call1 rfl (cl_ok h1 h2 (seq_drop (call2 rfl rfl (cs_ok (by omega) h2 hs hl hp fun H1 e1 => seq_drop (call2 rfl rfl (ca_ok (SqL.of (e1 _ _ hs)) hl (e1 _ _ ha) hw fun H2 e2 => ?_)))))))
  have hs2 := e2 _ _ (e1 _ _ hs)
  have ha2 := e2 _ _ (e1 _ _ ha)
  refine ⟨_, rfl, l, 1, rfl, rfl, 1, l + 1, rfl, rfl, RgOk.of_le (by omega) (by omega) (by omega) (by omega), fun r nr => ?_⟩
  have e3 : Ex H2 (upd H2 r (.lst (rgV 1 (l + 1)))) := Ex.new nr
  have hr3 : (upd H2 r (.lst (rgV 1 (l + 1)))) r = some (.lst ((rng 1 (l + 1)).map V.int)) := by rw [upd_same, rgV_rng]
  have hs3 := e3 _ _ hs2
  have ha3 := e3 _ _ ha2
  have e13 := (e1.trans e2).trans e3
  generalize upd H2 r (.lst (rgV 1 (l + 1))) = H3 at hr3 hs3 ha3 e13
  have hc : Evl.EvL (tLc (iList K (tVar 3)) (gName 5) tYes (tCall (sp_count_wrong K) [] E0 (tCons (tVar 5) (tCons (tVar 1) (tCons (tVar 2) tNil)))) [5]) ((start N_fewest_wrong [.int l, .ref s, .ref a]).set 3 (some (.ref r))) H3 ((rng 1 (l + 1)).map fun t => V.int (wr st ws t)) := by
    refine el_map (K := K) (ns := rng 1 (l + 1)) (fun t => V.int (wr st ws t)) (Evl.ev_var rfl) (SqL.of hr3) (by rw [rng_len]; omega) (fun _ => rfl) (fun n H4 e4 _ => ?_)
    intro H5 e5 Q5 q5
    exact ⟨_, rfl, _, rfl, _, rfl, n, s, a, st, ws, rfl, SqL.of ((e4.trans e5) _ _ hs3), by omega, SqL.of ((e4.trans e5) _ _ ha3), hw, fun H6 e6 => q5 H6 e6⟩
  dsimp only [gName, tSeq, tAsg]
  refine hc H3 (Ex.refl H3) _ fun c H4 nc e4 hc4 => ?_
  have hr4 := e4 _ _ hr3
  have ecs : ((rng 1 (l + 1)).map fun t => V.int (wr st ws t)) = ((rng 1 (l + 1)).map fun t => wr st ws t).map V.int := by
    rw [List.map_map]
    rfl
  have hcI : SqL K H4 c (((rng 1 (l + 1)).map fun t => wr st ws t).map V.int) := by
    rw [← ecs]
    exact SqL.of hc4
  refine ⟨_, rfl, c, _, rfl, hcI, ?_, fun m hm hmin => ?_⟩
  · rw [List.length_map, rng_len]
    omega
  have hleast : Least l st ws m := by
    obtain ⟨t, ht, rfl⟩ := List.mem_map.mp hm
    have ht2 := mem_rng.mp ht
    refine ⟨⟨t, ⟨ht2.1, by omega⟩, rfl⟩, fun u h1 h2 => hmin _ (List.mem_map.mpr ⟨u, mem_rng.mpr ⟨h1, by omega⟩, rfl⟩)⟩
  refine ⟨_, rfl, _, rfl, _, rfl, r, c, _, _, rfl, SqL.of hr4, SqL.of hc4, fun D hD => ?_⟩
  refine lc_zip (K := K) (a := r) (b := c) (xs := (rng 1 (l + 1)).map V.int) (ys := (rng 1 (l + 1)).map fun t => V.int (wr st ws t)) (by rw [List.length_map, List.length_map])
    (fun k H' => Ex H4 H' ∧ H' D = some (.lst (((rng 1 (1 + (k : Int))).filter fun t => decide (wr st ws t = m)).map V.int)))
    ⟨Ex.new hD, upd_same⟩ (fun k H' p => ⟨SqL.of (p.1 _ _ hr4), SqL.of (p.1 _ _ hc4)⟩) (fun k x y T H5 hx hy p nT => ?_) (fun H5 p => ?_)
  · obtain ⟨e5, hd⟩ := p
    obtain ⟨hk, rfl⟩ := rng_get hx
    obtain ⟨_, rfl⟩ := rng_get (F := fun t => V.int (wr st ws t)) hy
    have e6 : Ex H5 (upd H5 T (.tup [.int (1 + (k : Int)), .int (wr st ws (1 + (k : Int)))])) := Ex.new nT
    have hd6 := e6 _ _ hd
    refine ⟨T, _, rfl, SqT.of upd_same, rfl, _, _, rfl, _, [], rfl, rfl, rfl, _, rfl, _, rfl, rfl, _, rfl, ?_⟩
    by_cases hwm : wr st ws (1 + (k : Int)) = m
    · have e : (V.int (wr st ws (1 + (k : Int))) : V) = V.int m := by rw [hwm]
      rw [decide_eq_true e]
      refine iteT ⟨_, rfl, _, hd6, ?_, (e5.trans e6).mut hD, ?_⟩
      · rw [List.length_map]
        refine small1000 (Nat.le_trans (List.length_filter_le _ _) ?_)
        rw [rng_len]
        omega
      · rw [upd_same, rng_more, List.filter_append, List.map_append]
        simp [hwm]
    · have e : ¬ (V.int (wr st ws (1 + (k : Int))) : V) = V.int m := fun z => hwm (V.int.inj z)
      rw [decide_eq_false e]
      refine iteF ⟨e5.trans e6, ?_⟩
      rw [hd6, rng_more, List.filter_append]
      simp [hwm]
  · obtain ⟨e5, hd⟩ := p
    rw [List.length_map, rng_len, show 1 + (((l + 1 - 1).toNat : Nat) : Int) = l + 1 by omega] at hd
    refine ⟨D, _, rfl, .inl ⟨SqL.of hd, fun v nv => ?_⟩⟩
    refine ⟨by show 2 ≤ sizeLine; decide, fun u nu => ?_⟩
    exact q _ _ (((e13.trans e4).trans e5).trans ((Ex.new nv).trans (Ex.new nu)))
theorem len_fewest_wrong {K : PySem.W.Frag} {vs : List V} {H : Hp} {Q : VK} {E : XK} (h : sp_fewest_wrong K vs H Q E) : vs.length = 3 := by
  obtain ⟨v1, v2, v3, rfl, _⟩ := h
  rfl
/-! ### rows of answers as tuples -/
def keyW (ws : List Wo) : List Key := ws.map fun x => Sum.inr x.str
theorem keyW_map (ws : List Wo) : (keyW ws).map kV = ws.map vW := by
  unfold keyW
  rw [List.map_map]
  rfl
theorem keyW_inj : ∀ {x y : List Wo}, keyW x = keyW y → x = y
  | [], [], _ => rfl
  | [], _ :: _, h => by cases h
  | _ :: _, [], h => by cases h
  | a :: x, b :: y, h => by
    obtain ⟨h1, h2⟩ := List.cons.inj h
    rw [Wo.str_inj (Sum.inr.inj h1), keyW_inj h2]
theorem eqUU {K : PySem.W.Frag} {H : Hp} {a b : Addr} {ns ms : List Wo} {Q : VK} (h1 : SqT K H a (ns.map vW)) (h2 : SqT K H b (ms.map vW)) (q : Q (.bl (decide (ns = ms))) H) : rEqD K (.ref a) (.ref b) H Q := by
  refine ⟨_, _, .tup h1 (dpW ns), .tup h2 (dpW ms), shaped_t (shW ns), shaped_t (shW ms), ?_⟩
  show Q (.bl (PyData.eqvAll (ns.map fun x => PyData.str x.str) (ms.map fun x => PyData.str x.str))) H
  rw [eqvW]
  exact q
/-- no two neighbours are alike | the first two that are -/
def NoPair (l : Int) (st : List Int) : Prop := ∀ q, 1 ≤ q → q < l → wordsOf q st ≠ wordsOf (q + 1) st
def PairAt (l : Int) (st : List Int) (p : Int) : Prop := 1 ≤ p ∧ p < l ∧ wordsOf p st = wordsOf (p + 1) st ∧ ∀ q, 1 ≤ q → q < p → wordsOf q st ≠ wordsOf (q + 1) st
/-- all unlike rows, each once -/
def Rows (l : Int) (st : List Int) (D : List (List Wo)) : Prop := D.Nodup ∧ ∀ r, r ∈ D ↔ ∃ t, (1 ≤ t ∧ t ≤ l) ∧ wordsOf t st = r
theorem Rows.same {l : Int} {st : List Int} {D D' : List (List Wo)} (h : Rows l st D) (h' : Rows l st D') : D.length = D'.length :=
  ((List.perm_ext_iff_of_nodup h.1 h'.1).mpr fun r => (h.2 r).trans (h'.2 r).symm).length_eq
theorem near_of {x y : Int} {st : List Int} (h : x < y) (e : wordsOf x st = wordsOf y st) : wordsOf x st = wordsOf (x + 1) st := by
  by_cases z : y = x + 1
  · rw [← z]
    exact e
  · exact (wordsOf_convex x (x + 1) y (by omega) (by omega) st _ rfl e.symm).symm
/-- at as stand the rows of answers, place by place, as tuples -/
def RowsAt (H : Hp) (st : List Int) (as : List Addr) : Prop := ∀ (i : Nat) (a : Addr), as[i]? = some a → H a = some (.tup ((wordsOf (1 + (i : Int)) st).map vW))
theorem RowsAt.ex {H H' : Hp} {st : List Int} {as : List Addr} (e : Ex H H') (h : RowsAt H st as) : RowsAt H' st as := fun i a ha => e _ _ (h i a ha)
def sp_rows_of_all_places (K : PySem.W.Frag) : Sp := fun vs H Q _ => ∃ (l : Int) (s : Addr) (st : List Int), vs = [.int l, .ref s] ∧ 1 ≤ l ∧ l ≤ 60 ∧ SqL K H s (st.map V.int) ∧ st.length ≤ 1000 ∧
  ∀ p H' (as : List Addr), H p = none → Ex H H' → H' p = some (.lst (as.map V.ref)) → (as.length : Int) = l → RowsAt H' st as → Q (.ref p) H'
abbrev N_rows_of_all_places : List Str := ["length", "stands", "place"]
def t_rows_of_all_places (K : PySem.W.Frag) : TS := (tRet (tLc (iRng2 (tCons (tC (.int 1)) (tCons (tOp (rI0 fun i j => .int (i + j)) (tVar 0) (tC (.int 1))) tNil))) (gName 2) tYes (tCB (rTupleOf K) (tCons (tCall (sp_row_of_answers K) [] E0 (tCons (tVar 2) (tCons (tVar 1) tNil))) tNil)) [2]))
theorem pure_rows_of_all_places {K : PySem.W.Frag} {vs : List V} {H : Hp} {Q : VK} {E : XK} (h : sp_rows_of_all_places K vs H Q E) : t_rows_of_all_places K { nx := fun _ H' => Q .non H', rt := Q } (start N_rows_of_all_places vs) H := by
  obtain ⟨l, s, st, rfl, h1, h2, hS, hl, q⟩ := h
  refine ⟨_, rfl, l, 1, rfl, rfl, 1, l + 1, rfl, ⟨by decide, by decide, by omega, by omega⟩, fun D hD => ?_⟩
  refine lc_range (lo := 1) (n := (l + 1 - 1).toNat) (fun i H' => ∃ as : List Addr, as.length = i ∧ Ex H H' ∧ H' D = some (.lst (as.map V.ref)) ∧ RowsAt H' st as)
    ⟨[], rfl, Ex.new hD, upd_same, fun i a ha => (by simp at ha)⟩ (fun i H' hi p => ?_) (fun H' p => ?_)
  · obtain ⟨as, hal, he, hd, hr⟩ := p
    refine ⟨rfl, ?_⟩
    dsimp only [tYes]
    rw [if_pos rfl]
    refine ⟨_, rfl, _, rfl, 1 + (i : Int), s, st, rfl, ex_l he hS, hl, fun r H2 nr e2 h2 => ?_⟩
    refine ⟨r, _, rfl, .inl ⟨SqL.of h2, fun u nu => ?_⟩⟩
    have e3 : Ex H2 (upd H2 u (.tup ((wordsOf (1 + (i : Int)) st).map vW))) := Ex.new nu
    have hd3 := e3 _ _ (e2 _ _ hd)
    refine ⟨_, hd3, ?_, as ++ [u], ?_, ((he.trans e2).trans e3).mut hD, ?_, ?_⟩
    · rw [List.length_map, hal]
      exact small1000 (by omega)
    · rw [List.length_append, hal]
      rfl
    · rw [upd_same, List.map_append]
      rfl
    · intro j a ha
      have hta : (upd H2 u (.tup ((wordsOf (1 + (i : Int)) st).map vW))) a = some (.tup ((wordsOf (1 + (j : Int)) st).map vW)) := by
        by_cases hj : j < as.length
        · rw [List.getElem?_append_left hj] at ha
          exact (e2.trans e3) _ _ (hr j a ha)
        · rw [List.getElem?_append_right (by omega)] at ha
          have hj2 : j - as.length = 0 := by
            have := (List.getElem?_eq_some_iff.mp ha).1
            simp at this
            omega
          rw [hj2] at ha
          have ea : u = a := Option.some.inj ha
          have ej : j = i := by omega
          rw [← ea, ej, upd_same]
      have nD : a ≠ D := ne_of hta hd3 (by intro z; cases z)
      rw [upd_ne nD]
      exact hta
  · obtain ⟨as, hal, he, hd, hr⟩ := p
    exact q D H' as hD he hd (by omega) hr
theorem len_rows_of_all_places {K : PySem.W.Frag} {vs : List V} {H : Hp} {Q : VK} {E : XK} (h : sp_rows_of_all_places K vs H Q E) : vs.length = 2 := by
  obtain ⟨l, s, st, rfl, _⟩ := h
  rfl
/-! ### len(set(xs)), xs a list of tuples of texts (and ints): the table's own words are the library's, what stands in it is told here -/
abbrev Tk := List Key
abbrev tH (P : Program) (w : World) (k : Tk) : Int := tupleKeyHash (mixKind P w) k
abbrev IsTu (P : Program) (w : World) (h : Heap) (k : Tk) (b : Addr) : Prop := IsTupleKey (mixKind P w) h k b
def Flat (v : Value) : Prop := (∃ i t, v = Value.int i t) ∨ ∃ x t, v = Value.str x t
theorem flat_of {P : Program} {w : World} : ∀ {k : Tk} {us : List Value}, PySem.ItemsAre (mixKind P w) k us → ∀ u ∈ us, Flat u
  | _, _, .nil, u, hu => nomatch hu
  | _, _, .cons h1 h2, u, hu => by
    rcases List.mem_cons.mp hu with e | hu
    · rw [e]
      rcases keyIs_shape h1 with ⟨i, t, _, z⟩ | ⟨x, t, _, z⟩
      · exact .inl ⟨i, t, z⟩
      · exact .inr ⟨x, t, z⟩
    · exact flat_of h2 u hu
theorem Flat.noClass {v : Value} (f : Flat v) (n : Nat) : ofAClassStatement n v = pure false := by
  rcases f with ⟨i, t, rfl⟩ | ⟨x, t, rfl⟩ <;> cases n <;> rfl
theorem Flat.byVal {v : Value} (f : Flat v) (n : Nat) : ∃ b, hashByValue n v = pure b := by
  rcases f with ⟨i, t, rfl⟩ | ⟨x, t, rfl⟩
  · exact ⟨true, by cases n <;> rfl⟩
  · exact ⟨false, by cases n <;> rfl⟩
theorem vals_items {P : Program} {w : World} : ∀ {k : Tk} {us : List Value}, Vals (k.map kV) us → PySem.ItemsAre (mixKind P w) k us
  | [], _, .nil => .nil
  | .inl i :: k, _, .cons r t => by
    obtain ⟨tk, rfl⟩ := r
    exact .cons (keyIs_int i tk) (vals_items t)
  | .inr x :: k, _, .cons r t => by
    obtain ⟨tk, rfl⟩ := r
    exact .cons (keyIs_str x tk) (vals_items t)
section
variable {P : Program} {w : World} {A : Around} {E : Value → Shared → Prop} {s : Shared}
theorem tu_noClass {k : Tk} {b : Addr} {Q : Bool → Shared → Prop} (hk : IsTu P w s.heap k b) (q : Q false s) : wpAny (model P w) A (ofAClassStatement 8 (.ref b)) Q E s := by
  have ty := hk.typeIs
  obtain ⟨ob, us, n, g1, _, g3, g4⟩ := hk
  unfold ofAClassStatement
  refine wpAny_bind (wpAny_typeOf ty ?_)
  dsimp only
  have z : (("tuple" : String) == "tuple") = true := by decide
  simp only [z, if_true, Bool.not_true, Bool.false_eq_true, if_false]
  try refine wpAny_bind (wpAny_pure ?_)
  try simp only [Bool.not_true, Bool.false_eq_true, if_false]
  show wpAny _ _ (seqItems? (.ref b) >>= _) _ _ s
  refine wpAny_bind (wpAny_seqItems g1 g3 ?_)
  dsimp only
  refine wpAny_bind ?_
  show wpAny _ _ (forIn us _ _) _ _ s
  rw [← Array.forIn_toList]
  refine wpAny_forIn_list _ (fun left r s' => r.1 = none ∧ s' = s ∧ ∀ u ∈ left, Flat u) _ ?_ ?_ _ _ ⟨rfl, rfl, flat_of g4⟩
  · rintro u left r s' ⟨_, rfl, fl⟩
    rw [(fl u List.mem_cons_self).noClass]
    refine wpAny_bind (wpAny_pure ?_)
    simp only [Bool.false_eq_true, if_false]
    exact wpAny_pure ⟨rfl, rfl, fun y hy => fl y (List.mem_cons_of_mem _ hy)⟩
  · rintro ⟨r1, r2⟩ s' ⟨hr, rfl, _⟩
    simp only at hr
    subst hr
    exact wpAny_pure q
theorem tu_byVal {k : Tk} {b : Addr} {Q : Bool → Shared → Prop} (hk : IsTu P w s.heap k b) (q : ∀ c, Q c s) : wpAny (model P w) A (hashByValue 8 (.ref b)) Q E s := by
  have ty := hk.typeIs
  obtain ⟨ob, us, n, g1, _, g3, g4⟩ := hk
  unfold hashByValue
  refine wpAny_bind (wpAny_specialOf ty F.slot_tuple_hash.lookup ?_)
  show wpAny _ _ (seqItems? (.ref b) >>= _) _ _ s
  refine wpAny_bind (wpAny_seqItems g1 g3 ?_)
  refine wpAny_bind ?_
  show wpAny _ _ (forIn us _ _) _ _ s
  rw [← Array.forIn_toList]
  refine wpAny_forIn_list _ (fun left r s' => r.1 = none ∧ s' = s ∧ ∀ u ∈ left, Flat u) _ ?_ ?_ _ _ ⟨rfl, rfl, flat_of g4⟩
  · rintro u left r s' ⟨_, rfl, fl⟩
    obtain ⟨c, ec⟩ := (fl u List.mem_cons_self).byVal 7
    rw [ec]
    refine wpAny_bind (wpAny_pure ?_)
    cases c with
    | true =>
      simp only [Bool.not_true, Bool.false_eq_true, if_false]
      exact wpAny_pure ⟨rfl, rfl, fun y hy => fl y (List.mem_cons_of_mem _ hy)⟩
    | false =>
      simp only [Bool.not_false, if_true]
      exact wpAny_pure (wpAny_pure (q _))
  · rintro ⟨r1, r2⟩ s' ⟨hr, rfl, _⟩
    simp only at hr
    subst hr
    exact wpAny_pure (q _)
theorem tu_seen {k : Tk} {b : Addr} {Q : Bool → Shared → Prop} (hk : IsTu P w s.heap k b) {ys : List Value} (hy : ∀ y ∈ ys, ∃ k' c, y = Value.ref c ∧ IsTu P w s.heap k' c) (q : Q false s) :
    wpAny (model P w) A (searchCouldBeSeen (.ref b) ys) Q E s := by
  unfold searchCouldBeSeen
  refine wpAny_bind ?_
  refine wpAny_forIn_list _ (fun left r s' => r.1 = none ∧ s' = s ∧ ∀ y ∈ left, ∃ k' c, y = Value.ref c ∧ IsTu P w s.heap k' c) _ ?_ ?_ _ _ ⟨rfl, rfl, hy⟩
  · rintro y left r s' ⟨_, rfl, al⟩
    obtain ⟨k', c, rfl, hc⟩ := al y List.mem_cons_self
    have al' : ∀ z ∈ left, ∃ k' c, z = Value.ref c ∧ IsTu P w s'.heap k' c := fun z hz => al z (List.mem_cons_of_mem _ hz)
    dsimp only
    by_cases hv : (b == c || (carriedByValue (.ref b) && carriedByValue (.ref c))) = true
    · exact wp_if_pos hv (wpAny_pure ⟨rfl, rfl, al'⟩)
    · refine wp_if_neg hv (wpAny_bind (wpAny_eqIsQuiet_tuple hk ?_))
      simp only [Bool.not_true, Bool.false_eq_true, if_false]
      refine wpAny_bind (wpAny_eqIsQuiet_tuple hc ?_)
      simp only [Bool.not_true, Bool.false_eq_true, if_false]
      refine wpAny_bind (tu_noClass hk ?_)
      simp only [Bool.false_eq_true, if_false]
      refine wpAny_bind (tu_noClass hc ?_)
      simp only [Bool.false_eq_true, if_false]
      exact wpAny_pure ⟨rfl, rfl, al'⟩
  · rintro ⟨r1, r2⟩ s' ⟨hr, rfl, _⟩
    simp only at hr
    subst hr
    exact wpAny_pure q
end
/-- at a a set stands that has got the tuples L -/
structure Sx (P : Program) (w : World) (h : Heap) (a : Addr) (L : List (Addr × Tk)) (es : Array (Int × Value)) (ep : Nat) (t : SetTable) : Prop where
  ob : ∃ o, h.get? a = some o ∧ o.ExactSet ∧ o.data = .set es ep t
  en : es.toList = L.map fun p => (tH P w p.2, Value.ref p.1)
  tab : TabOk t (L.map fun p => tH P w p.2)
  nd : (L.map (·.2)).Nodup
  tu : ∀ p ∈ L, IsTu P w h p.2 p.1
  room : L.length * 5 < t.mask * 3
section
variable {P : Program} {w : World} {A : Around} {E : Value → Shared → Prop} {s : Shared} {h : Heap} {a : Addr} {L : List (Addr × Tk)} {es : Array (Int × Value)} {ep : Nat} {t : SetTable}
theorem Sx.sz (R : Sx P w h a L es ep t) : es.size = L.length := by
  have q := congrArg List.length R.en
  rwa [Array.length_toList, List.length_map] at q
theorem Sx.pl (R : Sx P w h a L es ep t) : t.place.toList.length = L.length := by
  have q := R.tab.sz
  rwa [List.length_map, ← Array.length_toList] at q
theorem Sx.fits (R : Sx P w h a L es ep t) : t.fits es.size = true := by
  have q1 := R.pl
  have q2 := R.sz
  have q3 := R.room
  rw [Array.length_toList] at q1
  unfold SetTable.fits SetTable.fill
  rw [R.tab.dm, Bool.and_eq_true, beq_iff_eq, decide_eq_true_eq]
  exact ⟨q1.trans q2.symm, by show t.place.size + 0 ≤ t.mask; omega⟩
theorem Sx.at (R : Sx P w h a L es ep t) {i : Nat} {p : Addr × Tk} (e : L[i]? = some p) : es[i]? = some (tH P w p.2, Value.ref p.1) := by
  rw [← Array.getElem?_toList, R.en, List.getElem?_map, e]
  rfl
theorem Sx.odd (R : Sx P w h a L es ep t) : ¬ t.gaveWay = true := by
  unfold SetTable.gaveWay
  rw [mask_odd R.tab.mok]
  decide
theorem nth_dummy (m : Nat) : ∀ (n : Nat) (p : SetTable.Probe), p.dummy = none → (nth m p n).dummy = none
  | 0, _, z => z
  | n + 1, p, z => nth_dummy m n (adv m p) (by unfold adv; split <;> exact z)
/-- the c-th probe of the way of a hash -/
abbrev pr (t : SetTable) (x : Int) (c : Nat) : SetTable.Probe := nth t.mask (runAt t.mask (SetTable.bits x % (t.mask + 1)) (SetTable.bits x)) c
/-- looked for: there, or the first empty slot of its way -/
theorem sx_seek (R : Sx P w s.heap a L es ep t) {x : Addr} {k : Tk} (hx : IsTu P w s.heap k x) (hu : A.units < cLine) {F : Nat} (f1 : F < 10 * SetTable.turns t.mask) (f2 : (pr t (tH P w k) F).j ∉ t.place.toList)
    (f3 : ∀ c, c < F → (pr t (tH P w k) c).j ∈ t.place.toList) {Q : SetFound → Shared → Prop} (yes : k ∈ L.map (·.2) → Q (.there none) s) (no : k ∉ L.map (·.2) → Q (.free (pr t (tH P w k) F).j false) s) :
    ∀ (n c : Nat) (st : Option SetTable.Probe), st.getD (t.probeStart (tH P w k)) = pr t (tH P w k) c → c ≤ F → F - c < n →
      (∀ (i : Nat) p, L[i]? = some p → p.2 = k → ∃ c', c ≤ c' ∧ c' < F ∧ t.place.toList[i]? = some (pr t (tH P w k) c').j) → wpAny (model P w) A (setSearchFrom a (.ref x) (tH P w k) true n st) Q E s := by
  intro n
  induction n with
  | zero => exact fun c st _ _ z _ => absurd z (Nat.not_lt_zero _)
  | succ n ih =>
    intro c st e0 hc hn am
    obtain ⟨o, o1, o2, o3⟩ := R.ob
    have go : ∀ q, nth t.mask (pr t (tH P w k) c) q = pr t (tH P w k) (c + q) := fun q => (nth_add t.mask c _ q).symm
    have hAt : ∀ (i : Nat) p, L[i]? = some p → (es[i]?.map (·.1)).getD 0 = tH P w p.2 := fun i p e => by
      rw [R.at e]
      rfl
    have met := go_spec t R.tab.ris R.tab.dm (fun i => (es[i]?.map (·.1)).getD 0) (tH P w k) (10 * SetTable.turns t.mask) (F - c) (pr t (tH P w k) c) (nth_dummy t.mask c _ rfl) (by omega)
      (fun q hq => by rw [go]; exact f3 _ (by omega)) (by rw [go, show c + (F - c) = F by omega]; exact f2)
    rw [setSearchFrom_succ]
    refine wpAny_bind (wpAny_setState_of o1 o3 R.fits ?_)
    dsimp only
    refine wp_if_neg R.odd ?_
    try refine wpAny_bind (wpAny_pure ?_)
    rw [e0]
    rcases met with ⟨q, i, m1, m2, m3, m4, m5⟩ | ⟨m4, m5⟩
    · rw [go] at m2
      have m5' : t.probe (fun i => (es[i]?.map (·.1)).getD 0) (tH P w k) (pr t (tH P w k) c) = some (.candidate (pr t (tH P w k) (c + q)).j i (pr t (tH P w k) (c + (q + 1)))) := by
        rw [← go q, ← go (q + 1)]
        exact m5
      rw [m5']
      dsimp only
      have il : i < L.length := by
        rw [← R.pl]
        exact (List.getElem?_eq_some_iff.mp m2).1
      obtain ⟨p, ep1⟩ : ∃ p, L[i]? = some p := ⟨_, List.getElem?_eq_getElem il⟩
      have pm : p ∈ L := List.mem_of_getElem? ep1
      have sl : t.slot (pr t (tH P w k) (c + q)).j = .live i := slot_live R.tab.ris m2
      have rest : wpAny (model P w) A (searchRest a (.ref x) (tH P w k) true n es t (pr t (tH P w k) (c + q)).j i (pr t (tH P w k) (c + (q + 1)))) Q E s := by
        unfold searchRest
        rw [R.at ep1]
        dsimp only
        refine wpAny_bind (wpAny_holding (wpAny_eqBool_tuple hu (R.tu p pm) hx ?_))
        refine wpAny_bind (wpAny_setState_of o1 o3 R.fits ?_)
        dsimp only
        by_cases same : p.2 = k
        · exact wp_if_pos (by simp [same]) (wpAny_pure (yes (List.mem_map.mpr ⟨p, pm, same⟩)))
        · refine wp_if_neg (by simp [same]) ?_
          try refine wpAny_bind (wpAny_pure ?_)
          rw [sameMem]
          dsimp only
          simp only [if_true, sl, R.at ep1]
          refine wpAny_bind (wpAny_isSame_ref_self (wpAny_bind (wpAny_pure ?_)))
          simp only [if_true]
          refine wp_if_neg (by simp [same]) (ih (c + (q + 1)) _ rfl (by omega) (by omega) fun i2 p2 e2 k2 => ?_)
          obtain ⟨c', b1, b2, b3⟩ := am i2 p2 e2 k2
          refine ⟨c', ?_, b2, b3⟩
          have n1 : ¬ c' < c + q := fun z => by
            refine m4 (c' - c) i2 (by omega) (by rw [go, show c + (c' - c) = c' by omega]; exact b3) ?_
            rw [hAt i2 p2 e2, k2]
          have n2 : c' ≠ c + q := fun z => by
            rw [z] at b3
            have s2 := slot_live R.tab.ris b3
            rw [sl] at s2
            injection s2 with s2
            rw [← s2, ep1] at e2
            exact same ((congrArg Prod.snd (Option.some.inj e2)).trans k2)
          omega
      by_cases hl : t.led = true
      · refine wp_if_neg (by simp [hl]) ?_
        try refine wpAny_bind (wpAny_pure ?_)
        exact rest
      · refine wp_if_pos (by simp [hl]) (wpAny_bind (tu_seen hx (fun y hy => ?_) ?_))
        · obtain ⟨e, he, rfl⟩ := List.mem_map.mp hy
          have he2 : e ∈ es.toList := by
            have z : e ∈ es ∧ e.1 = tH P w k := by simpa using he
            simpa using z.1
          rw [R.en] at he2
          obtain ⟨p2, hp2, rfl⟩ := List.mem_map.mp he2
          exact ⟨p2.2, p2.1, rfl, R.tu p2 hp2⟩
        · refine wp_if_neg (by decide) ?_
          try refine wpAny_bind (wpAny_pure ?_)
          exact rest
    · have m5' : t.probe (fun i => (es[i]?.map (·.1)).getD 0) (tH P w k) (pr t (tH P w k) c) = some (.empty (pr t (tH P w k) F).j none) := by
        have z := go (F - c)
        rw [show c + (F - c) = F by omega] at z
        rw [← z]
        exact m5
      rw [m5']
      dsimp only
      refine wpAny_pure (no fun hm => ?_)
      obtain ⟨p2, hp2, k2⟩ := List.mem_map.mp hm
      obtain ⟨i2, z1, z2⟩ := List.getElem_of_mem hp2
      have e2 : L[i2]? = some p2 := by rw [List.getElem?_eq_getElem z1, z2]
      obtain ⟨c', b1, b2, b3⟩ := am i2 p2 e2 k2
      refine m4 (c' - c) i2 (by omega) (by rw [go, show c + (c' - c) = c' by omega]; exact b3) ?_
      rw [hAt i2 p2 e2, k2]
theorem sx_look (R : Sx P w s.heap a L es ep t) {x : Addr} {k : Tk} (hx : IsTu P w s.heap k x) (hu : A.units < cLine) {Q : SetFound → Shared → Prop} (yes : k ∈ L.map (·.2) → Q (.there none) s)
    (no : ∀ F, k ∉ L.map (·.2) → (pr t (tH P w k) F).j ∉ t.place.toList → (∀ c, c < F → (pr t (tH P w k) c).j ∈ t.place.toList) → Q (.free (pr t (tH P w k) F).j false) s) :
    wpAny (model P w) A (setSearch a (.ref x) (tH P w k) true) Q E s := by
  have rm := R.room
  obtain ⟨F, f1, f2, f3⟩ := R.tab.first (by rw [List.length_map]; omega) (tH P w k)
  have f4 : F < 100000 := by
    have z : 10 * SetTable.turns t.mask ≤ 1420 := by
      unfold SetTable.turns
      rcases R.tab.mok with e | e | e <;> omega
    omega
  unfold setSearch
  refine sx_seek R hx hu f1 f2 f3 yes (fun z => no F z f2 f3) 100000 0 none rfl (Nat.zero_le _) (by omega) fun i p e k2 => ?_
  have il : i < t.place.toList.length := by
    rw [R.pl]
    exact (List.getElem?_eq_some_iff.mp e).1
  obtain ⟨c, c1, c2⟩ := R.tab.before (i := i) f2 (by rw [List.getElem?_map, e, ← k2]; rfl) (List.getElem?_eq_getElem il)
  exact ⟨c, Nat.zero_le _, c1, (List.getElem?_eq_getElem il).trans (congrArg some c2.symm)⟩
end
/-! ### a table laid anew; one tuple more -/
theorem fm_all {α : Type} (L : List α) : (List.range L.length).filterMap (fun i => L[i]?) = L := by
  have z := PySem.W.krv_all L.toArray
  rw [List.size_toArray] at z
  simpa using z
theorem order_hash {P : Program} {w : World} {L : List (Addr × Tk)} {es : Array (Int × Value)} (en : es.toList = L.map fun p => (tH P w p.2, Value.ref p.1)) : ∀ l : List Nat, (∀ i ∈ l, i < L.length) →
    l.filterMap (fun i => es[i]?) = (l.filterMap fun i => L[i]?).map (fun p => (tH P w p.2, Value.ref p.1)) ∧ (l.filterMap fun i => L[i]?).map (fun p => tH P w p.2) = l.map fun i => (es.map (·.1)).getD i 0
  | [], _ => ⟨rfl, rfl⟩
  | i :: l, hl => by
    have hi := hl i List.mem_cons_self
    obtain ⟨z1, z2⟩ := order_hash en l fun j hj => hl j (List.mem_cons_of_mem _ hj)
    have e1 : L[i]? = some L[i] := List.getElem?_eq_getElem hi
    have e2 : es[i]? = some (tH P w L[i].2, Value.ref L[i].1) := by
      rw [← Array.getElem?_toList, en, List.getElem?_map, e1]
      rfl
    have e3 : (es.map (·.1)).getD i 0 = tH P w L[i].2 := by
      have e4 : (es.map (·.1))[i]? = some (tH P w L[i].2) := by
        rw [Array.getElem?_map, e2]
        rfl
      simp [Array.getD_eq_getD_getElem?, e4]
    constructor
    · rw [List.filterMap_cons_some e2, List.filterMap_cons_some (f := fun i => L[i]?) e1, z1]
      rfl
    · rw [List.filterMap_cons_some (f := fun i => L[i]?) e1, List.map_cons, List.map_cons, z2, e3]
theorem TabOk.plainer {t : SetTable} {hs : List Int} (T : TabOk t hs) (b : Bool) : TabOk { t with plain := b } hs := ⟨T.ris, T.dm, T.sz, T.mok, T.bd, T.reach⟩
section
variable {P : Program} {w : World} {A : Around} {E : Value → Shared → Prop} {s : Shared} {h : Heap} {a : Addr} {L : List (Addr × Tk)} {es : Array (Int × Value)} {ep : Nat} {t : SetTable}
theorem tu_apart {h' : Heap} {k : Tk} {b : Addr} {o : Obj} (hb : IsTu P w h k b) (ho : h.get? a = some o) (hd : o.data = .set es ep t) (sb : Heap.SameBut a h h') : IsTu P w h' k b := by
  obtain ⟨ob, us, n, g1, g2, g3, g4⟩ := hb
  refine ⟨ob, us, n, (sb.2 b fun z => ?_).trans g1, g2, g3, g4⟩
  subst z
  rw [g1] at ho
  rw [Option.some.inj ho, hd] at g3
  cases g3
theorem sx_relay {o : Obj} (o1 : s.heap.get? a = some o) (o2 : o.ExactSet) (o3 : o.data = .set es ep t) (en : es.toList = L.map fun p => (tH P w p.2, Value.ref p.1)) (tz : t.place.size = L.length) (td : t.dummies = #[]) (tm : L.length ≤ t.mask)
    (nd : (L.map (·.2)).Nodup) (tu : ∀ p ∈ L, IsTu P w s.heap p.2 p.1) {want M : Nat} (m1 : SetTable.sizeAbove want - 1 = M) (m2 : MaskOk M) (m3 : SetTable.sizeAbove want ≤ 128) (m4 : L.length * 5 < M * 3) {Q : Unit → Shared → Prop}
    (q : ∀ h' L' es' ep' t', Heap.SameBut a s.heap h' → Sx P w h' a L' es' ep' t' → L'.Perm L → Q () { s with heap := h' }) : wpAny (model P w) A (setRelay a want) Q E s := by
  have ez : es.size = L.length := by
    have z := congrArg List.length en
    rwa [Array.length_toList, List.length_map] at z
  have fit : t.fits es.size = true := by
    unfold SetTable.fits SetTable.fill
    rw [td, Bool.and_eq_true, beq_iff_eq, decide_eq_true_eq]
    exact ⟨tz.trans ez.symm, by show t.place.size + 0 ≤ t.mask; omega⟩
  obtain ⟨t', ord, r1, r2, r3, r4, _, _, _⟩ := relaid_ok t (hs := es.map (·.1)) (wanted := want) m1 m2 (by rw [Array.size_map, ez]; omega)
  rw [Array.size_map, ez] at r2
  obtain ⟨z1, z2⟩ := order_hash en ord.toList fun i hi => List.mem_range.mp (r2.mem_iff.mp hi)
  have pm : (ord.toList.filterMap fun i => L[i]?).Perm L := by
    have z := r2.filterMap fun i => L[i]?
    rwa [fm_all] at z
  have en2 : (ord.filterMap (es[·]?)).toList = (ord.toList.filterMap fun i => L[i]?).map fun p => (tH P w p.2, Value.ref p.1) := by
    first
      | (rw [Array.toList_filterMap]; exact z1)
      | simpa using z1
  rw [← z2] at r3
  generalize ord.toList.filterMap (fun i => L[i]?) = L2 at pm en2 r3
  have ez2 : (ord.filterMap (es[·]?)).size = es.size := by
    have z := congrArg List.length en2
    rw [Array.length_toList, List.length_map, pm.length_eq] at z
    rw [z, ez]
  rw [setRelay_eq]
  refine wpAny_bind (wpAny_setState_of o1 o3 fit ?_)
  dsimp only
  refine wp_if_neg (by rw [sizeLine_eq]; omega) ?_
  try refine wpAny_bind (wpAny_pure ?_)
  rw [r1]
  dsimp only
  refine wpAny_bind (wp_if_neg (by rw [ez2]; simp) ?_)
  try refine wpAny_bind (wpAny_pure ?_)
  refine wpAny_pure ?_
  dsimp only
  refine wpAny_storeSet_of o1 o3 ?_ (by rw [ez2, ez, sizeLine_eq]; have z : MaskOk M := m2; rcases z with z | z | z <;> omega)
  have sb : Heap.SameBut a s.heap (s.heap.update a (Obj.putSet (ord.filterMap (es[·]?)) t')) := Heap.SameBut.update ..
  refine q _ L2 _ (ep + 1) t' sb ⟨⟨_, store_at o1 o3, ⟨o2.1, o2.2.1, o2.2.2⟩, rfl⟩, en2, r3, (pm.map (·.2)).nodup_iff.mpr nd, fun p hp => tu_apart (tu p (pm.mem_iff.mp hp)) o1 o3 sb, by rw [pm.length_eq, r4]; exact m4⟩ pm
theorem sx_add (R : Sx P w s.heap a L es ep t) {x : Addr} {k : Tk} (hx : IsTu P w s.heap k x) (hu : A.units < cLine) (few : L.length + 1 < 64) {Q : Bool → Shared → Prop}
    (q : ∀ b h' L' es' ep' t', Heap.SameBut a s.heap h' → Sx P w h' a L' es' ep' t' → (k ∈ L.map (·.2) → L' = L) → (k ∉ L.map (·.2) → L'.Perm ((x, k) :: L)) → Q b { s with heap := h' }) :
    wpAny (model P w) A (setAddHashed a (.ref x) (tH P w k)) Q E s := by
  obtain ⟨o, o1, o2, o3⟩ := R.ob
  have ez := R.sz
  have rm := R.room
  unfold setAddHashed
  refine wpAny_holding ?_
  rw [show (100000 : Nat) = 99999 + 1 from rfl, setAddHashedIn_succ]
  refine wpAny_bind (wpAny_setState_of o1 o3 R.fits ?_)
  dsimp only
  refine wp_if_neg (by simp [byScan, Value.scannable]) ?_
  try refine wpAny_bind (wpAny_pure ?_)
  refine wpAny_bind (sx_look R hx hu (fun hm => ?_) fun F hm f2 f3 => ?_)
  · exact wpAny_pure (q false s.heap L es ep t (Heap.SameBut.refl a s.heap) R (fun _ => rfl) fun z => absurd hm z)
  · dsimp only
    refine wpAny_bind (wpAny_setState_of o1 o3 R.fits ?_)
    dsimp only
    obtain ⟨q1, q2, q3, q4, _, _, _, _, q9⟩ := R.tab.put f2 f3
    have en1 : (SetTable.insertAt es (SetTable.below t.place (pr t (tH P w k) F).j) (tH P w k, Value.ref x)).toList = (L.take (SetTable.below t.place (pr t (tH P w k) F).j) ++ (x, k) :: L.drop (SetTable.below t.place (pr t (tH P w k) F).j)).map fun p => (tH P w p.2, Value.ref p.1) := by
      rw [SetTable.toList_insertAt, R.en, List.map_append, List.map_cons, List.map_take, List.map_drop]
    have pm := put_perm L (SetTable.below t.place (pr t (tH P w k) F).j) (x, k)
    have hh : (L.take (SetTable.below t.place (pr t (tH P w k) F).j) ++ (x, k) :: L.drop (SetTable.below t.place (pr t (tH P w k) F).j)).map (fun p => tH P w p.2) = (L.map fun p => tH P w p.2).take (SetTable.below t.place (pr t (tH P w k) F).j) ++ tH P w k :: (L.map fun p => tH P w p.2).drop (SetTable.below t.place (pr t (tH P w k) F).j) := by
      rw [List.map_append, List.map_cons, List.map_take, List.map_drop]
    rw [← hh] at q3
    generalize hpt : t.put (pr t (tH P w k) F).j = pt at q1 q3 q4 q9 ⊢
    obtain ⟨t1, j⟩ := pt
    dsimp only at q1 q3 q4 q9 ⊢
    subst q1
    generalize SetTable.insertAt es (SetTable.below t.place (pr t (tH P w k) F).j) (tH P w k, Value.ref x) = es1 at en1 ⊢
    generalize L.take (SetTable.below t.place (pr t (tH P w k) F).j) ++ (x, k) :: L.drop (SetTable.below t.place (pr t (tH P w k) F).j) = L1 at en1 pm q3
    have l1 : L1.length = L.length + 1 := pm.length_eq
    have nd1 : (L1.map (·.2)).Nodup := (pm.map (·.2)).nodup_iff.mpr (List.nodup_cons.mpr ⟨hm, R.nd⟩)
    have ez1 : es1.size = L.length + 1 := by
      have z := congrArg List.length en1
      rwa [Array.length_toList, List.length_map, l1] at z
    have fin : ∀ c : Bool, wpAny (model P w) A (do
        storeSet a es1 (if c then t1 else { t1 with plain := false })
        if !false && (if c then t1 else { t1 with plain := false }).tooFull then setRelay a (SetTable.grown (es.size + 1))
        return true) Q E s := by
      intro c
      have T2 : TabOk (if c = true then t1 else { t1 with plain := false }) (L1.map fun p => tH P w p.2) := by
        cases c
        · exact TabOk.plainer q3 false
        · exact q3
      have mk2 : (if c = true then t1 else { t1 with plain := false }).mask = t.mask := by
        cases c
        · exact q4
        · exact q4
      have fl2 : (if c = true then t1 else { t1 with plain := false }).fill = L.length + 1 := by
        rw [List.length_map] at q9
        cases c
        · exact q9
        · exact q9
      generalize (if c = true then t1 else { t1 with plain := false }) = t2 at T2 mk2 fl2 ⊢
      refine wpAny_bind (wpAny_storeSet_of o1 o3 ?_ (by rw [ez1, sizeLine_eq]; omega))
      have sb : Heap.SameBut a s.heap (s.heap.update a (Obj.putSet es1 t2)) := Heap.SameBut.update ..
      have p1 := store_at (es' := es1) (t' := t2) o1 o3
      generalize s.heap.update a (Obj.putSet es1 t2) = h1 at sb p1 ⊢
      have tu1 : ∀ p ∈ L1, IsTu P w h1 p.2 p.1 := fun p hp => by
        rcases List.mem_cons.mp (pm.mem_iff.mp hp) with e | hp
        · rw [e]
          exact tu_apart hx o1 o3 sb
        · exact tu_apart (R.tu p hp) o1 o3 sb
      have full : t2.tooFull = true ↔ (L.length + 1) * 5 ≥ t.mask * 3 := by
        unfold SetTable.tooFull
        rw [decide_eq_true_eq, fl2, mk2]
      by_cases hf : t2.tooFull = true
      · have hf2 := full.mp hf
        have two : (t.mask = 7 ∧ L.length = 4) ∨ (t.mask = 31 ∧ L.length = 18) := by
          rcases R.tab.mok with e | e | e
          · exact .inl ⟨e, by omega⟩
          · exact .inr ⟨e, by omega⟩
          · omega
        have lay : ∀ M, SetTable.sizeAbove (SetTable.grown (es.size + 1)) - 1 = M → MaskOk M → SetTable.sizeAbove (SetTable.grown (es.size + 1)) ≤ 128 → (L.length + 1) * 5 < M * 3 →
            wpAny (model P w) A (setRelay a (SetTable.grown (es.size + 1))) (fun _ s' => wpAny (model P w) A (pure true) Q E s') E { s with heap := h1 } := fun M z1 z2 z3 z4 =>
          sx_relay (s := { s with heap := h1 }) p1 ⟨o2.1, o2.2.1, o2.2.2⟩ rfl en1 (by rw [T2.sz, List.length_map]) T2.dm (by rw [l1, mk2]; rcases two with ⟨e, e2⟩ | ⟨e, e2⟩ <;> omega) nd1 tu1 z1 z2 z3 (by rw [l1]; exact z4)
            fun h2 L2 es2 ep2 t2 sb2 R2 pm2 => wpAny_pure (q true h2 L2 es2 ep2 t2 (sb.trans sb2) R2 (fun z => absurd z hm) fun _ => pm2.trans pm)
        first
          | (refine wpAny_bind ?_; refine wp_if_pos (by simp [hf]) ?_)
          | (refine wp_if_pos (by simp [hf]) ?_; refine wpAny_bind ?_)
        rcases two with ⟨_, e2⟩ | ⟨_, e2⟩
        · exact lay 31 (by rw [ez, e2, size_20]) (.inr (.inl rfl)) (by rw [ez, e2, size_20]; decide) (by omega)
        · exact lay 127 (by rw [ez, e2, size_76]) (.inr (.inr rfl)) (by rw [ez, e2, size_76]; decide) (by omega)
      · have hf2 : ¬ (L.length + 1) * 5 ≥ t.mask * 3 := fun z => hf (full.mpr z)
        first
          | refine wp_if_neg (by simp [hf]) ?_
          | (refine wpAny_bind ?_; refine wp_if_neg (by simp [hf]) ?_; refine wpAny_pure ?_)
        exact wpAny_pure (q true h1 L1 es1 (ep + 1) t2 sb ⟨⟨_, p1, ⟨o2.1, o2.2.1, o2.2.2⟩, rfl⟩, en1, T2, nd1, tu1, by rw [l1, mk2]; omega⟩ (fun z => absurd z hm) fun _ => pm)
    by_cases hp : t1.plain = true
    · first
        | (refine wpAny_bind ?_; refine wp_if_pos hp ?_; refine tu_byVal hx fun c => ?_)
        | refine wp_if_pos hp (wpAny_bind (tu_byVal hx fun c => ?_))
      exact fin c
    · first
        | (refine wpAny_bind ?_; refine wp_if_neg hp ?_; refine wpAny_pure ?_)
        | (refine wp_if_neg hp ?_; try refine wpAny_bind (wpAny_pure ?_))
      exact fin true
end
/-! ### set(xs), len of it -/
/-- what the set has got of the first i tuples -/
structure Has (ks : List (Addr × Tk)) (i : Nat) (L : List (Addr × Tk)) : Prop where
  sub : ∀ p ∈ L, p ∈ ks.take i
  all : ∀ p ∈ ks.take i, p.2 ∈ L.map (·.2)
  le : L.length ≤ i
theorem Has.next {ks L L' : List (Addr × Tk)} {i : Nat} {x : Addr × Tk} (g : Has ks i L) (e : ks[i]? = some x) (c1 : x.2 ∈ L.map (·.2) → L' = L) (c2 : x.2 ∉ L.map (·.2) → L'.Perm (x :: L)) : Has ks (i + 1) L' := by
  have tk : ks.take (i + 1) = ks.take i ++ [x] := by
    rw [List.take_add_one, e]
    rfl
  by_cases hm : x.2 ∈ L.map (·.2)
  · rw [c1 hm]
    refine ⟨fun p hp => by rw [tk]; exact List.mem_append_left _ (g.sub p hp), fun p hp => ?_, Nat.le_succ_of_le g.le⟩
    rw [tk] at hp
    rcases List.mem_append.mp hp with z | z
    · exact g.all p z
    · rw [List.mem_singleton.mp z]
      exact hm
  · have pm := c2 hm
    refine ⟨fun p hp => ?_, fun p hp => ?_, by rw [pm.length_eq]; exact Nat.succ_le_succ g.le⟩
    · rw [tk]
      rcases List.mem_cons.mp (pm.mem_iff.mp hp) with z | z
      · rw [z]
        exact List.mem_append_right _ (List.mem_singleton.mpr rfl)
      · exact List.mem_append_left _ (g.sub p z)
    · rw [tk] at hp
      refine (pm.map (·.2)).mem_iff.mpr ?_
      rcases List.mem_append.mp hp with z | z
      · exact List.mem_cons_of_mem _ (g.all p z)
      · rw [List.mem_singleton.mp z]
        exact List.mem_cons_self
section
variable {P : Program} {w : World} {A : Around} {E : Value → Shared → Prop} {s : Shared}
theorem tu_keep {h h' : Heap} {k : Tk} {b : Addr} (x : IsTu P w h k b) (kp : ∀ c o, h.get? c = some o → h'.get? c = some o) : IsTu P w h' k b := by
  obtain ⟨ob, us, n, g1, g2⟩ := x
  exact ⟨ob, us, n, kp b ob g1, g2⟩
theorem Sx.keep {h h' : Heap} {a : Addr} {L : List (Addr × Tk)} {es : Array (Int × Value)} {ep : Nat} {t : SetTable} (R : Sx P w h a L es ep t) (ka : ∀ o, h.get? a = some o → h'.get? a = some o) (tu : ∀ p ∈ L, IsTu P w h' p.2 p.1) : Sx P w h' a L es ep t := by
  obtain ⟨o, o1, o2⟩ := R.ob
  exact ⟨⟨o, ka o o1, o2⟩, R.en, R.tab, R.nd, tu, R.room⟩
theorem sx_empty {h : Heap} {a : Addr} {led : Bool} (e : h.get? a = some { cls := .type "set", dict := none, data := .set #[] 0 (.fresh 0 0 led) }) : Sx P w h a [] #[] 0 (.fresh 0 0 led) :=
  ⟨⟨_, e, ⟨rfl, rfl, rfl⟩, rfl⟩, rfl, ⟨List.Pairwise.nil, rfl, rfl, .inl rfl, fun x hx => (nomatch hx), fun i z j hi => (by simp at hi)⟩, List.nodup_nil, fun p hp => (nomatch hp), (by show 0 * 5 < 7 * 3; decide)⟩
/-- the loop that adds them, one behind another -/
theorem sx_loop {I : Addr} {fp wr : List Addr} {G : Array GenState → Array GenState → Prop} {n : Nat} {Pv : Nat → Value → Prop} {St : Nat → Shared → Prop} {R : Result → Shared → Prop} (W : WalksS P w A.in1 I fp wr G n Pv St)
    (S : Addr) (nS : S ∉ fp) (ks : List (Addr × Tk)) (en : n = ks.length) (few : ks.length < 64) (val : ∀ i v, Pv i v → ∃ p, ks[i]? = some p ∧ v = .ref p.1) (h0 : Heap) (tu0 : ∀ p ∈ ks, IsTu P w h0 p.2 p.1) (S0 : h0.get? S = none)
    (w0 : ∀ b ∈ wr, h0.get? b = none) (hu : A.in1.units < cLine)
    (fin : ∀ s' L es ep t, (∀ b o, h0.get? b = some o → s'.heap.get? b = some o) → Sx P w s'.heap S L es ep t → Has ks n L → G s.gens s'.gens → s'.drawn = s.drawn → s'.os = s.os → R (.ok (.ret .none)) s') :
    ∀ (m i : Nat) (s1 : Shared), i + m = n → St i s1 → (∀ b o, h0.get? b = some o → s1.heap.get? b = some o) → (∃ L es ep t, Sx P w s1.heap S L es ep t ∧ Has ks i L) → G s.gens s1.gens → s1.drawn = s.drawn → s1.os = s.os →
      codeAny (model P w) A (.builtin "set.update.loop" ⟨[.ref S, .ref I], []⟩) R s1 := by
  have nSw : S ∉ wr := fun z => nS (W.sub _ z)
  have stay : ∀ {s1 s2 : Shared}, Moved wr G s1 s2 → (∀ b o, h0.get? b = some o → s1.heap.get? b = some o) → ∀ b o, h0.get? b = some o → s2.heap.get? b = some o := fun mv kp b o e =>
    mv.heap b o (fun z => by rw [w0 b z] at e; cases e) (kp b o e)
  intro m
  induction m with
  | zero =>
    rintro i s1 hi st kp ⟨L, es, ep, t, X, g⟩ g1 g2 g3
    obtain rfl : i = n := by omega
    refine codeAny_builtin F.entry_set_update_loop ?_
    rw [Around.under_plainId F.plain_set_update_loop _]
    show wpAny _ A.in1 (pyNext (.ref I) >>= _) _ _ s1
    refine wpAny_bind (W.done s1 _ _ st fun s2 mv => ?_)
    have kp2 := stay mv kp
    have sub : ∀ p ∈ L, IsTu P w s2.heap p.2 p.1 := fun p hp => tu_keep (tu0 p (List.mem_of_mem_take (g.sub p hp))) kp2
    show wpAny _ A.in1 (ret Value.none) _ _ s2
    exact wpAny_pure (fin s2 L es ep t kp2 (X.keep (fun o e => mv.heap S o nSw e) sub) g (W.gtrans _ _ _ g1 mv.gens) (mv.drawn.trans g2) (mv.os.trans g3))
  | succ m ih =>
    rintro i s1 hi st kp ⟨L, es, ep, t, X, g⟩ g1 g2 g3
    refine codeAny_builtin F.entry_set_update_loop ?_
    rw [Around.under_plainId F.plain_set_update_loop _]
    show wpAny _ A.in1 (pyNext (.ref I) >>= _) _ _ s1
    refine wpAny_bind (W.item i s1 _ _ (by omega) st fun v s2 hv st2 mv => ?_)
    obtain ⟨p, ep1, rfl⟩ := val i v hv
    have kp2 := stay mv kp
    have X2 : Sx P w s2.heap S L es ep t := X.keep (fun o e => mv.heap S o nSw e) fun r hr => tu_keep (tu0 r (List.mem_of_mem_take (g.sub r hr))) kp2
    have hx : IsTu P w s2.heap p.2 p.1 := tu_keep (tu0 p (List.mem_of_getElem? ep1)) kp2
    show wpAny _ A.in1 (holding [Value.ref p.1] (setAdd S (.ref p.1)) >>= _) _ _ s2
    refine wpAny_bind (wpAny_holding ?_)
    unfold setAdd
    refine wpAny_holding (wpAny_bind (wpAny_pyHash_tuple hu hx ?_))
    refine sx_add (s := { s2 with toks := s2.toks + (p.2.length + 1) }) X2 hx hu (by have := g.le; omega) fun b h3 L3 es3 ep3 t3 sb X3 c1 c2 => ?_
    have kp3 : ∀ b o, h0.get? b = some o → h3.get? b = some o := fun b o e => (sb.2 b fun z => by rw [z, S0] at e; cases e).trans (kp2 b o e)
    refine wpAny_pure ⟨plainId_quiet F.plain_set_update_loop _, ih (i + 1) _ (by omega) (W.frame _ s2 _ _ st2 (Nat.le_add_right _ _) fun b hb o e => ?_) kp3 ⟨L3, es3, ep3, t3, X3, g.next ep1 c1 c2⟩ (W.gtrans _ _ _ g1 mv.gens) (mv.drawn.trans g2) (mv.os.trans g3)⟩
    rw [sb.2 b fun z => nS (z ▸ hb)]
    exact e
set_option maxHeartbeats 3200000 in
theorem call_set_tu {l : Addr} {us : Array Value} (ks : List (Addr × Tk)) {Q : Value → Shared → Prop} (hh : A.handled = none) (hl : s.heap.IsList l us) (hit : us.toList = ks.map fun p => Value.ref p.1) (tu : ∀ p ∈ ks, IsTu P w s.heap p.2 p.1) (few : ks.length < 64) (hu : A.units + 3 < cLine)
    (q : ∀ (h' : Heap) (tk : Nat) L es ep t, Sx P w h' s.heap.objs.size L es ep t → Has ks ks.length L → (∀ b o, s.heap.get? b = some o → h'.get? b = some o) → Q (.ref s.heap.objs.size) { s with heap := h', toks := tk }) :
    wpAny (model P w) A (call (.type "set") [.ref l]) Q E s := by
  have uz : us.size = ks.length := by
    have z := congrArg List.length hit
    rwa [Array.length_toList, List.length_map] at z
  obtain ⟨c, tl, hmro⟩ := F.called_set.mro
  have hmade := F.called_set.made
  have hsub := F.called_set.sub
  refine wpAny_call (codeAny_of_tree ?_)
  show wpAny _ _ (callAny (.type "set") _) _ _ _
  refine wpAny_pure ⟨Code.quiet_builtin _ (by decide +kernel), codeAny_builtin F.entry_type_call ?_⟩
  rw [Around.under_plain (weight_type_call_type "set" [.ref l] []) rfl]
  have a1 := F.called_set.notType
  have a2 := F.called_set.canCreate
  have a3 := F.typeCall_set_1 (.ref l)
  repeat (any_goals (first | assumption | wp_step))
  refine codeAny_mono (code_set_led1 (.ref l) (E := E) (Q₁ := fun v s1 => v = .ref s.heap.objs.size ∧ s1 = { s with heap := s.heap.push { cls := .type "set", dict := none, data := .set #[] 0 (.fresh 0 0 (!w.params.followText "set-order")) } }) ⟨rfl, rfl⟩) fun r s1 hr => ?_
  match r, hr with
  | .error e, hr => exact hr
  | .ok (.ret v), hr =>
    obtain ⟨rfl, rfl⟩ := hr
    have n1 : (s.heap.push { cls := .type "set", dict := none, data := .set #[] 0 (.fresh 0 0 (!w.params.followText "set-order")) }).get? s.heap.objs.size = some { cls := .type "set", dict := none, data := .set #[] 0 (.fresh 0 0 (!w.params.followText "set-order")) } := Heap.get?_push_size _ rfl
    have n2 : Shared.TypeIs { s with heap := s.heap.push { cls := .type "set", dict := none, data := .set #[] 0 (.fresh 0 0 (!w.params.followText "set-order")) } } (.ref s.heap.objs.size) "set" := ⟨_, n1, rfl⟩
    have b1 := F.called_set.init.lookup
    have b2 := F.called_set.init.bind (.ref s.heap.objs.size)
    repeat (any_goals (first | assumption | wp_step))
    refine codeAny_mono (codeAny_call_builtin (R := wants (fun r s2 => r = .none ∧ ∃ h' tk L es ep t, s2 = { s with heap := h', toks := tk } ∧ Sx P w h' s.heap.objs.size L es ep t ∧ Has ks ks.length L ∧ (∀ b o, s.heap.get? b = some o → h'.get? b = some o)) E) F.called_set.init.plain F.entry_set_init (check_set_init_1 n2 ?_)) fun r2 s2 hr2 => ?_
    · obtain ⟨ol, l1, l2, nl, l3⟩ := hl
      obtain ⟨ocls, odict, odata, oslots⟩ := ol
      simp only at l2 l3
      subst l2; subst l3
      have l4 : (s.heap.push { cls := .type "set", dict := none, data := .set #[] 0 (.fresh 0 0 (!w.params.followText "set-order")) }).get? l = some { cls := .type "list", dict := odict, data := .seq us nl, slots := oslots } := Heap.get?_push_of_some _ l1
      have c1 := F.sub_list_set
      have c2 := F.sub_list_frozenset
      have c3 : (Value.type "list" == Value.type "dict") = false := by decide
      have l5 : (s.heap.push { cls := .type "set", dict := none, data := .set #[] 0 (.fresh 0 0 (!w.params.followText "set-order")) }).IsList l us := ⟨_, l4, rfl, nl, rfl⟩
      unfold Builtin.«set.__init__» noKeywords Builtin.Frozenset.updateFrom
      generalize hPI : pyIter = PI
      wp_walk
      subst hPI
      refine wpAny_pyIter_list l5 (wpAny_bind (wpAny_runValue ?_))
      have lt : l < s.heap.objs.size := Heap.lt_size l1
      have hh3 : A.in1.in1.in1.handled = none := by simp [hh]
      have ne : l ≠ (s.heap.push { cls := .type "set", dict := none, data := .set #[] 0 (.fresh 0 0 (!w.params.followText "set-order")) }).objs.size := by
        rw [Heap.size_push]
        exact Nat.ne_of_lt (Nat.lt_succ_of_lt lt)
      have nf : s.heap.objs.size ∉ [(s.heap.push { cls := .type "set", dict := none, data := .set #[] 0 (.fresh 0 0 (!w.params.followText "set-order")) }).objs.size, l] := by
        rw [Heap.size_push]
        simp only [List.mem_cons, List.mem_singleton, List.not_mem_nil, or_false, not_or]
        exact ⟨Nat.ne_of_lt (Nat.lt_succ_self _), Nat.ne_of_gt lt⟩
      have val : ∀ (i : Nat) (v : Value), us[i]? = some v → ∃ p, ks[i]? = some p ∧ v = .ref p.1 := fun i v hv => by
        have z : us.toList[i]? = some v := by
          rw [Array.getElem?_toList]
          exact hv
        rw [hit, List.getElem?_map] at z
        cases y : ks[i]? with
        | none => rw [y] at z; cases z
        | some p =>
          rw [y] at z
          exact ⟨p, rfl, (Option.some.inj z).symm⟩
      have off : ∀ b, s.heap.objs.size ≤ b → s.heap.get? b = none := fun b hb => by
        cases y : s.heap.get? b with
        | none => rfl
        | some o => exact absurd (Nat.lt_of_lt_of_le (Heap.lt_size y) hb) (Nat.lt_irrefl _)
      refine sx_loop (s := s) ((Walks.list hh3 _ l ne us).toS) s.heap.objs.size nf ks uz few val s.heap tu (off _ (Nat.le_refl _)) (fun b hb => off b (by
          rw [List.mem_singleton.mp hb, Heap.size_push]
          omega)) hu (fun s3 L es ep t kp X g e1 e2 e3 => ?_) us.size 0 _ (Nat.zero_add _) ⟨⟨_, Heap.get?_push_size _ rfl, rfl, rfl⟩, l5.push _⟩ (fun b o e => Heap.get?_push_of_some _ (Heap.get?_push_of_some _ e)) ⟨[], #[], 0, _, sx_empty (Heap.get?_push_of_some _ n1), ⟨fun p hp => (nomatch hp), fun p hp => (by simp at hp), Nat.le_refl _⟩⟩ rfl rfl rfl
      obtain ⟨h3, gs, dr, tk, os⟩ := s3
      have y1 : gs = s.gens := e1
      have y2 : dr = s.drawn := e2
      have y3 : os = s.os := e3
      subst y1; subst y2; subst y3
      show wpAny _ _ _ _ _ _
      refine wpAny_pure ?_
      show wpAny _ _ (ret Value.none) _ _ _
      rw [uz] at g
      exact wpAny_pure ⟨rfl, h3, tk, L, es, ep, t, rfl, X, g, kp⟩
    · match r2, hr2 with
      | .error e, hr2 => exact hr2
      | .ok (.ret v2), hr2 =>
        obtain ⟨rfl, h3, tk, L, es, ep, t, rfl, X, g, kp⟩ := hr2
        repeat (any_goals (first | assumption | wp_step))
        exact q _ _ _ _ _ _ X g kp
end
theorem refs_vals : ∀ {ks : List (Addr × Tk)} {us : List Value}, Vals (ks.map fun p => V.ref p.1) us → us = ks.map fun p => Value.ref p.1
  | [], _, .nil => rfl
  | p :: ks, _, .cons r t => by
    cases r
    rw [refs_vals t]
    rfl
/-- len(set(xs)): as many as there are unlike ones -/
def tLenSetW (K : PySem.W.Frag) (ta : TE) : TE := fun σ H Q => ta σ H fun x H1 => ∃ (l : Addr) (ks : List (Addr × Tk)), x = .ref l ∧ SqL K H1 l (ks.map fun p => V.ref p.1) ∧ (∀ p ∈ ks, SqT K H1 p.1 (p.2.map kV)) ∧ ks.length < 64 ∧
  ∀ D : List Tk, D.Nodup → (∀ k, k ∈ D ↔ k ∈ ks.map (·.2)) → Q (.int (D.length : Nat)) H1
theorem pe_lenSetW {X : Cx} {a : Expr} {ta : TE} {p p2 q pos : Pos} (hc : X.calm = true) (hu : X.A.units + 64 < cLine) (hg : Gl X "len") (hm : X.mg "len" = none) (hg2 : Gl X "set") (hm2 : X.mg "set" = none) (ha : PE X a ta)
    (na : starEach [a] X.env = (false, eval a X.env) :: starEach [] X.env := by rfl) : PE X (.Call (.Name "len" p) [.Call (.Name "set" p2) [a] [] q] [] pos) (tLenSetW X.K ta) := by
  refine ⟨fun pins s σ H Q I h => Call_ (ld_blt I hg hm boot_len (PyProof.Rows.callWith_builtin1 (PyProof.Rows.args_cons ?_ rfl) rfl rfl))⟩
  refine Call_ (ld_blt I hg2 hm2 boot_set (PyProof.Rows.callWith_type1 (PyProof.Rows.args_cons (thn (ha.run pins s σ H _ I h) fun v s1 ⟨x, H1, I1, r1, q1⟩ => PyProof.Rows.args_nil ?_) na) na rfl))
  obtain ⟨l, ks, rfl, hq, ht, few, q1⟩ := q1
  cases r1
  obtain ⟨us, rv, pl, _⟩ := I1.list hq
  have tu : ∀ p ∈ ks, IsTu X.prog X.w s1.heap p.2 p.1 := fun p hp => by
    obtain ⟨its, rt, ⟨o, g1, g2, n, g3⟩, _⟩ := I1.tuple (ht p hp)
    exact ⟨o, its.toArray, n, g1, g2, g3, by simpa using vals_items rt⟩
  refine call_set_tu ks (I1.ok.hd hc) pl.isList (by simpa using refs_vals rv) tu few (by omega) fun h' tk L es ep t R g kp => ?_
  refine PyProof.Rows.args_nil ?_
  have I2 : Inv X pins σ H1 { s1 with heap := h', toks := tk } := I1.kept kp
  obtain ⟨o, o1, o2, o3⟩ := R.ob
  have ez := R.sz
  have le := g.le
  refine call_len_set o1 o2 o3 R.fits (by rw [ez]; omega) ⟨.int ((L.map (·.2)).length : Nat), H1, I2.tok _, ⟨_, by rw [ez, List.length_map]⟩, q1 _ R.nd fun k => ⟨fun hk => ?_, fun hk => ?_⟩⟩
  · obtain ⟨p, hp, rfl⟩ := List.mem_map.mp hk
    exact List.mem_map.mpr ⟨p, List.mem_of_mem_take (g.sub p hp), rfl⟩
  · obtain ⟨p, hp, rfl⟩ := List.mem_map.mp hk
    exact g.all p (by rw [List.take_length]; exact hp)
def sp_how_many (K : PySem.W.Frag) : Sp := fun vs H _ E => ∃ v1 v2 : V, vs = [v1, v2] ∧ SmA H v1 ∧ ((isPl v1 60 = false ∧ E (.ref (He.ga K "NoLength")) none H) ∨ ∃ l : Int, v1 = .int l ∧ 1 ≤ l ∧ l ≤ 60 ∧ BadSt H v2 l ∧ ∀ H', Ex H H' → E (.ref (He.ga K "NoStands")) none H')
abbrev N_how_many : List Str := ["length", "stands"]
def t_how_many (K : PySem.W.Frag) (E : XK) : TS := (tSeq (tDrop (tCall (sp_check_length K) [] E (tCons (tVar 0) tNil)))
  (tSeq (tDrop (tCall (sp_check_stands K) [] E (tCons (tVar 1) (tCons (tVar 0) tNil))))
  (tRet (tLenSetW K (tCall (sp_rows_of_all_places K) [] E0 (tCons (tVar 0) (tCons (tVar 1) tNil)))))))
theorem pure_how_many {K : PySem.W.Frag} {vs : List V} {H : Hp} {Q : VK} {E : XK} (h : sp_how_many K vs H Q E) : t_how_many K E { nx := fun _ H' => Q .non H', rt := Q } (start N_how_many vs) H := by
  obtain ⟨v1, v2, rfl, s1, ⟨b, q⟩ | ⟨l, rfl, h1, h6, b, q⟩⟩ := h
  · exact seq_drop (call1 rfl (cl_bad s1 b q))
  · exact seq_drop (call1 rfl (cl_ok h1 h6 (seq_drop (call2 rfl rfl (cs_bad (by omega) h6 b q)))))
theorem len_how_many {K : PySem.W.Frag} {vs : List V} {H : Hp} {Q : VK} {E : XK} (h : sp_how_many K vs H Q E) : vs.length = 2 := by
  obtain ⟨v1, v2, rfl, _⟩ := h
  rfl
def sp_alike (K : PySem.W.Frag) : Sp := fun vs H _ E => ∃ v1 v2 : V, vs = [v1, v2] ∧ SmA H v1 ∧ ((isPl v1 60 = false ∧ E (.ref (He.ga K "NoLength")) none H) ∨ ∃ l : Int, v1 = .int l ∧ 1 ≤ l ∧ l ≤ 60 ∧ BadSt H v2 l ∧ ∀ H', Ex H H' → E (.ref (He.ga K "NoStands")) none H')
abbrev N_alike : List Str := ["length", "stands", "rows", "place"]
def t_alike (K : PySem.W.Frag) (E : XK) : TS := (tSeq (tDrop (tCall (sp_check_length K) [] E (tCons (tVar 0) tNil)))
  (tSeq (tDrop (tCall (sp_check_stands K) [] E (tCons (tVar 1) (tCons (tVar 0) tNil))))
  (tSeq (tAsg (tCall (sp_rows_of_all_places K) [] E0 (tCons (tVar 0) (tCons (tVar 1) tNil))) (gName 2))
  (tSeq (tFor (iRng2 (tCons (tC (.int 1)) (tCons (tVar 0) tNil))) (gName 3) (tIfS (tTest (tOp (rEqD K) (tOp (rIxL K) (tVar 2) (tOp (rI0 fun i j => .int (i - j)) (tVar 3) (tC (.int 1)))) (tOp (rIxL K) (tVar 2) (tVar 3)))) (tRet (tTup (tCons (tVar 3) (tCons (tOp (rI0 fun i j => .int (i + j)) (tVar 3) (tC (.int 1))) tNil)))) tNext))
  (tRet (tC .non))))))
theorem pure_alike {K : PySem.W.Frag} {vs : List V} {H : Hp} {Q : VK} {E : XK} (h : sp_alike K vs H Q E) : t_alike K E { nx := fun _ H' => Q .non H', rt := Q } (start N_alike vs) H := by
  obtain ⟨v1, v2, rfl, s1, ⟨b, q⟩ | ⟨l, rfl, h1, h6, b, q⟩⟩ := h
  · exact seq_drop (call1 rfl (cl_bad s1 b q))
  · exact seq_drop (call1 rfl (cl_ok h1 h6 (seq_drop (call2 rfl rfl (cs_bad (by omega) h6 b q)))))
theorem len_alike {K : PySem.W.Frag} {vs : List V} {H : Hp} {Q : VK} {E : XK} (h : sp_alike K vs H Q E) : vs.length = 2 := by
  obtain ⟨v1, v2, rfl, _⟩ := h
  rfl
/-! ### list(range(a, b, c)) -/
def tLstRg3 (ta : TA) : TE := fun σ H Q => ta σ H fun vs H1 => ∃ (i j c : Int) (n : Nat), vs = [.int i, .int j, .int c] ∧ RgC i j c n ∧ n ≤ 2 ^ 24 ∧ ∀ q, H1 q = none → Q (.ref q) (upd H1 q (.lst ((List.range n).map fun k => V.int (i + (k : Nat) * c))))
theorem pe_listRg3 {X : Cx} {a b c : Expr} {ta : TA} {p p2 q pos : Pos} (hc : X.calm = true) (hg : Gl X "list") (hm : X.mg "list" = none) (hg2 : Gl X "range") (hm2 : X.mg "range" = none) (ha : PA X [a, b, c] ta)
    (hs : starEach [a, b, c] X.env = (false, eval a X.env) :: starEach [b, c] X.env := by rfl) (hpl : (backTo q (starEach [b, c] X.env)).any (·.1) = false := by rfl)
    (na : starEach [Expr.Call (.Name "range" p2) [a, b, c] [] q] X.env = (false, eval (Expr.Call (.Name "range" p2) [a, b, c] [] q) X.env) :: starEach [] X.env := by rfl) :
    PE X (.Call (.Name "list" p) [.Call (.Name "range" p2) [a, b, c] [] q] [] pos) (tLstRg3 ta) := by
  refine ⟨fun pins s σ H Q I h => Call_ (ld_blt I hg hm boot_list (PyProof.Rows.callWith_type1 (PyProof.Rows.args_cons ?_ na) na))⟩
  refine Call_ (ld_blt I hg2 hm2 boot_range (PyProof.Rows.callWith_type1 (thn (ha.run q pins s σ H _ I h) fun us s1 ⟨vs, H1, I1, r1, i, j, k, n, e, ⟨c0, c1, c2, c3⟩, hn, q1⟩ => ?_) hs hpl))
  subst e
  cases r1 with
  | cons r rr => cases rr with
    | cons r' rr => cases rr with
      | cons r'' rr =>
        cases rr
        obtain ⟨t, rfl⟩ := r
        obtain ⟨t', rfl⟩ := r'
        obtain ⟨t'', rfl⟩ := r''
        refine call_range_3 c0 (PyProof.Rows.args_nil ?_) (.inl (PyProof.noPylong_small c1))
        have I2 : Inv X pins σ H1 { s1 with heap := s1.heap.push { cls := .type "range", data := .fields #[.int i t, .int j t', .int k t''] } } := I1.kept (t' := s1.toks) fun b o e => Heap.get?_push_of_some _ e
        refine call_list_range (n := n) (I2.ok.hd hc) (IsRange.new ..) c2 c3 hn fun h' tk acc c' hk e' hi => ?_
        have hv : Vals ((List.range n).map fun k' => V.int (i + (k' : Nat) * k)) acc.toList := by
          have el : acc.toList.length = n := by
            rw [Array.length_toList]
            exact hi.1
          rw [← el]
          refine vals_of_get acc.toList _ fun m u hu => ?_
          obtain ⟨tt, z⟩ := hi.2 m u (by rw [← hu, Array.getElem?_toList])
          exact ⟨tt, z⟩
        refine ⟨.ref _, _, I2.laid hk (Nat.le_refl _) (show ObjOk X.prog X.w _ _ _ (.lst ((List.range n).map fun k' => V.int (i + (k' : Nat) * k))) from ⟨?_, acc.toList, c', hv, ?_⟩), rfl, q1 _ (I2.hok.fresh (Nat.le_refl _))⟩
        · rw [List.length_map, List.length_range, sizeLine_eq]
          omega
        · rw [Array.toArray_toList]
          exact e'
def sp_stands_ahead (K : PySem.W.Frag) : Sp := fun vs H _ E => ∃ v : V, vs = [v] ∧ SmA H v ∧ isPl v 60 = false ∧ E (.ref (He.ga K "NoLength")) none H
abbrev N_stands_ahead : List Str := ["length", "stands"]
def t_stands_ahead (K : PySem.W.Frag) (E : XK) : TS := (tSeq (tDrop (tCall (sp_check_length K) [] E (tCons (tVar 0) tNil)))
  (tSeq (tIfS (tTest (tOp rEq (tVar 0) (tC (.int 1)))) (tRet (tLst tNil)) tNext)
  (tSeq (tAsg (tLstRg3 (tCons (tC (.int 1)) (tCons (tOp (rI0 fun i j => .int (i + j)) (tVar 0) (tC (.int 1))) (tCons (tC (.int 2)) tNil)))) (gName 1))
  (Evl.tCut (tIfS (tTest (tOp rEq (tOp (rI (fun _ j => 0 < j) fun i j => .int (i % j)) (tVar 0) (tC (.int 2))) (tC (.int 0)))) (tDrop (tBM K "list" rAppend (tVar 1) (tCons (tVar 0) tNil))) tNext)
  (tRet (tVar 1))))))
theorem pure_stands_ahead {K : PySem.W.Frag} {vs : List V} {H : Hp} {Q : VK} {E : XK} (h : sp_stands_ahead K vs H Q E) : t_stands_ahead K E { nx := fun _ H' => Q .non H', rt := Q } (start N_stands_ahead vs) H := by
  obtain ⟨v, rfl, s, b, q⟩ := h
  exact seq_drop (call1 rfl (cl_bad s b q))
theorem len_stands_ahead {K : PySem.W.Frag} {vs : List V} {H : Hp} {Q : VK} {E : XK} (h : sp_stands_ahead K vs H Q E) : vs.length = 1 := by
  obtain ⟨v, rfl, _⟩ := h
  rfl
def sp_fewest_ahead (K : PySem.W.Frag) : Sp := fun vs H _ E => ∃ v : V, vs = [v] ∧ SmA H v ∧ isPl v 60 = false ∧ E (.ref (He.ga K "NoLength")) none H
abbrev N_fewest_ahead : List Str := ["length"]
def t_fewest_ahead (K : PySem.W.Frag) (E : XK) : TS := (tRet (tCB (rLenQ K) (tCons (tCall (sp_stands_ahead K) [] E (tCons (tVar 0) tNil)) tNil)))
theorem pure_fewest_ahead {K : PySem.W.Frag} {vs : List V} {H : Hp} {Q : VK} {E : XK} (h : sp_fewest_ahead K vs H Q E) : t_fewest_ahead K E { nx := fun _ H' => Q .non H', rt := Q } (start N_fewest_ahead vs) H := by
  obtain ⟨v, rfl, s, b, q⟩ := h
  exact ⟨_, rfl, v, rfl, s, b, q⟩
theorem len_fewest_ahead {K : PySem.W.Frag} {vs : List V} {H : Hp} {Q : VK} {E : XK} (h : sp_fewest_ahead K vs H Q E) : vs.length = 1 := by
  obtain ⟨v, rfl, _⟩ := h
  rfl
/-! ### going on as one is answered -/
def cost (st : Bool) (p q : Int) : Nat := if st then (ab (p - q)).toNat else 1
theorem cost_pos {st : Bool} {p q : Int} (h : q ≠ p) : 1 ≤ cost st p q := by
  unfold cost ab
  split
  · split <;> omega
  · omega
/-- the places from a to b at which w is answered to a move from p to q are those from c to d -/
def IsCut (a b p q : Int) (w : Wo) (c d : Int) : Prop := c ≤ d ∧ ∀ t, (c ≤ t ∧ t ≤ d) ↔ (a ≤ t ∧ t ≤ b ∧ mv t p q = w)
/-- n further stands (steps) are enough -/
inductive En (st : Bool) (L : Int) : Nat → Int → Int → Int → Prop
  | one {n : Nat} {a p : Int} : En st L n a a p
  | go {n : Nat} {a b p : Int} (q : Int) (h1 : 1 ≤ q) (h2 : q ≤ L) (ne : q ≠ p) (hc : cost st p q ≤ n) (h : ∀ w c d, IsCut a b p q w c d → En st L (n - cost st p q) c d q) : En st L n a b p
theorem IsCut.inj {a b p q c d c' d' : Int} {w : Wo} (h : IsCut a b p q w c d) (h' : IsCut a b p q w c' d') : c = c' ∧ d = d' := by
  have h1 := ((h'.2 c).mpr ((h.2 c).mp ⟨by omega, h.1⟩))
  have h2 := ((h'.2 d).mpr ((h.2 d).mp ⟨h.1, by omega⟩))
  have h3 := ((h.2 c').mpr ((h'.2 c').mp ⟨by omega, h'.1⟩))
  have h4 := ((h.2 d').mpr ((h'.2 d').mp ⟨h'.1, by omega⟩))
  omega
theorem IsCut.sub {a b p q c d : Int} {w : Wo} (h : IsCut a b p q w c d) : a ≤ c ∧ d ≤ b := by
  have h1 := (h.2 c).mp ⟨by omega, h.1⟩
  have h2 := (h.2 d).mp ⟨h.1, by omega⟩
  omega
/-- some places are a stretch: by the first and the last -/
theorem cut_of {a b p q t : Int} {w : Wo} (h1 : a ≤ t) (h2 : t ≤ b) (h3 : mv t p q = w) : ∃ c d, IsCut a b p q w c d ∧ c ≤ t ∧ t ≤ d := by
  obtain ⟨c, d, e⟩ := rng_convex (p := fun t => decide (mv t p q = w)) (fun x y z h1 h2 hx hz => decide_eq_true (mv_convex w p q x y z h1 h2 (of_decide_eq_true hx) (of_decide_eq_true hz))) _ a (b + 1) rfl
  have key : ∀ t, (c ≤ t ∧ t < d) ↔ (a ≤ t ∧ t ≤ b ∧ mv t p q = w) := fun t => by
    rw [← mem_rng, ← e, List.mem_filter, mem_rng, decide_eq_true_iff]
    constructor
    · rintro ⟨⟨x1, x2⟩, x3⟩
      exact ⟨x1, by omega, x3⟩
    · rintro ⟨x1, x2, x3⟩
      exact ⟨⟨x1, by omega⟩, x3⟩
  have ht := (key t).mpr ⟨h1, h2, h3⟩
  refine ⟨c, d - 1, ⟨by omega, fun x => ?_⟩, by omega, by omega⟩
  rw [← key x]
  constructor <;> intro z <;> omega
theorem En.mono {st : Bool} {L : Int} {n : Nat} {a b p : Int} (h : En st L n a b p) : ∀ {m : Nat}, n ≤ m → En st L m a b p := by
  induction h with
  | one => intro m _; exact .one
  | go q h1 h2 ne hc h ih =>
    intro m hm
    exact .go q h1 h2 ne (by omega) fun w c d hcut => ih w c d hcut (by omega)
theorem En.less {st : Bool} {L : Int} {n : Nat} {a b p : Int} (h : En st L n a b p) : ∀ {c d : Int}, a ≤ c → c ≤ d → d ≤ b → En st L n c d p := by
  induction h with
  | one =>
    intro c d h1 h2 h3
    rw [show c = d by omega]
    exact .one
  | go q h1 h2 ne hc h ih =>
    intro c d g1 g2 g3
    refine .go q h1 h2 ne hc fun w x y hcut => ?_
    have hx := (hcut.2 x).mp ⟨by omega, hcut.1⟩
    have hy := (hcut.2 y).mp ⟨hcut.1, by omega⟩
    obtain ⟨c', d', hc', r1, r2⟩ := cut_of (a := _) (b := _) (t := x) (p := _) (q := q) (w := w) (Int.le_trans g1 hx.1) (Int.le_trans hx.2.1 g3) hx.2.2
    have hy' := (hc'.2 y).mpr ⟨by omega, by omega, hy.2.2⟩
    exact ih w c' d' hc' r1 hcut.1 hy'.2
theorem IsCut.mirror {a b p q c d L : Int} {w : Wo} (h : IsCut a b p q w c d) : IsCut (L - b) (L - a) (L - p) (L - q) w (L - d) (L - c) := by
  refine ⟨by have := h.1; omega, fun t => ?_⟩
  have e := h.2 (L - t)
  have e2 : mv t (L - p) (L - q) = mv (L - t) p q := by
    have := mv_mirror L (L - t) p q
    rw [show L - (L - t) = t by omega] at this
    exact this
  rw [e2]
  constructor
  · intro z
    have := e.mp ⟨by omega, by omega⟩
    exact ⟨by omega, by omega, this.2.2⟩
  · intro z
    have := e.mpr ⟨by omega, by omega, z.2.2⟩
    omega
theorem cost_mirror (st : Bool) (L p q : Int) : cost st (L - p) (L - q) = cost st p q := by
  unfold cost ab
  split
  · split <;> split <;> omega
  · rfl
theorem En.mirror {st : Bool} {L : Int} {n : Nat} {a b p : Int} (h : En st L n a b p) : En st L n (L + 1 - b) (L + 1 - a) (L + 1 - p) := by
  induction h with
  | one => exact .one
  | go q h1 h2 ne hc h ih =>
    refine .go (L + 1 - q) (by omega) (by omega) (by omega) (by rw [cost_mirror]; exact hc) fun w c d hcut => ?_
    rw [cost_mirror]
    have hm := hcut.mirror (L := L + 1)
    have key : ∀ x : Int, L + 1 - (L + 1 - x) = x := fun x => by omega
    simp only [key] at hm
    have := ih w _ _ hm
    rw [show L + 1 - (L + 1 - c) = c by omega, show L + 1 - (L + 1 - d) = d by omega] at this
    exact this
theorem En.mirror_iff {st : Bool} {L : Int} {n : Nat} {a b p : Int} : En st L n (L + 1 - b) (L + 1 - a) (L + 1 - p) ↔ En st L n a b p := by
  refine ⟨fun h => ?_, fun h => h.mirror⟩
  have := h.mirror
  rw [show L + 1 - (L + 1 - a) = a by omega, show L + 1 - (L + 1 - b) = b by omega, show L + 1 - (L + 1 - p) = p by omega] at this
  exact this
/-- steps are stands -/
theorem En.stands {L : Int} {n : Nat} {a b p : Int} (h : En true L n a b p) : En false L n a b p := by
  induction h with
  | one => exact .one
  | go q h1 h2 ne hc h ih =>
    have hp := cost_pos (st := true) ne
    refine .go q h1 h2 ne (by show 1 ≤ _; omega) fun w c d hcut => (ih w c d hcut).mono (by show _ ≤ _ - 1; omega)
theorem mv_next (t c : Int) : mv t c (c + 1) = if t ≤ c then .cold else .warm := by
  unfold mv word ab
  repeat' split
  all_goals first | rfl | (exfalso; omega)
theorem cost_next (st : Bool) (c : Int) : cost st c (c + 1) = 1 := by
  unfold cost ab
  split
  · split <;> omega
  · rfl
/-- from the low end on, place by place -/
theorem en_low {st : Bool} {L : Int} : ∀ (m : Nat) (c d : Int), 1 ≤ c → d ≤ L → (d - c).toNat = m → c ≤ d → En st L m c d c
  | 0, c, d, _, _, h, h' => by
    rw [show c = d by omega]
    exact .one
  | m + 1, c, d, h1, h2, h3, h4 => by
    refine .go (c + 1) (by omega) (by omega) (by omega) (by rw [cost_next]; omega) fun w x y hcut => ?_
    rw [cost_next]
    show En st L m x y (c + 1)
    have hx := (hcut.2 x).mp ⟨by omega, hcut.1⟩
    have hy := (hcut.2 y).mp ⟨hcut.1, by omega⟩
    have e := hx.2.2.trans hy.2.2.symm
    rw [mv_next, mv_next] at e
    by_cases hxc : x ≤ c
    · have : y ≤ c := by
        by_cases z : y ≤ c
        · exact z
        · rw [if_pos hxc, if_neg z] at e
          cases e
      rw [show x = y by omega]
      exact .one
    · exact (en_low m (c + 1) d (by omega) h2 (by omega) (by omega)).less (by omega) hcut.1 hy.2.1
theorem cost_le {st : Bool} {L p q : Int} (h1 : 1 ≤ p) (h2 : p ≤ L) (h3 : 1 ≤ q) (h4 : q ≤ L) (ne : q ≠ p) : cost st p q ≤ (L - 1).toNat := by
  unfold cost ab
  split
  · split <;> omega
  · omega
theorem en_some {st : Bool} {L : Int} : ∀ (m : Nat) (a b p : Int), 1 ≤ a → a ≤ b → b ≤ L → 1 ≤ p → p ≤ L → (b - a).toNat = m → En st L (m * (L - 1).toNat + 1) a b p
  | m, a, b, p, h1, h2, h3, h4, h5, hm => by
    by_cases hab : a = b
    · rw [hab]
      exact .one
    · have hC : 1 ≤ (L - 1).toNat := by omega
      have hmC : m ≤ m * (L - 1).toNat := Nat.le_mul_of_pos_right _ hC
      by_cases hpa : p = a
      · rw [hpa]
        exact (en_low m a b h1 h3 hm h2).mono (by omega)
      · have hcost : cost st p a ≤ (L - 1).toNat := cost_le h4 h5 h1 (by omega) (fun z => hpa z.symm)
        obtain ⟨k, hk⟩ : ∃ k, m = k + 1 := ⟨m - 1, by omega⟩
        have hsm : m * (L - 1).toNat = k * (L - 1).toNat + (L - 1).toNat := by rw [hk, Nat.succ_mul]
        have hkC : k ≤ k * (L - 1).toNat := Nat.le_mul_of_pos_right _ hC
        refine .go a h1 (by omega) (fun z => hpa z.symm) (by omega) fun w c d hcut => ?_
        have hs := hcut.sub
        have hcd := hcut.1
        have hrem : k * (L - 1).toNat + 1 ≤ m * (L - 1).toNat + 1 - cost st p a := by omega
        by_cases hca : c = a
        · rw [hca]
          exact (en_low _ a d h1 (by omega) rfl (by omega)).mono (Nat.le_trans (show _ ≤ k + 1 by omega) (by omega))
        · have hlt : (d - c).toNat ≤ k := by omega
          refine (en_some (d - c).toNat c d a (by omega) hcd (by omega) h1 (by omega) rfl).mono (Nat.le_trans ?_ hrem)
          have := Nat.mul_le_mul_right (L - 1).toNat hlt
          omega
  termination_by m => m
/-- by q so few are enough -/
def Good (st : Bool) (L : Int) (n : Nat) (a b p q : Int) : Prop := cost st p q ≤ n ∧ ∀ w c d, IsCut a b p q w c d → En st L (n - cost st p q) c d q
/-- n is the least number that is enough -/
def LeastN (st : Bool) (L a b p : Int) (n : Nat) : Prop := En st L n a b p ∧ ∀ k, k < n → ¬ En st L k a b p
theorem LeastN.inj {st : Bool} {L a b p : Int} {n m : Nat} (h : LeastN st L a b p n) (h' : LeastN st L a b p m) : n = m := by
  rcases Nat.lt_trichotomy n m with z | z | z
  · exact absurd h.1 (h'.2 n z)
  · exact z
  · exact absurd h'.1 (h.2 m z)
theorem LeastN.le {st : Bool} {L a b p : Int} {n m : Nat} (h : LeastN st L a b p n) (e : En st L m a b p) : n ≤ m := by
  by_cases z : n ≤ m
  · exact z
  · exact absurd e (h.2 m (by omega))
theorem LeastN.iff {st : Bool} {L a b p : Int} {n m : Nat} (h : LeastN st L a b p n) : En st L m a b p ↔ n ≤ m := ⟨h.le, fun z => h.1.mono z⟩
theorem least_of {st : Bool} {L a b p : Int} : ∀ (m : Nat), En st L m a b p → ∃ n, n ≤ m ∧ LeastN st L a b p n
  | 0, h => ⟨0, Nat.le_refl _, h, fun k hk => absurd hk (Nat.not_lt_zero k)⟩
  | m + 1, h => by
    by_cases z : En st L m a b p
    · obtain ⟨n, h1, h2⟩ := least_of m z
      exact ⟨n, by omega, h2⟩
    · exact ⟨m + 1, Nat.le_refl _, h, fun k hk e => z (e.mono (by omega))⟩
theorem least_ex {st : Bool} {L a b p : Int} (h1 : 1 ≤ a) (h2 : a ≤ b) (h3 : b ≤ L) (h4 : 1 ≤ p) (h5 : p ≤ L) : ∃ n, n ≤ (b - a).toNat * (L - 1).toNat + 1 ∧ LeastN st L a b p n :=
  least_of _ (en_some _ a b p h1 h2 h3 h4 h5 rfl)
theorem LeastN.self {st : Bool} {L a p : Int} : LeastN st L a a p 0 := ⟨.one, fun k hk => absurd hk (Nat.not_lt_zero k)⟩
theorem LeastN.pos {st : Bool} {L a b p : Int} {n : Nat} (h : LeastN st L a b p n) (hab : a < b) : 1 ≤ n := by
  cases n with
  | zero =>
    obtain ⟨e, _⟩ := h
    cases e with
    | one => omega
    | go q _ _ ne hc _ =>
      have := cost_pos (st := st) ne
      omega
  | succ n => omega
theorem en_good {st : Bool} {L a b p : Int} {n : Nat} (hab : a < b) : En st L n a b p ↔ ∃ q, (1 ≤ q ∧ q ≤ L) ∧ q ≠ p ∧ Good st L n a b p q := by
  constructor
  · intro h
    cases h with
    | one => omega
    | go q h1 h2 ne hc h => exact ⟨q, ⟨h1, h2⟩, ne, hc, h⟩
  · rintro ⟨q, ⟨h1, h2⟩, ne, hc, h⟩
    exact .go q h1 h2 ne hc h
/-- what is told: the least number, and the first other place by which so few are enough -/
def Told (st : Bool) (L a b p : Int) (n : Nat) (v : V) : Prop :=
  (a = b ∧ n = 0 ∧ v = .non) ∨ (a < b ∧ LeastN st L a b p n ∧ ∃ q, v = .int q ∧ (1 ≤ q ∧ q ≤ L) ∧ q ≠ p ∧ Good st L n a b p q ∧ ∀ r, 1 ≤ r → r < q → r ≠ p → ¬ Good st L n a b p r)
theorem Told.least {st : Bool} {L a b p : Int} {n : Nat} {v : V} (h : Told st L a b p n v) : LeastN st L a b p n := by
  rcases h with ⟨rfl, rfl, _⟩ | ⟨_, h, _⟩
  · exact LeastN.self
  · exact h
theorem Told.inj {st : Bool} {L a b p : Int} {n m : Nat} {v u : V} (h : Told st L a b p n v) (h' : Told st L a b p m u) : n = m ∧ v = u := by
  have e := h.least.inj h'.least
  subst e
  refine ⟨rfl, ?_⟩
  rcases h with ⟨e1, _, e2⟩ | ⟨e1, _, q, e2, h1, h2, h3, h4⟩
  · rcases h' with ⟨_, _, e3⟩ | ⟨z, _⟩
    · rw [e2, e3]
    · omega
  · rcases h' with ⟨z, _⟩ | ⟨_, _, q', e2', h1', h2', h3', h4'⟩
    · omega
    · rcases Int.lt_trichotomy q q' with z | z | z
      · exact absurd h3 (h4' q h1.1 z h2)
      · rw [e2, e2', z]
      · exact absurd h3' (h4 q' h1'.1 z h2')
/-- what q costs, whatever is answered -/
def WorstN (st : Bool) (L a b p q : Int) (m : Nat) : Prop := (∀ w c d, IsCut a b p q w c d → En st L m c d q) ∧ ∃ w c d, IsCut a b p q w c d ∧ LeastN st L c d q m
theorem WorstN.good {st : Bool} {L a b p q : Int} {m n : Nat} (h : WorstN st L a b p q m) : Good st L n a b p q ↔ m + cost st p q ≤ n := by
  constructor
  · rintro ⟨h1, h2⟩
    obtain ⟨w, c, d, h3, h4⟩ := h.2
    have := h4.le (h2 w c d h3)
    omega
  · intro z
    exact ⟨by omega, fun w c d hc => (h.1 w c d hc).mono (by omega)⟩
/-! ### cuts as lists; a check that can be reckoned; the told places followed -/
def cutL (a b p q : Int) (w : Wo) : List Int := (rng a (b + 1)).filter fun t => decide (mv t p q = w)
theorem mem_cutL {a b p q t : Int} {w : Wo} : t ∈ cutL a b p q w ↔ a ≤ t ∧ t ≤ b ∧ mv t p q = w := by
  unfold cutL
  rw [List.mem_filter, mem_rng, decide_eq_true_iff]
  constructor
  · rintro ⟨⟨x1, x2⟩, x3⟩
    exact ⟨x1, by omega, x3⟩
  · rintro ⟨x1, x2, x3⟩
    exact ⟨⟨x1, by omega⟩, x3⟩
theorem IsCut.list {a b p q c d : Int} {w : Wo} (h : IsCut a b p q w c d) : cutL a b p q w = rng c (d + 1) := by
  obtain ⟨c', d', e⟩ := rng_convex (p := fun t => decide (mv t p q = w)) (fun x y z h1 h2 hx hz => decide_eq_true (mv_convex w p q x y z h1 h2 (of_decide_eq_true hx) (of_decide_eq_true hz))) _ a (b + 1) rfl
  have e' : cutL a b p q w = rng c' d' := e
  have key : ∀ t, (c' ≤ t ∧ t < d') ↔ (c ≤ t ∧ t ≤ d) := fun t => by
    rw [← mem_rng, ← e', mem_cutL]
    exact (h.2 t).symm
  have hcd := h.1
  have k1 := (key c).mpr ⟨by omega, hcd⟩
  have k2 := (key d).mpr ⟨hcd, by omega⟩
  have k3 := (key c').mp ⟨by omega, by omega⟩
  have k4 := (key (d' - 1)).mp ⟨by omega, by omega⟩
  rw [e', show c' = c by omega, show d' = d + 1 by omega]
theorem rng_ends {c d : Int} (h : c ≤ d) : (rng c (d + 1)).head? = some c ∧ (rng c (d + 1)).getLast? = some d := by
  constructor
  · rw [rng_cons (by omega)]
    rfl
  · rw [rng_snoc h, List.getLast?_append]
    rfl
theorem cut_ends {a b p q : Int} {w : Wo} {c d : Int} : IsCut a b p q w c d ↔ (cutL a b p q w).head? = some c ∧ (cutL a b p q w).getLast? = some d := by
  constructor
  · intro h
    rw [h.list]
    exact rng_ends h.1
  · rintro ⟨h1, h2⟩
    have hc := mem_cutL.mp (List.mem_of_mem_head? h1)
    obtain ⟨c', d', hcut, r1, r2⟩ := cut_of hc.1 hc.2.1 hc.2.2
    rw [hcut.list] at h1 h2
    obtain ⟨g1, g2⟩ := rng_ends hcut.1
    rw [g1] at h1
    rw [g2] at h2
    rw [← Option.some.inj h1, ← Option.some.inj h2]
    exact hcut
def allW : List Wo := [.warm, .cold, .same]
theorem mem_allW (w : Wo) : w ∈ allW := by
  cases w <;> decide
def enB (st : Bool) (L : Int) : Nat → Nat → Int → Int → Int → Bool
  | 0, _, a, b, _ => decide (a = b)
  | f + 1, n, a, b, p => decide (a = b) || (rng 1 (L + 1)).any fun q => decide (q ≠ p) && (decide (cost st p q ≤ n) && allW.all fun w => match (cutL a b p q w).head?, (cutL a b p q w).getLast? with
    | some c, some d => enB st L f (n - cost st p q) c d q
    | _, _ => true)
theorem enB_iff {st : Bool} {L : Int} : ∀ (f n : Nat) (a b p : Int), n ≤ f → (enB st L f n a b p = true ↔ En st L n a b p)
  | 0, n, a, b, p, h => by
    show decide (a = b) = true ↔ _
    rw [decide_eq_true_iff]
    constructor
    · rintro rfl
      exact .one
    · intro z
      cases z with
      | one => rfl
      | go q _ _ ne hc _ =>
        have := cost_pos (st := st) ne
        omega
  | f + 1, n, a, b, p, h => by
    unfold enB
    rw [Bool.or_eq_true, decide_eq_true_iff, List.any_eq_true]
    constructor
    · rintro (rfl | ⟨q, hq, z⟩)
      · exact .one
      · rw [Bool.and_eq_true, Bool.and_eq_true, decide_eq_true_iff, decide_eq_true_iff, List.all_eq_true] at z
        obtain ⟨ne, hc, hall⟩ := z
        have hr := mem_rng.mp hq
        refine .go q hr.1 (by omega) ne hc fun w c d hcut => ?_
        have z := hall w (mem_allW w)
        obtain ⟨g1, g2⟩ := cut_ends.mp hcut
        rw [g1, g2] at z
        have := cost_pos (st := st) ne
        exact (enB_iff f _ c d q (by omega)).mp z
    · intro z
      cases z with
      | one => exact .inl rfl
      | go q h1 h2 ne hc h3 =>
        refine .inr ⟨q, mem_rng.mpr ⟨h1, by omega⟩, ?_⟩
        rw [Bool.and_eq_true, Bool.and_eq_true, decide_eq_true_iff, decide_eq_true_iff, List.all_eq_true]
        refine ⟨ne, hc, fun w _ => ?_⟩
        have := cost_pos (st := st) ne
        cases g1 : (cutL a b p q w).head? with
        | none => rfl
        | some c =>
          cases g2 : (cutL a b p q w).getLast? with
          | none => rfl
          | some d => exact (enB_iff f _ c d q (by omega)).mpr (h3 w c d (cut_ends.mpr ⟨g1, g2⟩))
theorem en_by {st : Bool} {L : Int} {n : Nat} {a b p : Int} (h : enB st L n n a b p = true) : En st L n a b p := (enB_iff n n a b p (Nat.le_refl n)).mp h
theorem not_en_by {st : Bool} {L : Int} {n : Nat} {a b p : Int} (h : enB st L n n a b p = false) : ¬ En st L n a b p := fun z => by
  have := (enB_iff n n a b p (Nat.le_refl n)).mpr z
  rw [h] at this
  cases this
/-- the told places followed from p for the thing t cost s -/
inductive Fol (st : Bool) (L t : Int) : Int → Int → Int → Nat → Prop
  | one {a p : Int} : Fol st L t a a p 0
  | go {a b p q c d : Int} {n s : Nat} (hab : a < b) (ht : Told st L a b p n (.int q)) (hc : IsCut a b p q (mv t p q) c d) (h : Fol st L t c d q s) : Fol st L t a b p (cost st p q + s)
theorem Fol.le {st : Bool} {L t : Int} {a b p : Int} {s : Nat} (h : Fol st L t a b p s) : ∀ {n : Nat}, LeastN st L a b p n → s ≤ n := by
  induction h with
  | one => intro n _; exact Nat.zero_le _
  | go hab ht hc h ih =>
    intro n hn
    have e := ht.least.inj hn
    subst e
    rcases ht with ⟨z, _⟩ | ⟨_, _, q', e, _, _, hg, _⟩
    · omega
    · cases e
      obtain ⟨m, hm, hl⟩ := least_of _ (hg.2 _ _ _ hc)
      have := ih hl
      have := hg.1
      omega
/-- some cut costs as much as is told -/
theorem Told.worst {st : Bool} {L a b p q : Int} {n : Nat} (h : Told st L a b p n (.int q)) (hab : a < b) : ∃ w c d, IsCut a b p q w c d ∧ LeastN st L c d q (n - cost st p q) := by
  rcases h with ⟨z, _⟩ | ⟨_, hl, q', e, hq, ne, hg, _⟩
  · omega
  · cases e
    have hp := cost_pos (st := st) ne
    apply Classical.byContradiction
    intro hno
    have hall : ∀ w c d, IsCut a b p q w c d → n - cost st p q ≠ 0 → En st L (n - cost st p q - 1) c d q := fun w c d hc hz => by
      obtain ⟨m, hm, hm2⟩ := least_of _ (hg.2 w c d hc)
      by_cases z : m = n - cost st p q
      · rw [z] at hm2
        exact absurd ⟨w, c, d, hc, hm2⟩ hno
      · exact hm2.1.mono (by omega)
    by_cases hz : n - cost st p q = 0
    · obtain ⟨c, d, hc, _, _⟩ := cut_of (a := a) (b := b) (p := p) (q := q) (t := a) (Int.le_refl a) (by omega) rfl
      refine hno ⟨_, c, d, hc, ?_⟩
      rw [hz]
      refine ⟨?_, fun k hk => absurd hk (Nat.not_lt_zero k)⟩
      have := hg.2 _ c d hc
      rw [hz] at this
      exact this
    · refine hl.2 (n - 1) (by have := hg.1; omega) (.go q hq.1 hq.2 ne (by omega) fun w c d hc => ?_)
      have := hall w c d hc hz
      rw [show n - 1 - cost st p q = n - cost st p q - 1 by omega]
      exact this
theorem told_ex {st : Bool} {L a b p : Int} (h1 : 1 ≤ a) (h2 : a ≤ b) (h3 : b ≤ L) (h4 : 1 ≤ p) (h5 : p ≤ L) : ∃ n v, Told st L a b p n v := by
  by_cases hab : a = b
  · exact ⟨0, .non, .inl ⟨hab, rfl, rfl⟩⟩
  · have hlt : a < b := by omega
    obtain ⟨n, _, hn⟩ := least_ex (st := st) h1 h2 h3 h4 h5
    obtain ⟨q, hq, ne, hg⟩ := (en_good hlt).mp hn.1
    have key : ∀ (m : Nat) (q : Int), q.toNat = m → 1 ≤ q → q ≤ L → q ≠ p → Good st L n a b p q → ∃ r, (1 ≤ r ∧ r ≤ L) ∧ r ≠ p ∧ Good st L n a b p r ∧ ∀ x, 1 ≤ x → x < r → x ≠ p → ¬ Good st L n a b p x := by
      intro m
      induction m using Nat.strongRecOn with
      | ind m ih =>
        intro q hm h1 h2 ne hg
        by_cases z : ∃ x, 1 ≤ x ∧ x < q ∧ x ≠ p ∧ Good st L n a b p x
        · obtain ⟨x, x1, x2, x3, x4⟩ := z
          exact ih x.toNat (by omega) x rfl x1 (by omega) x3 x4
        · exact ⟨q, ⟨h1, h2⟩, ne, hg, fun x x1 x2 x3 x4 => z ⟨x, x1, x2, x3, x4⟩⟩
    obtain ⟨r, hr⟩ := key _ q rfl hq.1 hq.2 ne hg
    exact ⟨n, .int r, .inr ⟨hlt, hn, r, rfl, hr⟩⟩
/-- every thing is found so, and some thing costs just what is told -/
theorem fol_ex {st : Bool} {L : Int} : ∀ (n : Nat) {a b p : Int}, 1 ≤ a → a ≤ b → b ≤ L → 1 ≤ p → p ≤ L → LeastN st L a b p n → (∀ t, a ≤ t → t ≤ b → ∃ s, Fol st L t a b p s) ∧ ∃ t, (a ≤ t ∧ t ≤ b) ∧ Fol st L t a b p n := by
  intro n
  induction n using Nat.strongRecOn with
  | ind n ih =>
    intro a b p h1 h2 h3 h4 h5 hl
    by_cases hab : a = b
    · subst hab
      have e : n = 0 := hl.inj LeastN.self
      subst e
      exact ⟨fun t ht1 ht2 => ⟨0, .one⟩, a, ⟨by omega, by omega⟩, .one⟩
    · have hlt : a < b := by omega
      obtain ⟨m, v, ht⟩ := told_ex (st := st) h1 h2 h3 h4 h5
      have e := ht.least.inj hl
      subst e
      rcases id ht with ⟨z, _⟩ | ⟨_, _, q, rfl, hq, ne, hg, _⟩
      · omega
      · have hp := cost_pos (st := st) ne
        constructor
        · intro t ht1 ht2
          obtain ⟨c, d, hc, r1, r2⟩ := cut_of (p := p) (q := q) ht1 ht2 rfl
          have hs := hc.sub
          obtain ⟨k, hk, hk2⟩ := least_of _ (hg.2 _ _ _ hc)
          have := hg.1
          obtain ⟨s, hf⟩ := (ih k (by omega) (by omega) hc.1 (by omega) hq.1 hq.2 hk2).1 t r1 r2
          exact ⟨_, .go hlt ht hc hf⟩
        · obtain ⟨w, c, d, hc, hw⟩ := ht.worst hlt
          have hs := hc.sub
          have := hg.1
          obtain ⟨t, ⟨r1, r2⟩, hf⟩ := (ih (m - cost st p q) (by omega) (by omega) hc.1 (by omega) hq.1 hq.2 hw).2
          have hmv := (hc.2 t).mp ⟨r1, r2⟩
          have hc' : IsCut a b p q (mv t p q) c d := by
            rw [hmv.2.2]
            exact hc
          refine ⟨t, ⟨hmv.1, hmv.2.1⟩, ?_⟩
          have := Fol.go hlt ht hc' hf
          rw [show cost st p q + (m - cost st p q) = m by omega] at this
          exact this
theorem Fol.inj {st : Bool} {L t : Int} {a b p : Int} {s : Nat} (h : Fol st L t a b p s) : ∀ {s' : Nat}, Fol st L t a b p s' → s = s' := by
  induction h with
  | one =>
    intro s' h'
    cases h' with
    | one => rfl
    | go hab _ _ _ => omega
  | go hab ht hc h ih =>
    intro s' h'
    cases h' with
    | one => omega
    | go hab' ht' hc' h2 =>
      obtain ⟨_, e⟩ := ht.inj ht'
      cases e
      obtain ⟨e1, e2⟩ := hc.inj hc'
      subst e1
      subst e2
      rw [ih h2]
/-! ### the parts that a move can leave, and how many steps are least -/
/-- the three parts, empty ones among them -/
def parts3 (a b p q : Int) : List (Int × Int) := [(a, min b ((p + q - 1) / 2)), (max a ((p + q + 1) / 2), min b ((p + q) / 2)), (max a ((p + q) / 2 + 1), b)]
def partsOf (a b p q : Int) : List (Int × Int) := (parts3 a b p q).filter fun z => decide (z.1 ≤ z.2)
theorem mv_low {t p q : Int} (h : p < q) : mv t p q = if 2 * t < p + q then .cold else if 2 * t = p + q then .same else .warm := by
  unfold mv word ab
  repeat' split
  all_goals first | rfl | (exfalso; omega)
theorem mv_high {t p q : Int} (h : q < p) : mv t p q = if 2 * t < p + q then .warm else if 2 * t = p + q then .same else .cold := by
  unfold mv word ab
  repeat' split
  all_goals first | rfl | (exfalso; omega)
theorem mem_parts {a b p q c d : Int} : (c, d) ∈ partsOf a b p q ↔ c ≤ d ∧ ((c = a ∧ d = min b ((p + q - 1) / 2)) ∨ (c = max a ((p + q + 1) / 2) ∧ d = min b ((p + q) / 2)) ∨ (c = max a ((p + q) / 2 + 1) ∧ d = b)) := by
  unfold partsOf parts3
  rw [List.mem_filter]
  simp only [List.mem_cons, List.not_mem_nil, or_false, Prod.mk.injEq, decide_eq_true_eq]
  constructor
  · rintro ⟨h1, h2⟩
    exact ⟨h2, h1⟩
  · rintro ⟨h1, h2⟩
    exact ⟨h2, h1⟩
/-- the word that is answered in a part -/
def wLow (p q : Int) : Wo := if p < q then .cold else .warm
def wHigh (p q : Int) : Wo := if p < q then .warm else .cold
theorem mv_wLow {t p q : Int} (ne : q ≠ p) : mv t p q = wLow p q ↔ 2 * t < p + q := by
  unfold wLow
  by_cases h : p < q
  · rw [if_pos h, mv_low h]
    repeat' split
    all_goals simp_all
    all_goals omega
  · rw [if_neg h, mv_high (by omega)]
    repeat' split
    all_goals simp_all
    all_goals omega
theorem mv_wHigh {t p q : Int} (ne : q ≠ p) : mv t p q = wHigh p q ↔ p + q < 2 * t := by
  unfold wHigh
  by_cases h : p < q
  · rw [if_pos h, mv_low h]
    repeat' split
    all_goals simp_all
    all_goals omega
  · rw [if_neg h, mv_high (by omega)]
    repeat' split
    all_goals simp_all
    all_goals omega
theorem mv_wSame {t p q : Int} (ne : q ≠ p) : mv t p q = .same ↔ 2 * t = p + q := by
  by_cases h : p < q
  · rw [mv_low h]
    repeat' split
    all_goals simp_all
    all_goals omega
  · rw [mv_high (by omega)]
    repeat' split
    all_goals simp_all
    all_goals omega
theorem wo_three (p q : Int) (w : Wo) : w = wLow p q ∨ w = wHigh p q ∨ w = .same := by
  unfold wLow wHigh
  split <;> cases w <;> simp
theorem parts_cut {a b p q c d : Int} (ne : q ≠ p) : (c, d) ∈ partsOf a b p q ↔ ∃ w, IsCut a b p q w c d := by
  rw [mem_parts]
  constructor
  · rintro ⟨hcd, h⟩
    rcases h with ⟨h1, h2⟩ | ⟨h1, h2⟩ | ⟨h1, h2⟩
    · refine ⟨wLow p q, hcd, fun t => ?_⟩
      rw [mv_wLow ne]
      constructor <;> intro z <;> omega
    · refine ⟨.same, hcd, fun t => ?_⟩
      rw [mv_wSame ne]
      constructor <;> intro z <;> omega
    · refine ⟨wHigh p q, hcd, fun t => ?_⟩
      rw [mv_wHigh ne]
      constructor <;> intro z <;> omega
  · rintro ⟨w, hcd, h⟩
    refine ⟨hcd, ?_⟩
    have hc := (h c).mp ⟨by omega, hcd⟩
    have hd := (h d).mp ⟨hcd, by omega⟩
    have hl := h (c - 1)
    have hr := h (d + 1)
    rcases wo_three p q w with rfl | rfl | rfl
    · rw [mv_wLow ne] at hc hd hl hr
      refine .inl ⟨?_, ?_⟩ <;> omega
    · rw [mv_wHigh ne] at hc hd hl hr
      refine .inr (.inr ⟨?_, ?_⟩) <;> omega
    · rw [mv_wSame ne] at hc hd hl hr
      refine .inr (.inl ⟨?_, ?_⟩) <;> omega
theorem parts_len (a b p q : Int) : (partsOf a b p q).length ≤ 3 := List.length_filter_le _ _
theorem good_parts {st : Bool} {L a b p q : Int} {n : Nat} (ne : q ≠ p) : Good st L n a b p q ↔ cost st p q ≤ n ∧ ∀ z ∈ partsOf a b p q, En st L (n - cost st p q) z.1 z.2 q := by
  constructor
  · rintro ⟨h1, h2⟩
    refine ⟨h1, fun z hz => ?_⟩
    obtain ⟨c, d⟩ := z
    obtain ⟨w, hw⟩ := (parts_cut ne).mp hz
    exact h2 w c d hw
  · rintro ⟨h1, h2⟩
    exact ⟨h1, fun w c d hw => h2 (c, d) ((parts_cut ne).mpr ⟨w, hw⟩)⟩
/-- so many stands tell at most so many places apart -/
theorem en_wide {L : Int} {n : Nat} {a b p : Int} (h : En false L n a b p) : b - a + 1 < 2 ^ (n + 1) := by
  induction h with
  | @one n a p =>
    have : (0 : Int) < 2 ^ n := Int.pow_pos (by decide)
    rw [Int.pow_succ]
    omega
  | @go n a b p q h1 h2 ne hc h ih =>
    have hn : 1 ≤ n := hc
    obtain ⟨k, rfl⟩ : ∃ k, n = k + 1 := ⟨n - 1, by omega⟩
    have key : ∀ c d, (c, d) ∈ partsOf a b p q → d - c + 1 < 2 ^ (k + 1) := fun c d hz => by
      obtain ⟨w, hw⟩ := (parts_cut ne).mp hz
      exact ih w c d hw
    have hp : (0 : Int) < 2 ^ (k + 1) := Int.pow_pos (by decide)
    rw [Int.pow_succ (n := k + 1)]
    generalize (2 : Int) ^ (k + 1) = M at key hp ⊢
    have k1 := key a (min b ((p + q - 1) / 2))
    have k3 := key (max a ((p + q) / 2 + 1)) b
    rw [mem_parts] at k1 k3
    have k1' : a ≤ min b ((p + q - 1) / 2) → min b ((p + q - 1) / 2) - a + 1 < M := fun z => k1 ⟨z, .inl ⟨rfl, rfl⟩⟩
    have k3' : max a ((p + q) / 2 + 1) ≤ b → b - max a ((p + q) / 2 + 1) + 1 < M := fun z => k3 ⟨z, .inr (.inr ⟨rfl, rfl⟩)⟩
    clear k1 k3 key ih h
    by_cases z1 : a ≤ min b ((p + q - 1) / 2) <;> by_cases z3 : max a ((p + q) / 2 + 1) ≤ b
    · have := k1' z1
      have := k3' z3
      omega
    · have := k1' z1
      omega
    · have := k3' z3
      omega
    · omega
/-- stands enough: to the low end, then on place by place -/
theorem en_enough {L a b p : Int} (h1 : 1 ≤ a) (h2 : a ≤ b) (h3 : b ≤ L) : En false L ((b - a).toNat + 1) a b p := by
  have hlow := en_low (st := false) (L := L) (b - a).toNat a b h1 h3 rfl h2
  by_cases hp : p = a
  · rw [hp]
    exact hlow.mono (by omega)
  · refine .go a h1 (by omega) (fun z => hp z.symm) (by show 1 ≤ _; omega) fun w c d hcut => ?_
    have hs := hcut.sub
    have hcd := hcut.1
    exact (hlow.less hs.1 hcd hs.2).mono (by show _ ≤ _ - 1; omega)
/-- the least number of steps, as the program reckons it -/
def Stp (a b p : Int) : Int := if a = b then 0 else if p ≤ a then b - p else if b ≤ p then p - a else min (max (b - p) (p - a + 2)) (max (p - a) (b - p + 2))
theorem Stp_nonneg {a b p : Int} (h : a ≤ b) : 0 ≤ Stp a b p := by
  unfold Stp
  repeat' split
  all_goals omega
theorem Stp_mirror (L a b p : Int) (h : a ≤ b) : Stp (L - b) (L - a) (L - p) = Stp a b p := by
  unfold Stp
  repeat' split
  all_goals omega
theorem Stp_pos {a b p : Int} (h : a < b) : 1 ≤ Stp a b p := by
  unfold Stp
  repeat' split
  all_goals omega
/-- no move is better -/
theorem Stp_low {a b p q : Int} (hab : a < b) (ne : q ≠ p) : ∃ z ∈ partsOf a b p q, Stp a b p ≤ ab (p - q) + Stp z.1 z.2 q := by
  apply Classical.byContradiction
  intro hno
  have key : ∀ c d, (c, d) ∈ partsOf a b p q → ab (p - q) + Stp c d q < Stp a b p := fun c d hz => by
    apply Int.not_le.mp
    intro z
    exact hno ⟨(c, d), hz, z⟩
  have k1 : a ≤ min b ((p + q - 1) / 2) → _ := fun z => key a (min b ((p + q - 1) / 2)) (mem_parts.mpr ⟨z, .inl ⟨rfl, rfl⟩⟩)
  have k3 : max a ((p + q) / 2 + 1) ≤ b → _ := fun z => key (max a ((p + q) / 2 + 1)) b (mem_parts.mpr ⟨z, .inr (.inr ⟨rfl, rfl⟩)⟩)
  have k2 : max a ((p + q + 1) / 2) ≤ min b ((p + q) / 2) → _ := fun z => key (max a ((p + q + 1) / 2)) (min b ((p + q) / 2)) (mem_parts.mpr ⟨z, .inr (.inl ⟨rfl, rfl⟩)⟩)
  clear key hno
  by_cases z1 : a ≤ min b ((p + q - 1) / 2) <;> by_cases z3 : max a ((p + q) / 2 + 1) ≤ b
  · have g1 := k1 z1
    have g3 := k3 z3
    clear k1 k2 k3
    unfold Stp ab at g1 g3
    repeat' split at g1
    all_goals (repeat' split at g3)
    all_goals omega
  · have g1 := k1 z1
    clear k1 k3
    unfold Stp ab at g1
    by_cases z2 : max a ((p + q + 1) / 2) ≤ min b ((p + q) / 2)
    · repeat' split at g1
      all_goals omega
    · repeat' split at g1
      all_goals omega
  · have g3 := k3 z3
    clear k1 k3 k2
    unfold Stp ab at g3
    repeat' split at g3
    all_goals omega
  · omega
theorem sx_le {L : Int} {n : Nat} {a b p : Int} (h : En true L n a b p) (hab : a ≤ b) : Stp a b p ≤ n := by
  induction h with
  | one =>
    unfold Stp
    rw [if_pos rfl]
    omega
  | @go n a b p q h1 h2 ne hc h ih =>
    by_cases hlt : a < b
    · obtain ⟨⟨c, d⟩, hz, hle⟩ := Stp_low (q := q) hlt ne
      obtain ⟨w, hw⟩ := (parts_cut ne).mp hz
      have := ih w c d hw hw.1
      have ec : ((cost true p q : Nat) : Int) = ab (p - q) := by
        unfold cost
        rw [if_pos rfl]
        have : 0 ≤ ab (p - q) := by
          unfold ab
          split <;> omega
        omega
      dsimp only at hle
      omega
    · have : a = b := by omega
      unfold Stp
      rw [if_pos this]
      omega
theorem en_up {L : Int} : ∀ (m : Nat) (a b p : Int), 1 ≤ p → p ≤ a → a ≤ b → b ≤ L → (b - p).toNat = m → En true L m a b p
  | 0, a, b, p, h1, h2, h3, h4, hm => by
    rw [show a = b by omega]
    exact .one
  | m + 1, a, b, p, h1, h2, h3, h4, hm => by
    by_cases hab : a = b
    · rw [hab]
      exact .one
    · refine .go (p + 1) (by omega) (by omega) (by omega) (by rw [cost_next]; omega) fun w c d hcut => ?_
      rw [cost_next]
      show En true L m c d (p + 1)
      have hs := hcut.sub
      have hcd := hcut.1
      by_cases hc : c ≤ p
      · have hc' := (hcut.2 c).mp ⟨by omega, hcd⟩
        have hd' := (hcut.2 d).mp ⟨hcd, by omega⟩
        have e := hc'.2.2.trans hd'.2.2.symm
        rw [mv_next, mv_next, if_pos hc] at e
        have hdp : d ≤ p := by
          by_cases z : d ≤ p
          · exact z
          · rw [if_neg z] at e
            cases e
        rw [show c = d by omega]
        exact .one
      · exact (en_up m (max a (p + 1)) b (p + 1) (by omega) (by omega) (by omega) h4 (by omega)).less (by omega) hcd hs.2
theorem en_down {L : Int} (m : Nat) (a b p : Int) (h1 : p ≤ L) (h2 : b ≤ p) (h3 : a ≤ b) (h4 : 1 ≤ a) (hm : (p - a).toNat = m) : En true L m a b p :=
  En.mirror_iff.mp (en_up m (L + 1 - b) (L + 1 - a) (L + 1 - p) (by omega) (by omega) (by omega) (by omega) (by omega))
theorem en_upfirst {L : Int} {a b p : Int} (h1 : 1 ≤ a) (h2 : a < p) (h3 : p < b) (h4 : b ≤ L) : En true L (max (b - p) (p - a + 2)).toNat a b p := by
  refine .go (p + 1) (by omega) (by omega) (by omega) (by rw [cost_next]; omega) fun w c d hcut => ?_
  rw [cost_next]
  have hs := hcut.sub
  have hcd := hcut.1
  have hc' := (hcut.2 c).mp ⟨by omega, hcd⟩
  have hd' := (hcut.2 d).mp ⟨hcd, by omega⟩
  have e := hc'.2.2.trans hd'.2.2.symm
  rw [mv_next, mv_next] at e
  by_cases hc : c ≤ p
  · have hdp : d ≤ p := by
      by_cases z : d ≤ p
      · exact z
      · rw [if_pos hc, if_neg z] at e
        cases e
    exact (en_down (p + 1 - c).toNat c d (p + 1) (by omega) (by omega) hcd (by omega) rfl).mono (by omega)
  · exact (en_up (d - (p + 1)).toNat c d (p + 1) (by omega) (by omega) hcd (by omega) rfl).mono (by omega)
theorem sx_en {L a b p : Int} (h1 : 1 ≤ a) (h2 : a ≤ b) (h3 : b ≤ L) (h4 : 1 ≤ p) (h5 : p ≤ L) : En true L (Stp a b p).toNat a b p := by
  unfold Stp
  split
  · rename_i e
    rw [e]
    exact .one
  · split
    · exact en_up _ a b p h4 (by omega) h2 h3 rfl
    · split
      · exact en_down _ a b p h5 (by omega) h2 h1 rfl
      · by_cases z : max (b - p) (p - a + 2) ≤ max (p - a) (b - p + 2)
        · rw [Int.min_eq_left z]
          exact en_upfirst h1 (by omega) (by omega) h3
        · rw [Int.min_eq_right (by omega)]
          have := en_upfirst (L := L) (a := L + 1 - b) (b := L + 1 - a) (p := L + 1 - p) (by omega) (by omega) (by omega) (by omega)
          have := En.mirror_iff.mp this
          refine this.mono ?_
          omega
theorem sx_least {L a b p : Int} (h1 : 1 ≤ a) (h2 : a ≤ b) (h3 : b ≤ L) (h4 : 1 ≤ p) (h5 : p ≤ L) : LeastN true L a b p (Stp a b p).toNat :=
  ⟨sx_en h1 h2 h3 h4 h5, fun k hk e => by
    have := sx_le e h2
    omega⟩
theorem cost_ab (p q : Int) : ((cost true p q : Nat) : Int) = ab (p - q) := by
  unfold cost
  rw [if_pos rfl]
  have : 0 ≤ ab (p - q) := by
    unfold ab
    split <;> omega
  omega
/-- by q just as few steps are enough: reckoned -/
theorem good_steps {L a b p q m : Int} (h1 : 1 ≤ a) (h2 : a < b) (h3 : b ≤ L) (hq : 1 ≤ q ∧ q ≤ L) (ne : q ≠ p) (hm : ∃ z ∈ partsOf a b p q, m = Stp z.1 z.2 q) (hmax : ∀ z ∈ partsOf a b p q, Stp z.1 z.2 q ≤ m) :
    Good true L (Stp a b p).toNat a b p q ↔ ab (q - p) + m = Stp a b p := by
  have eab : ab (q - p) = ab (p - q) := by
    unfold ab
    repeat' split
    all_goals omega
  rw [good_parts ne, eab]
  have hc := cost_ab p q
  have hin : ∀ z ∈ partsOf a b p q, 1 ≤ z.1 ∧ z.1 ≤ z.2 ∧ z.2 ≤ L := fun z hz => by
    obtain ⟨c, d⟩ := z
    obtain ⟨w, hw⟩ := (parts_cut ne).mp hz
    have := hw.sub
    have := hw.1
    exact ⟨by show 1 ≤ c; omega, this, by show d ≤ L; omega⟩
  have hpos := Stp_pos (p := p) h2
  constructor
  · rintro ⟨g1, g2⟩
    obtain ⟨z, hz, rfl⟩ := hm
    have hle := sx_le (g2 z hz) (hin z hz).2.1
    obtain ⟨y, hy, hyl⟩ := Stp_low (q := q) h2 ne
    have := hmax y hy
    omega
  · intro e
    have hm0 : 0 ≤ m := by
      obtain ⟨z, hz, rfl⟩ := hm
      exact Stp_nonneg (hin z hz).2.1
    refine ⟨by omega, fun z hz => ?_⟩
    have i := hin z hz
    refine (sx_en i.1 i.2.1 i.2.2 hq.1 hq.2).mono ?_
    have := hmax z hz
    have := Stp_nonneg (p := q) i.2.1
    omega
/-! ### min of a list of pairs of ints -/
def lexle (p q : Int × Int) : Prop := p.1 < q.1 ∨ p.1 = q.1 ∧ p.2 ≤ q.2
theorem lt_pair (p q : Int × Int) : PySem.W.DatumOrd.lt p q = true ↔ p.1 < q.1 ∨ p.1 = q.1 ∧ p.2 < q.2 := by
  show (if p.1 = q.1 then decide (p.2 < q.2) else decide (p.1 < q.1)) = true ↔ _
  split
  · rename_i h
    rw [decide_eq_true_iff]
    constructor
    · intro z
      exact .inr ⟨h, z⟩
    · rintro (z | z)
      · omega
      · exact z.2
  · rename_i h
    rw [decide_eq_true_iff]
    constructor
    · intro z
      exact .inl z
    · rintro (z | z)
      · exact z
      · exact absurd z.1 h
theorem minOf_pairs : ∀ (xs : List (Int × Int)) (x : Int × Int), (PySem.W.minOf x xs = x ∨ PySem.W.minOf x xs ∈ xs) ∧ lexle (PySem.W.minOf x xs) x ∧ ∀ y ∈ xs, lexle (PySem.W.minOf x xs) y
  | [], x => ⟨.inl rfl, .inr ⟨rfl, Int.le_refl _⟩, fun y hy => (nomatch hy)⟩
  | z :: xs, x => by
    have tr : ∀ {a b c : Int × Int}, lexle a b → lexle b c → lexle a c := fun {a b c} h1 h2 => by
      unfold lexle at *
      omega
    have e : PySem.W.minOf x (z :: xs) = PySem.W.minOf (if PySem.W.DatumOrd.lt z x = true then z else x) xs := rfl
    rw [e]
    by_cases h : PySem.W.DatumOrd.lt z x = true
    · rw [if_pos h]
      obtain ⟨h1, h2, h3⟩ := minOf_pairs xs z
      have hz : lexle z x := by
        have := (lt_pair z x).mp h
        unfold lexle
        omega
      refine ⟨?_, tr h2 hz, fun y hy => ?_⟩
      · rcases h1 with h1 | h1
        · exact .inr (by rw [h1]; exact List.mem_cons_self)
        · exact .inr (List.mem_cons_of_mem _ h1)
      · rcases List.mem_cons.mp hy with rfl | hy
        · exact h2
        · exact h3 y hy
    · rw [if_neg h]
      obtain ⟨h1, h2, h3⟩ := minOf_pairs xs x
      have hz : lexle x z := by
        have : ¬ (z.1 < x.1 ∨ z.1 = x.1 ∧ z.2 < x.2) := fun t => h ((lt_pair z x).mpr t)
        unfold lexle
        omega
      refine ⟨?_, h2, fun y hy => ?_⟩
      · rcases h1 with h1 | h1
        · exact .inl h1
        · exact .inr (List.mem_cons_of_mem _ h1)
      · rcases List.mem_cons.mp hy with rfl | hy
        · exact tr h2 hz
        · exact h3 y hy
/-- at us stand the pairs ps -/
inductive AtPairs (H : Hp) : List Addr → List (Int × Int) → Prop
  | nil : AtPairs H [] []
  | cons {u : Addr} {us : List Addr} {p : Int × Int} {ps : List (Int × Int)} : H u = some (.tup [.int p.1, .int p.2]) → AtPairs H us ps → AtPairs H (u :: us) (p :: ps)
theorem AtPairs.ex {H H' : Hp} (e : Ex H H') : ∀ {us : List Addr} {ps : List (Int × Int)}, AtPairs H us ps → AtPairs H' us ps
  | _, _, .nil => .nil
  | _, _, .cons h t => .cons (e _ _ h) (t.ex e)
theorem AtPairs.snoc {H : Hp} {u : Addr} {p : Int × Int} (h : H u = some (.tup [.int p.1, .int p.2])) : ∀ {us : List Addr} {ps : List (Int × Int)}, AtPairs H us ps → AtPairs H (us ++ [u]) (ps ++ [p])
  | _, _, .nil => .cons h .nil
  | _, _, .cons g t => .cons g (t.snoc h)
theorem AtPairs.len {H : Hp} : ∀ {us : List Addr} {ps : List (Int × Int)}, AtPairs H us ps → us.length = ps.length
  | _, _, .nil => rfl
  | _, _, .cons _ t => by rw [List.length_cons, List.length_cons, t.len]
theorem AtPairs.at {H : Hp} : ∀ {us : List Addr} {ps : List (Int × Int)}, AtPairs H us ps → ∀ {i : Nat} {u : Addr}, us[i]? = some u → ∃ p, ps[i]? = some p ∧ H u = some (.tup [.int p.1, .int p.2])
  | _, _, .nil, i, u, h => by simp at h
  | _, _, .cons g t, 0, u, h => by
    cases h
    exact ⟨_, rfl, g⟩
  | _, _, .cons g t, i + 1, u, h => t.at (i := i) h
theorem AtPairs.mut {H : Hp} {U : Addr} {xs : List V} {o : HO} (hU : H U = some (.lst xs)) : ∀ {us : List Addr} {ps : List (Int × Int)}, AtPairs H us ps → AtPairs (upd H U o) us ps
  | _, _, .nil => .nil
  | _, _, .cons h t => .cons (by rw [upd_ne (ne_of h hU (by intro z; cases z))]; exact h) (t.mut hU)
def dPr (p : Int × Int) : PyData := .tuple [.int p.1, .int p.2]
theorem AtPairs.dp {K : PySem.W.Frag} {H : Hp} : ∀ {us : List Addr} {ps : List (Int × Int)}, AtPairs H us ps → DpAll K H (us.map V.ref) (ps.map dPr)
  | _, _, .nil => .nil
  | _, _, .cons g t => .cons (.tup (SqT.of g) (.cons (.int _) (.cons (.int _) .nil))) t.dp
def rMinP (K : PySem.W.Frag) : List V → Hp → VK → Prop := fun vs H Q => ∃ (a : Addr) (us : List Addr) (ps : List (Int × Int)), vs = [V.ref a] ∧ SqL K H a (us.map V.ref) ∧ AtPairs H us ps ∧ ps ≠ [] ∧
  ∀ u p, H u = some (.tup [.int p.1, .int p.2]) → p ∈ ps → (∀ q ∈ ps, lexle p q) → Q (.ref u) H
theorem vals_refs : ∀ {us : List Addr} {its : List Value} {i : Nat} {v : Value}, Vals (us.map V.ref) its → its[i]? = some v → ∃ u, us[i]? = some u ∧ v = .ref u
  | [], _, i, v, r, h => by
    cases r
    simp at h
  | u :: us, _, 0, v, r, h => by
    cases r with
    | cons r1 r2 =>
      cases h
      exact ⟨u, rfl, r1⟩
  | u :: us, _, i + 1, v, r, h => by
    cases r with
    | cons r1 r2 => exact vals_refs (us := us) (i := i) r2 h
theorem cr_minP {X : Cx} (hc : X.calm = true) (hu : X.A.units + 65 < cLine) : CallR X (.builtin "min") (rMinP X.K) := by
  intro pins s σ H vs us' Q I r h
  obtain ⟨a, us, ps, rfl, hs, hat, hne, q⟩ := h
  obtain ⟨its, rv, hl, _⟩ := I.list hs
  rw [Vals.ref1 r]
  match ps, hat, hne, q with
  | p :: ps, hat, _, q =>
    obtain ⟨as, hr⟩ := Dp.readsAll I ((p :: ps).map dPr) (us.map V.ref) its hat.dp rv
    have hH : PySem.W.HoldAll s.heap its.toArray.toList (p :: ps) := ⟨as, hr⟩
    refine PySem.W.min_list_datum (I.ok.hd hc) hl.isList hH (by show X.A.units + 1 + (max 0 0 + 1) < cLine; omega) fun i v h' tk hi hh hk => ?_
    have hi' : its[i]? = some v := by
      rw [List.getElem?_toArray] at hi
      exact hi
    obtain ⟨u, hu', rfl⟩ := vals_refs rv hi'
    obtain ⟨p', hp', hup⟩ := hat.at hu'
    obtain ⟨as1, r1⟩ := Dp.reads I (dPr p') (.ref u) (.ref u) (.tup (SqT.of hup) (.cons (.int _) (.cons (.int _) .nil))) rfl
    obtain ⟨as2, r2⟩ := hh
    have e := (PyProof.Rows.reads_det (fun b o hb _ => hk b o hb) r1 r2).1
    have ep : PySem.W.minOf p ps = p' := by
      injection e with e
      injection e with e1 e2
      injection e2 with e3 e4
      injection e1 with e1
      injection e3 with e3
      exact Prod.ext e1 e3
    obtain ⟨m1, m2, m3⟩ := minOf_pairs ps p
    rw [ep] at m2 m3
    refine ⟨.ref u, H, I.kept hk, rfl, q u p' hup (List.mem_of_getElem? hp') fun z hz => ?_⟩
    rcases List.mem_cons.mp hz with rfl | hz
    · exact m2
    · exact m3 z hz
theorem AtPairs.mutG {H : Hp} {U : Addr} {o : HO} (hU : ∀ xs, H U ≠ some (.tup xs)) : ∀ {us : List Addr} {ps : List (Int × Int)}, AtPairs H us ps → AtPairs (upd H U o) us ps
  | _, _, .nil => .nil
  | _, _, .cons h t => .cons (by rw [upd_ne (fun z => hU _ (z ▸ h))]; exact h) (t.mutG hU)
def sp_parts_of (K : PySem.W.Frag) : Sp := fun vs H Q _ => ∃ (s : Addr) (a b p q : Int), vs = [.ref s, .int p, .int q] ∧ H s = some (.tup [.int a, .int b]) ∧
  ∀ D H' us, H D = none → Ex H H' → H' D = some (.lst (us.map V.ref)) → AtPairs H' us (partsOf a b p q) → Q (.ref D) H'
abbrev N_parts_of : List Str := ["stretch", "earlier", "later", "low", "high", "middle_twice", "below", "inside", "above", "part"]
def t_parts_of (K : PySem.W.Frag) : TS := (tSeq (tAsg (tVar 0) (gTup K 2 (gCons (gName 3) (gCons (gName 4) gNil))))
  (tSeq (tAsg (tOp (rI0 fun i j => .int (i + j)) (tVar 1) (tVar 2)) (gName 5))
  (tSeq (tAsg (tTup (tCons (tVar 3) (tCons (tCB rMin2 (tCons (tVar 4) (tCons (tOp (rI CDiv fun i j => .int (i / j)) (tOp (rI0 fun i j => .int (i - j)) (tVar 5) (tC (.int 1))) (tC (.int 2))) tNil))) tNil))) (gName 6))
  (tSeq (tAsg (tTup (tCons (tCB rMax2 (tCons (tVar 3) (tCons (tOp (rI CDiv fun i j => .int (i / j)) (tOp (rI0 fun i j => .int (i + j)) (tVar 5) (tC (.int 1))) (tC (.int 2))) tNil))) (tCons (tCB rMin2 (tCons (tVar 4) (tCons (tOp (rI CDiv fun i j => .int (i / j)) (tVar 5) (tC (.int 2))) tNil))) tNil))) (gName 7))
  (tSeq (tAsg (tTup (tCons (tCB rMax2 (tCons (tVar 3) (tCons (tOp (rI0 fun i j => .int (i + j)) (tOp (rI CDiv fun i j => .int (i / j)) (tVar 5) (tC (.int 2))) (tC (.int 1))) tNil))) (tCons (tVar 4) tNil))) (gName 8))
  (tRet (tLc (iTup K (tTup (tCons (tVar 6) (tCons (tVar 7) (tCons (tVar 8) tNil))))) (gName 9) (tTest (tOp (rI0 fun i j => .bl (decide (i ≤ j))) (tOp (rIxT K) (tVar 9) (tC (.int 0))) (tOp (rIxT K) (tVar 9) (tC (.int 1))))) (tVar 9) [9])))))))
theorem if_min (i j : Int) : (if j < i then j else i) = min i j := by
  split <;> omega
theorem if_max (i j : Int) : (if j > i then j else i) = max i j := by
  split <;> omega
theorem pure_parts_of {K : PySem.W.Frag} {vs : List V} {H : Hp} {Q : VK} {E : XK} (h : sp_parts_of K vs H Q E) : t_parts_of K { nx := fun _ H' => Q .non H', rt := Q } (start N_parts_of vs) H := by
  obtain ⟨s, a, b, p, q', rfl, hs, q⟩ := h
  refine ⟨_, rfl, s, _, rfl, SqT.of hs, rfl, _, _, rfl, _, [], rfl, rfl, ?_⟩
  refine ⟨_, rfl, _, rfl, p, q', rfl, rfl, ?_⟩
  refine ⟨_, rfl, _, rfl, _, rfl, p + q', 1, rfl, rfl, p + q' - 1, 2, rfl, rfl, ⟨by decide, by decide⟩, b, _, rfl, by show 2 ≤ sizeLine; decide, fun u1 n1 => ?_⟩
  dsimp only
  rw [if_min]
  have e1 : Ex H (upd H u1 (.tup [.int a, .int (min b ((p + q' - 1) / 2))])) := Ex.new n1
  have g1 : (upd H u1 (.tup [.int a, .int (min b ((p + q' - 1) / 2))])) u1 = some (.tup [.int a, .int (min b ((p + q' - 1) / 2))]) := upd_same
  generalize upd H u1 (.tup [.int a, .int (min b ((p + q' - 1) / 2))]) = H1 at e1 g1 ⊢
  refine ⟨_, rfl, _, rfl, p + q', 1, rfl, rfl, p + q' + 1, 2, rfl, rfl, ⟨by decide, by decide⟩, a, _, rfl, _, rfl, _, rfl, p + q', 2, rfl, rfl, ⟨by decide, by decide⟩, b, _, rfl, by show 2 ≤ sizeLine; decide, fun u2 n2 => ?_⟩
  dsimp only
  rw [if_min, if_max]
  have e2 : Ex H1 (upd H1 u2 (.tup [.int (max a ((p + q' + 1) / 2)), .int (min b ((p + q') / 2))])) := Ex.new n2
  have g2 : (upd H1 u2 (.tup [.int (max a ((p + q' + 1) / 2)), .int (min b ((p + q') / 2))])) u2 = some (.tup [.int (max a ((p + q' + 1) / 2)), .int (min b ((p + q') / 2))]) := upd_same
  generalize upd H1 u2 (.tup [.int (max a ((p + q' + 1) / 2)), .int (min b ((p + q') / 2))]) = H2 at e2 g2 ⊢
  refine ⟨_, rfl, _, rfl, p + q', 2, rfl, rfl, ⟨by decide, by decide⟩, _, 1, rfl, rfl, a, _, rfl, _, rfl, by show 2 ≤ sizeLine; decide, fun u3 n3 => ?_⟩
  dsimp only
  rw [if_max]
  have e3 : Ex H2 (upd H2 u3 (.tup [.int (max a ((p + q') / 2 + 1)), .int b])) := Ex.new n3
  have g3 : (upd H2 u3 (.tup [.int (max a ((p + q') / 2 + 1)), .int b])) u3 = some (.tup [.int (max a ((p + q') / 2 + 1)), .int b]) := upd_same
  generalize upd H2 u3 (.tup [.int (max a ((p + q') / 2 + 1)), .int b]) = H3 at e3 g3 ⊢
  refine ⟨_, rfl, _, rfl, _, rfl, by show 3 ≤ sizeLine; decide, fun t nt => ?_⟩
  have e4 : Ex H3 (upd H3 t (.tup [.ref u1, .ref u2, .ref u3])) := Ex.new nt
  have gt : (upd H3 t (.tup [.ref u1, .ref u2, .ref u3])) t = some (.tup ([u1, u2, u3].map V.ref)) := upd_same
  have hp3 : AtPairs (upd H3 t (.tup [.ref u1, .ref u2, .ref u3])) [u1, u2, u3] (parts3 a b p q') := .cons (e4 _ _ (e3 _ _ (e2 _ _ g1))) (.cons (e4 _ _ (e3 _ _ g2)) (.cons (e4 _ _ g3) .nil))
  have e04 := ((e1.trans e2).trans e3).trans e4
  generalize upd H3 t (.tup [.ref u1, .ref u2, .ref u3]) = H4 at e04 gt hp3 ⊢
  refine ⟨t, rfl, ⟨_, SqT.of gt⟩, fun D hD => ?_⟩
  refine lc_tup (xs := [u1, u2, u3].map V.ref) (fun i H' => Ex H4 H' ∧ ∃ us : List Addr, H' D = some (.lst (us.map V.ref)) ∧ us.length ≤ i ∧ AtPairs H' us (((parts3 a b p q').take i).filter fun z => decide (z.1 ≤ z.2)))
    ⟨Ex.new hD, [], upd_same, Nat.le_refl _, .nil⟩ (fun i H' _ p => SqT.of (p.1 _ _ gt)) (fun i x H' hx p => ?_) (fun H' p => ?_)
  · obtain ⟨e5, us, hd, hul, hps⟩ := p
    have hi : i < 3 := (List.getElem?_eq_some_iff.mp hx).1
    obtain ⟨u, hu, rfl⟩ : ∃ u, [u1, u2, u3][i]? = some u ∧ x = .ref u := by
      rw [List.getElem?_map] at hx
      cases hg : [u1, u2, u3][i]? with
      | none => rw [hg] at hx; cases hx
      | some u =>
        rw [hg] at hx
        exact ⟨u, rfl, (Option.some.inj hx).symm⟩
    obtain ⟨z, hz, hzu⟩ := hp3.at hu
    have hzu5 := e5 _ _ hzu
    have etk : (((parts3 a b p q').take (i + 1)).filter fun z => decide (z.1 ≤ z.2)) = (((parts3 a b p q').take i).filter fun z => decide (z.1 ≤ z.2)) ++ (if z.1 ≤ z.2 then [z] else []) := by
      rw [List.take_add_one, hz, List.filter_append]
      congr 1
      by_cases hzz : z.1 ≤ z.2
      · rw [if_pos hzz]
        simp [hzz]
      · rw [if_neg hzz]
        simp [hzz]
    refine ⟨rfl, _, rfl, u, _, 0, .int z.1, rfl, rfl, SqT.of hzu5, rfl, _, rfl, u, _, 1, .int z.2, rfl, rfl, SqT.of hzu5, rfl, z.1, z.2, rfl, rfl, _, rfl, ite2 (fun hle => ?_) (fun hle => ?_)⟩
    · have hle := of_decide_eq_true hle
      rw [if_pos hle] at etk
      refine ⟨_, rfl, _, hd, ?_, e5.mut hD, us ++ [u], ?_, ?_, ?_⟩
      · rw [List.length_map]
        exact small1000 (by omega)
      · rw [upd_same, List.map_append]
        rfl
      · rw [List.length_append]
        show us.length + 1 ≤ i + 1
        omega
      · rw [etk]
        exact (hps.snoc hzu5).mutG fun xs zz => by
          rw [hd] at zz
          cases zz
    · rw [if_neg (fun w => hle (decide_eq_true w)), List.append_nil] at etk
      refine ⟨e5, us, hd, by omega, ?_⟩
      rw [etk]
      exact hps
  · obtain ⟨e5, us, hd, hul, hps⟩ := p
    exact q D H' us (fresh_back e04 hD) (e04.trans e5) hd hps
theorem len_parts_of {K : PySem.W.Frag} {vs : List V} {H : Hp} {Q : VK} {E : XK} (h : sp_parts_of K vs H Q E) : vs.length = 3 := by
  obtain ⟨s, a, b, p, q', rfl, _⟩ := h
  rfl
def others (l p : Int) : List Int := (rng 1 (l + 1)).filter fun t => !decide ((V.int t : V) = V.int p)
theorem mem_others {l p t : Int} : t ∈ others l p ↔ (1 ≤ t ∧ t ≤ l) ∧ t ≠ p := by
  unfold others
  rw [List.mem_filter, mem_rng]
  constructor
  · rintro ⟨⟨h1, h2⟩, h3⟩
    refine ⟨⟨h1, by omega⟩, fun z => ?_⟩
    rw [z, decide_eq_true rfl] at h3
    cases h3
  · rintro ⟨⟨h1, h2⟩, h3⟩
    refine ⟨⟨h1, by omega⟩, ?_⟩
    rw [decide_eq_false (fun z => h3 (V.int.inj z))]
    rfl
theorem others_up (l p : Int) : (others l p).Pairwise (· < ·) := by
  unfold others
  refine List.Pairwise.filter _ ?_
  unfold rng
  rw [List.pairwise_map]
  refine List.Pairwise.imp ?_ List.pairwise_lt_range
  intro x y h
  omega
theorem others_len (l p : Int) : (others l p).length ≤ l.toNat := by
  unfold others
  refine Nat.le_trans (List.length_filter_le _ _) ?_
  rw [rng_len]
  omega
/-- what stands ahead of the i-th -/
theorem up_take : ∀ {l : List Int}, l.Pairwise (· < ·) → ∀ {i : Nat} {q r : Int}, l[i]? = some q → r ∈ l → r < q → r ∈ l.take i
  | [], _, _, _, _, h, _, _ => by simp at h
  | x :: l, hp, 0, q, r, h, hr, hlt => by
    have e : x = q := Option.some.inj h
    rcases List.mem_cons.mp hr with z | z
    · omega
    · have := (List.pairwise_cons.mp hp).1 r z
      omega
  | x :: l, hp, i + 1, q, r, h, hr, hlt => by
    rw [List.take_succ_cons]
    rcases List.mem_cons.mp hr with z | z
    · rw [z]
      exact List.mem_cons_self
    · exact List.mem_cons_of_mem _ (up_take (List.pairwise_cons.mp hp).2 h z hlt)
def sp_other_places (K : PySem.W.Frag) : Sp := fun vs H Q _ => ∃ l p : Int, vs = [.int l, .int p] ∧ 0 ≤ l ∧ l ≤ 60 ∧ ∀ D H', H D = none → Ex H H' → H' D = some (.lst ((others l p).map V.int)) → Q (.ref D) H'
abbrev N_other_places : List Str := ["length", "place", "other"]
def t_other_places (K : PySem.W.Frag) : TS := (tRet (tLc (iRng2 (tCons (tC (.int 1)) (tCons (tOp (rI0 fun i j => .int (i + j)) (tVar 0) (tC (.int 1))) tNil))) (gName 2) (tTest (tOp rNe (tVar 2) (tVar 1))) (tVar 2) [2]))
theorem pure_other_places {K : PySem.W.Frag} {vs : List V} {H : Hp} {Q : VK} {E : XK} (h : sp_other_places K vs H Q E) : t_other_places K { nx := fun _ H' => Q .non H', rt := Q } (start N_other_places vs) H := by
  obtain ⟨l, p, rfl, h0, h1, q⟩ := h
  have hc : Evl.EvL (tLc (iRng2 (tCons (tC (.int 1)) (tCons (tOp (rI0 fun i j => .int (i + j)) (tVar 0) (tC (.int 1))) tNil))) (gName 2) (tTest (tOp rNe (tVar 2) (tVar 1))) (tVar 2) [2]) (start N_other_places [.int l, .int p]) H ((others l p).map V.int) := by
    refine el_rng (fun t => !decide ((V.int t : V) = V.int p)) V.int (Evl.ea_cons Evl.ev_c (Evl.ea_cons (Evl.ev_op (Evl.ev_var rfl) Evl.ev_c Evl.rv_I0) Evl.ea_nil)) (by omega) (fun _ => rfl) (fun n H3 e3 _ _ => ?_) (fun n H3 e3 _ _ _ => Evl.ev_var rfl)
    intro H4 e4 Q4 q4
    exact ⟨_, rfl, _, rfl, rfl, _, rfl, q4 H4 (Ex.refl H4)⟩
  exact hc H (Ex.refl H) _ fun D H2 nD e2 h2 => q D H2 nD e2 h2
theorem len_other_places {K : PySem.W.Frag} {vs : List V} {H : Hp} {Q : VK} {E : XK} (h : sp_other_places K vs H Q E) : vs.length = 2 := by
  obtain ⟨l, p, rfl, _⟩ := h
  rfl
/-! ### dicts whose keys are ((lo, hi), place, spare) -/
abbrev SK := Int × Int × Int × Int
def nk (k : SK) : NestedKey := .tup [.tup [.num k.1, .num k.2.1], .num k.2.2.1, .num k.2.2.2]
theorem nk_inj {a b : SK} (h : nk a = nk b) : a = b := by
  unfold nk at h
  injection h with h
  injection h with h1 h2
  injection h1 with h1
  injection h1 with h3 h4
  injection h4 with h4 _
  injection h2 with h5 h6
  injection h6 with h6 _
  injection h3 with h3
  injection h4 with h4
  injection h5 with h5
  injection h6 with h6
  exact Prod.ext h3 (Prod.ext h4 (Prod.ext h5 h6))
/-- the spot k stands at b -/
def SpotAt (H : Hp) (b : Addr) (k : SK) : Prop := ∃ sb, H b = some (.tup [.ref sb, .int k.2.2.1, .int k.2.2.2]) ∧ H sb = some (.tup [.int k.1, .int k.2.1])
theorem SpotAt.ex {H H' : Hp} {b : Addr} {k : SK} (e : Ex H H') (h : SpotAt H b k) : SpotAt H' b k := by
  obtain ⟨sb, h1, h2⟩ := h
  exact ⟨sb, e _ _ h1, e _ _ h2⟩
theorem SpotAt.mutG {H : Hp} {b U : Addr} {k : SK} {o : HO} (hU : ∀ xs, H U ≠ some (.tup xs)) (h : SpotAt H b k) : SpotAt (upd H U o) b k := by
  obtain ⟨sb, h1, h2⟩ := h
  exact ⟨sb, by rw [upd_ne (fun z => hU _ (z ▸ h1))]; exact h1, by rw [upd_ne (fun z => hU _ (z ▸ h2))]; exact h2⟩
abbrev NT := List (SK × Addr × V)
def NP (p : SK × Addr × V) (q : NestedKey × Addr × Value) : Prop := nk p.1 = q.1 ∧ p.2.1 = q.2.1 ∧ RelV p.2.2 q.2.2
def dNo (P : Program) (w : World) (a : Addr) (kvs : NT) : HO := .ext fun h => kvs.length ≤ sizeLine ∧ (a == sysModules) = false ∧ ∃ xs : List (NestedKey × Addr × Value), Paired NP kvs xs ∧
  ∃ o es ep, h.get? a = some o ∧ o.ExactDict ∧ o.data = .dict es ep ∧ es.toList = xs.map (entryOfKey (nestedKind P w)) ∧ (xs.map (·.1)).Nodup
def NAt (H : Hp) (kvs : NT) : Prop := ∀ e ∈ kvs, SpotAt H e.2.1 e.1
def ND (P : Program) (w : World) (H : Hp) (a : Addr) (kvs : NT) : Prop := H a = some (dNo P w a kvs) ∧ NAt H kvs
def valN (kvs : NT) (k : SK) : Option V := (kvs.find? fun e => decide (e.1 = k)).map (·.2.2)
def putN (kvs : NT) (k : SK) (b : Addr) (v : V) : NT := if (valN kvs k).isSome = true then kvs.map (fun e => if e.1 = k then (e.1, e.2.1, v) else e) else kvs ++ [(k, b, v)]
theorem dNo_ne_tup {P : Program} {w : World} {a : Addr} {kvs : NT} {xs : List V} : dNo P w a kvs ≠ .tup xs := fun z => by
  unfold dNo at z
  cases z
theorem dNo_ne_lst {P : Program} {w : World} {a : Addr} {kvs : NT} {xs : List V} : dNo P w a kvs ≠ .lst xs := fun z => by
  unfold dNo at z
  cases z
theorem valN_pos {e : SK × Addr × V} {r : NT} {k : SK} (h : e.1 = k) : valN (e :: r) k = some e.2.2 := by simp [valN, List.find?_cons, h]
theorem valN_neg {e : SK × Addr × V} {r : NT} {k : SK} (h : ¬ e.1 = k) : valN (e :: r) k = valN r k := by simp [valN, List.find?_cons, h]
theorem valN_map (k j : SK) (v : V) : ∀ kvs : NT, valN (kvs.map fun e => if e.1 = k then (e.1, e.2.1, v) else e) j = if j = k then (valN kvs j).map fun _ => v else valN kvs j
  | [] => by
    split <;> rfl
  | e :: r => by
    rw [List.map_cons]
    have hk : (if e.1 = k then (e.1, e.2.1, v) else e).1 = e.1 := by split <;> rfl
    by_cases h : e.1 = j
    · rw [valN_pos (hk.trans h), valN_pos h]
      by_cases hj : j = k
      · rw [if_pos (h.trans hj), if_pos hj]
        rfl
      · rw [if_neg (fun z => hj (h.symm.trans z)), if_neg hj]
    · rw [valN_neg (fun z => h (hk.symm.trans z)), valN_neg h, valN_map k j v r]
theorem valN_snoc (k j : SK) (b : Addr) (v : V) : ∀ kvs : NT, valN kvs k = none → valN (kvs ++ [(k, b, v)]) j = if j = k then some v else valN kvs j
  | [], _ => by
    by_cases h : j = k
    · rw [if_pos h]
      exact valN_pos (e := (k, b, v)) h.symm
    · rw [if_neg h]
      exact valN_neg (e := (k, b, v)) (fun z => h z.symm)
  | e :: r, hn => by
    by_cases he : e.1 = k
    · rw [valN_pos he] at hn
      cases hn
    · rw [valN_neg he] at hn
      rw [List.cons_append]
      by_cases h : e.1 = j
      · rw [valN_pos h, valN_pos h, if_neg (fun z => he (h.trans z))]
      · rw [valN_neg h, valN_neg h, valN_snoc k j b v r hn]
theorem valN_put (kvs : NT) (k j : SK) (b : Addr) (v : V) : valN (putN kvs k b v) j = if j = k then some v else valN kvs j := by
  unfold putN
  by_cases h : (valN kvs k).isSome = true
  · rw [if_pos h, valN_map]
    by_cases hj : j = k
    · rw [if_pos hj, if_pos hj, hj]
      obtain ⟨x, hx⟩ := Option.isSome_iff_exists.mp h
      rw [hx]
      rfl
    · rw [if_neg hj, if_neg hj]
  · rw [if_neg h]
    refine valN_snoc k j b v kvs ?_
    cases hq : valN kvs k with
    | none => rfl
    | some x =>
      rw [hq] at h
      exact absurd rfl h
theorem putN_len (kvs : NT) (k : SK) (b : Addr) (v : V) : (putN kvs k b v).length ≤ kvs.length + 1 := by
  unfold putN
  split
  · rw [List.length_map]
    omega
  · rw [List.length_append]
    exact Nat.le_refl _
theorem NAt.put {H : Hp} {kvs : NT} {k : SK} {b : Addr} {v : V} (h : NAt H kvs) (hb : SpotAt H b k) : NAt H (putN kvs k b v) := fun e he => by
  unfold putN at he
  split at he
  · obtain ⟨x, hx, rfl⟩ := List.mem_map.mp he
    split
    · exact h x hx
    · exact h x hx
  · rcases List.mem_append.mp he with z | z
    · exact h e z
    · rw [List.mem_singleton.mp z]
      exact hb
theorem NAt.ex {H H' : Hp} {kvs : NT} (e : Ex H H') (h : NAt H kvs) : NAt H' kvs := fun x hx => (h x hx).ex e
theorem NAt.mutG {H : Hp} {U : Addr} {kvs : NT} {o : HO} (hU : ∀ xs, H U ≠ some (.tup xs)) (h : NAt H kvs) : NAt (upd H U o) kvs := fun x hx => (h x hx).mutG hU
theorem ND.ex {P : Program} {w : World} {H H' : Hp} {a : Addr} {kvs : NT} (e : Ex H H') (h : ND P w H a kvs) : ND P w H' a kvs := ⟨e _ _ h.1, h.2.ex e⟩
/-! the pairs, side by side -/
theorem np_val {kvs : NT} {xs : List (NestedKey × Addr × Value)} (r : Paired NP kvs xs) (k : SK) : RelO (valN kvs k) ((atKey xs (nk k)).map (·.2)) := by
  induction r with
  | nil => exact True.intro
  | @cons p q ps qs h t ih =>
    obtain ⟨h1, _, h2⟩ := h
    by_cases e : p.1 = k
    · have e' : q.1 = nk k := by rw [← h1, e]
      have b : atKey (q :: qs) (nk k) = some q.2 := by simp [atKey, List.find?_cons, e']
      rw [valN_pos e, b]
      exact h2
    · have e' : ¬ q.1 = nk k := fun z => e (nk_inj (h1.trans z))
      have b : atKey (q :: qs) (nk k) = atKey qs (nk k) := by simp [atKey, List.find?_cons, e']
      rw [valN_neg e, b]
      exact ih
theorem np_repl {kvs : NT} {xs : List (NestedKey × Addr × Value)} (r : Paired NP kvs xs) (k : SK) {y : V} {u : Value} (ry : RelV y u) :
    Paired NP (kvs.map fun e => if e.1 = k then (e.1, e.2.1, y) else e) (xs.map (putAt (nk k) u)) := by
  induction r with
  | nil => exact .nil
  | @cons p q ps qs h t ih =>
    rw [List.map_cons, List.map_cons]
    refine .cons ?_ ih
    obtain ⟨h1, h2, h3⟩ := h
    unfold putAt
    by_cases e : p.1 = k
    · rw [if_pos e, if_pos (by rw [← h1, e])]
      exact ⟨h1, h2, ry⟩
    · rw [if_neg e, if_neg (fun z => e (nk_inj (h1.trans z)))]
      exact ⟨h1, h2, h3⟩
theorem np_put {kvs : NT} {xs : List (NestedKey × Addr × Value)} (r : Paired NP kvs xs) (k : SK) (b : Addr) {y : V} {u : Value} (ry : RelV y u) : Paired NP (putN kvs k b y) (storedH xs (nk k) b u) := by
  have e : (valN kvs k).isSome = (atKey xs (nk k)).isSome := by
    rw [(np_val r k).isSome_eq, Option.isSome_map]
  unfold putN storedH
  rw [e]
  by_cases q : (atKey xs (nk k)).isSome = true
  · rw [if_pos q, if_pos q]
    exact np_repl r k ry
  · rw [if_neg q, if_neg q]
    exact Paired.snoc r ⟨rfl, rfl, ry⟩
section
variable {X : Cx} {pins : List (Addr × Obj)} {σ : L2.St} {H : Hp} {s : Shared}
theorem tup_at {P : Program} {w : World} {H : Hp} {h : Heap} {a : Addr} {xs : List V} (ok : HOk P w H h) (e : H a = some (.tup xs)) : ∃ its o n, Vals xs its ∧ h.get? a = some o ∧ o.cls = .type "tuple" ∧ o.data = .seq its.toArray n := by
  obtain ⟨_, its, r, o, h1, h2, n, h3⟩ := (show ObjOk P w H h a (.tup xs) from ok a _ e)
  exact ⟨its, o, n, r, h1, h2, h3⟩
theorem spot_is {P : Program} {w : World} {H : Hp} {h : Heap} (ok : HOk P w H h) {b : Addr} {k : SK} (e : SpotAt H b k) : (nestedKind P w).is h (nk k) b := by
  obtain ⟨sb, h1, h2⟩ := e
  obtain ⟨its, o, n, r, g1, g2, g3⟩ := tup_at ok h1
  obtain ⟨its2, o2, n2, r2, f1, f2, f3⟩ := tup_at ok h2
  refine ⟨?_, by simp [nk, NestedKey.depth, NestedKey.depthAll]⟩
  cases r with
  | cons r1 r =>
    cases r with
    | cons r2' r =>
      cases r with
      | cons r3 r =>
        cases r
        cases r2 with
        | cons s1 r2 =>
          cases r2 with
          | cons s2 r2 =>
            cases r2
            obtain rfl := (show _ = Value.ref sb from r1)
            obtain ⟨t1, rfl⟩ := (show ∃ t, _ = Value.int _ t from r2')
            obtain ⟨t2, rfl⟩ := (show ∃ t, _ = Value.int _ t from r3)
            obtain ⟨t3, rfl⟩ := (show ∃ t, _ = Value.int _ t from s1)
            obtain ⟨t4, rfl⟩ := (show ∃ t, _ = Value.int _ t from s2)
            exact .tup g1 g2 g3 (.cons (.tup f1 f2 f3 (.cons (.int _ _) (.cons (.int _ _) .nil))) (.cons (.int _ _) (.cons (.int _ _) .nil)))
theorem nd_of {P : Program} {w : World} {H : Hp} {h : Heap} (ok : HOk P w H h) {a : Addr} {kvs : NT} (e : ND P w H a kvs) : kvs.length ≤ sizeLine ∧ (a == sysModules) = false ∧ ∃ xs, Paired NP kvs xs ∧ h.DictOfH (nestedKind P w) a xs := by
  obtain ⟨e1, e2⟩ := e
  have x : ObjOk P w H h a (dNo P w a kvs) := ok a _ e1
  obtain ⟨⟨z, y, xs, r, o, es, ep, h1, h2, h3, h4, h5⟩, _, _⟩ := x
  refine ⟨z, y, xs, r, o, es, ep, h1, h2, h3, h4, ?_, h5⟩
  have all : ∀ {l : NT} {m : List (NestedKey × Addr × Value)}, Paired NP l m → NAt H l → ∀ x ∈ m, (nestedKind P w).is h x.1 x.2.1 := by
    intro l m q
    induction q with
    | nil => intro _ x hx; exact nomatch hx
    | @cons p q ps qs hq t ih =>
      intro hn x hx
      rcases List.mem_cons.mp hx with e | hx
      · subst e
        have := spot_is ok (hn p List.mem_cons_self)
        rw [hq.1, hq.2.1] at this
        exact this
      · exact ih (fun e he => hn e (List.mem_cons_of_mem _ he)) x hx
  exact all r e2
theorem n_room {A : Around} (hu : A.units + 65 < cLine) : (nestedKind X.prog X.w).room A.in1 := by
  show A.units + 1 + 8 < cLine
  omega
theorem dNo_ok {P : Program} {w : World} {H : Hp} {h : Heap} {a : Addr} {kvs : NT} (z : kvs.length ≤ sizeLine) (y : (a == sysModules) = false) {xs : List (NestedKey × Addr × Value)} (r : Paired NP kvs xs)
    (d : ∃ o es ep, h.get? a = some o ∧ o.ExactDict ∧ o.data = .dict es ep ∧ es.toList = xs.map (entryOfKey (nestedKind P w)) ∧ (xs.map (·.1)).Nodup) : ObjOk P w H h a (dNo P w a kvs) := by
  refine ⟨⟨z, y, xs, r, d⟩, ?_, ?_⟩
  · obtain ⟨o, _, _, h1, _⟩ := d
    exact ⟨o, h1⟩
  · rintro h1 h2 ⟨z', y', xs', r', o, es, ep, g1, g2⟩ hk
    exact ⟨z', y', xs', r', o, es, ep, hk o g1, g2⟩
end
/-! the rules -/
def rNotInN (P : Program) (w : World) : R2 := fun x y H Q => ∃ a kvs b k, x = .ref b ∧ y = .ref a ∧ ND P w H a kvs ∧ SpotAt H b k ∧ Q (.bl (!(valN kvs k).isSome)) H
theorem op_notInN {X : Cx} (hu : X.A.units + 65 < cLine) : OpR X (compareOp .NotIn) (rNotInN X.prog X.w) := by
  intro pins s σ H x y v u Q I rx ry h
  obtain ⟨a, kvs, b, k, rfl, rfl, hd, hb, q⟩ := h
  cases (show v = Value.ref b from rx)
  cases (show u = Value.ref a from ry)
  obtain ⟨z, hs, xs, rel, dd⟩ := nd_of I.hok hd
  refine wpAny_notIn_heap (n_room hu) (spot_is I.hok hb) hs dd ?_
  have e := (np_val rel k).isSome_eq
  rw [Option.isSome_map] at e
  rw [← e]
  exact ⟨.bl _, H, I.tok _, rfl, q⟩
def tNGet (P : Program) (w : World) (td ty : TE) : TE := fun σ H Q => td σ H fun x H1 => ty σ H1 fun y H2 => ∃ a kvs b k v, x = .ref a ∧ y = .ref b ∧ ND P w H2 a kvs ∧ SpotAt H2 b k ∧ valN kvs k = some v ∧ Q v H2
theorem pe_nget {X : Cx} {o i : Expr} {pos : Pos} {td ty : TE} (hu : X.A.units + 65 < cLine) (ho : PE X o td) (hi : PE X i ty) (hs : NoSl i) : PE X (.Subscript o i pos) (tNGet X.prog X.w td ty) := by
  refine ⟨fun pins s σ H Q I h => ?_⟩
  refine subD_of PySem.F.slot_dict_getitem.lookup hs (thn (ho.run pins s σ H _ I h) fun u s1 ⟨x, H1, I1, rx, q1⟩ => thn (hi.run pins s1 σ H1 _ I1 q1) fun iv s2 ⟨y, H2, I2, ry, a, kvs, b, k, v, ex, ey, hd, hb, hv, q2⟩ => ?_)
  subst ex ey
  obtain rfl : u = Value.ref a := rx
  obtain rfl : iv = Value.ref b := ry
  obtain ⟨z, hs2, xs, rel, dd⟩ := nd_of I2.hok hd
  refine ⟨dd.typeIs, ?_⟩
  obtain ⟨w', hw, rw'⟩ := RelO.some_of (v := v) (o := (atKey xs (nk k)).map (·.2)) (by rw [← hv]; exact np_val rel k)
  obtain ⟨p, hp, hp2⟩ := Option.map_eq_some_iff.mp hw
  refine wpAny_getItem_heap (n_room hu) (spot_is I2.hok hb) dd hp ?_
  rw [hp2]
  exact ⟨v, H2, I2.tok _, rw', q2⟩
def sNPut (P : Program) (w : World) (td ty tv : TE) : TS := fun D σ H => tv σ H fun v H1 => td σ H1 fun x H2 => ty σ H2 fun y H3 => ∃ a kvs b k, x = .ref a ∧ y = .ref b ∧ ND P w H3 a kvs ∧ SpotAt H3 b k ∧ kvs.length < sizeLine ∧ D.nx σ (upd H3 a (dNo P w a (putN kvs k b v)))
theorem ps_nput {X : Cx} {o i value : Expr} {pos pos' : Pos} {td ty tv : TE} (hu : X.A.units + 65 < cLine) (ho : PE X o td) (hi : PE X i ty) (hv : PE X value tv) (hs : swapsWith value (some (.Subscript o i pos')) pos.line X.env = pure false) :
    PS X (.Assign [.Subscript o i pos'] value pos) (sNPut X.prog X.w td ty tv) := by
  refine ⟨fun pins s σ H D I h => ?_⟩
  refine wpAny_Assign_Subscript (thn (hv.run pins s σ H _ I h) fun r s1 ⟨v, H1, I1, rv, q1⟩ => thn (ho.run pins s1 σ H1 _ I1 q1) fun u s2 ⟨x, H2, I2, rx, q2⟩ => thn (hi.run pins s2 σ H2 _ I2 q2) fun iv s3 ⟨y, H3, I3, ry, a, kvs, b, k, ex, ey, hd, hb, hl, q3⟩ => ?_) hs
  subst ex ey
  obtain rfl : u = Value.ref a := rx
  obtain rfl : iv = Value.ref b := ry
  obtain ⟨z, hs2, xs, rel, dd⟩ := nd_of I3.hok hd
  have hz : xs.length ≤ sizeLine := by rw [← Paired.length rel]; exact z
  have hl2 : (putN kvs k b v).length ≤ sizeLine := by
    have := putN_len kvs k b v
    omega
  refine wpAny_setItem_heap (hsz := hz) (n_room hu) (spot_is I3.hok hb) dd fun h' dd' hsb => ?_
  obtain ⟨q, es, ep, hq, h2, h3, h4, _, h5⟩ := dd'
  refine ⟨σ, _, d_write I3 (by rw [hd.1]; exact True.intro) hsb ⟨q, hq⟩ (dNo_ok hl2 hs2 (np_put rel k b rv) ⟨q, es, ep, hq, h2, h3, h4, h5⟩), q3⟩
def tNNew (P : Program) (w : World) : TE := fun _ H Q => ∀ p, H p = none → Q (.ref p) (upd H p (dNo P w p []))
theorem pe_nnew {X : Cx} {pos : Pos} : PE X (.Dict [] [] pos) (tNNew X.prog X.w) := ⟨fun pins s σ H Q I h =>
  wpAny_Dict_empty ⟨.ref s.heap.objs.size, _, I.laid (a := s.heap.objs.size) (o := dNo X.prog X.w s.heap.objs.size []) (t' := s.toks) (fun _ _ q => Heap.get?_push_of_some _ q) (Nat.le_refl _)
    (dNo_ok (xs := []) (Nat.zero_le _) (beq_eq_false_iff_ne.mpr (Ne.symm (Nat.ne_of_lt I.big))) .nil ⟨_, #[], 0, Heap.get?_push_size _ rfl, ⟨rfl, rfl, rfl⟩, rfl, rfl, List.nodup_nil⟩), rfl, h _ (I.hok.fresh (Nat.le_refl _))⟩⟩
/-! ### rings -/
/-- steps onward from x to y on a ring of l places -/
def fw (l x y : Int) : Int := if x ≤ y then y - x else y - x + l
/-- the shorter way round -/
def rd (l x y : Int) : Int := if fw l y x < fw l x y then fw l y x else fw l x y
def rwordsOf (l t : Int) : List Int → List Wo
  | e :: n :: r => word (rd l t e) (rd l t n) :: rwordsOf l t (n :: r)
  | _ => []
theorem rwordsOf_len (l t : Int) : ∀ ns : List Int, (rwordsOf l t ns).length = ns.length - 1
  | [] => rfl
  | [_] => rfl
  | x :: y :: r => by
    show (rwordsOf l t (y :: r)).length + 1 = (y :: r).length + 1 - 1
    rw [rwordsOf_len l t (y :: r)]
    simp
theorem rwordsOf_get (l t : Int) : ∀ (ns : List Int) (i : Nat) (x y : Int), ns[i]? = some x → ns[i + 1]? = some y → (rwordsOf l t ns)[i]? = some (word (rd l t x) (rd l t y))
  | [], _, _, _, h, _ => by simp at h
  | [_], 0, _, _, _, h => by simp at h
  | [_], i + 1, _, _, h, _ => by simp at h
  | a :: b :: r, 0, x, y, h, h2 => by
    have e1 : a = x := Option.some.inj h
    have e2 : b = y := Option.some.inj h2
    rw [← e1, ← e2]
    rfl
  | a :: b :: r, i + 1, x, y, h, h2 => rwordsOf_get l t (b :: r) i x y h h2
/-- the places of a ring at which just these words are answered -/
def rlies (l : Int) (st : List Int) (ws : List Wo) : List Int := (rng 1 (l + 1)).filter fun t => decide (rwordsOf l t st = ws)
/-- all unlike rows on a ring, each once -/
def RRows (l : Int) (st : List Int) (D : List (List Wo)) : Prop := D.Nodup ∧ ∀ r, r ∈ D ↔ ∃ t, (1 ≤ t ∧ t ≤ l) ∧ rwordsOf l t st = r
theorem RRows.same {l : Int} {st : List Int} {D D' : List (List Wo)} (h : RRows l st D) (h' : RRows l st D') : D.length = D'.length :=
  ((List.perm_ext_iff_of_nodup h.1 h'.1).mpr fun r => (h.2 r).trans (h'.2 r).symm).length_eq
theorem fw_range {l x y : Int} (h1 : 1 ≤ x) (h2 : x ≤ l) (h3 : 1 ≤ y) (h4 : y ≤ l) : 0 ≤ fw l x y ∧ fw l x y < l := by
  unfold fw
  split <;> omega
theorem step_on {l h o : Int} (h1 : 1 ≤ h) (h2 : h ≤ l) (h3 : 1 ≤ o) (h4 : o ≤ l) (ne : ¬ h = o) : 1 ≤ 1 + (h - 1 + 1) % l ∧ 1 + (h - 1 + 1) % l ≤ l ∧ fw l (1 + (h - 1 + 1) % l) o = fw l h o - 1 := by
  have e : (h - 1 + 1) % l = if h = l then 0 else h := by
    split
    · rename_i z
      rw [show h - 1 + 1 = l by omega, Int.emod_self]
    · rw [show h - 1 + 1 = h by omega]
      exact Int.emod_eq_of_lt (by omega) (by omega)
  rw [e]
  unfold fw
  repeat' split
  all_goals omega
theorem step_back {l h o : Int} (h1 : 1 ≤ h) (h2 : h ≤ l) (h3 : 1 ≤ o) (h4 : o ≤ l) (ne : ¬ h = o) : 1 ≤ 1 + (h - 1 + -1) % l ∧ 1 + (h - 1 + -1) % l ≤ l ∧ fw l o (1 + (h - 1 + -1) % l) = fw l o h - 1 := by
  have e : (h - 1 + -1) % l = if h = 1 then l - 1 else h - 2 := by
    split
    · rename_i z
      rw [Int.emod_eq_add_self_emod, show h - 1 + -1 + l = l - 1 by omega]
      exact Int.emod_eq_of_lt (by omega) (by omega)
    · rw [show h - 1 + -1 = h - 2 by omega]
      exact Int.emod_eq_of_lt (by omega) (by omega)
  rw [e]
  unfold fw
  repeat' split
  all_goals omega
/-! ### rings turned, and seen in a mirror -/
theorem fw_mod {l x y : Int} (h1 : 1 ≤ x) (h2 : x ≤ l) (h3 : 1 ≤ y) (h4 : y ≤ l) : (y - x) % l = fw l x y := by
  unfold fw
  split
  · exact Int.emod_eq_of_lt (by omega) (by omega)
  · rw [← Int.add_emod_right]
    exact Int.emod_eq_of_lt (by omega) (by omega)
theorem rd_min {l t p : Int} (h1 : 1 ≤ t) (h2 : t ≤ l) (h3 : 1 ≤ p) (h4 : p ≤ l) : (if (p - t) % l < (t - p) % l then (p - t) % l else (t - p) % l) = rd l t p := by
  rw [fw_mod h1 h2 h3 h4, fw_mod h3 h4 h1 h2]
  unfold rd
  split <;> split <;> omega
def tn (l b x : Int) : Int := 1 + (x - 1 + b) % l
theorem tn_range {l : Int} (b x : Int) (h : 1 ≤ l) : 1 ≤ tn l b x ∧ tn l b x ≤ l := by
  unfold tn
  have h1 := Int.emod_nonneg (x - 1 + b) (show l ≠ 0 by omega)
  have h2 := Int.emod_lt_of_pos (x - 1 + b) (show 0 < l by omega)
  omega
theorem fw_tn {l b x y : Int} (h1 : 1 ≤ x) (h2 : x ≤ l) (h3 : 1 ≤ y) (h4 : y ≤ l) : fw l (tn l b x) (tn l b y) = fw l x y := by
  have hl : 1 ≤ l := by omega
  obtain ⟨a1, a2⟩ := tn_range b x hl
  obtain ⟨a3, a4⟩ := tn_range b y hl
  rw [← fw_mod a1 a2 a3 a4, ← fw_mod h1 h2 h3 h4]
  unfold tn
  rw [show 1 + (y - 1 + b) % l - (1 + (x - 1 + b) % l) = (y - 1 + b) % l - (x - 1 + b) % l by omega, ← Int.sub_emod]
  congr 1
  omega
theorem rd_tn {l b x y : Int} (h1 : 1 ≤ x) (h2 : x ≤ l) (h3 : 1 ≤ y) (h4 : y ≤ l) : rd l (tn l b x) (tn l b y) = rd l x y := by
  unfold rd
  rw [fw_tn h1 h2 h3 h4, fw_tn h3 h4 h1 h2]
theorem rwords_tn {l b t : Int} (h1 : 1 ≤ t) (h2 : t ≤ l) : ∀ {st : List Int}, Places l st → rwordsOf l (tn l b t) (st.map (tn l b)) = rwordsOf l t st
  | [], _ => rfl
  | [_], _ => rfl
  | x :: y :: r, hP => by
    have hx := hP x List.mem_cons_self
    have hy := hP y (List.mem_cons_of_mem _ List.mem_cons_self)
    show word (rd l (tn l b t) (tn l b x)) (rd l (tn l b t) (tn l b y)) :: rwordsOf l (tn l b t) ((y :: r).map (tn l b)) = _
    rw [rd_tn h1 h2 hx.1 hx.2, rd_tn h1 h2 hy.1 hy.2, rwords_tn h1 h2 fun n hn => hP n (List.mem_cons_of_mem _ hn)]
    rfl
theorem tn_back {l b x : Int} (h1 : 1 ≤ x) (h2 : x ≤ l) : tn l b (tn l (-b) x) = x := by
  unfold tn
  rw [show 1 + (x - 1 + -b) % l - 1 + b = (x - 1 + -b) % l + b by omega, Int.emod_add_emod, show x - 1 + -b + b = x - 1 by omega, Int.emod_eq_of_lt (by omega) (by omega)]
  omega
theorem tn_inj {l b x y : Int} (h1 : 1 ≤ x) (h2 : x ≤ l) (h3 : 1 ≤ y) (h4 : y ≤ l) (e : tn l b x = tn l b y) : x = y := by
  have h := fw_tn (b := b) h1 h2 h3 h4
  have h' := fw_tn (b := b) h3 h4 h1 h2
  rw [e] at h h'
  have z : fw l (tn l b y) (tn l b y) = 0 := by
    unfold fw
    split <;> omega
  rw [z] at h h'
  unfold fw at h h'
  split at h <;> split at h' <;> omega
theorem mem_rlies {l t : Int} {st : List Int} {ws : List Wo} : t ∈ rlies l st ws ↔ (1 ≤ t ∧ t ≤ l) ∧ rwordsOf l t st = ws := by
  unfold rlies
  rw [List.mem_filter, mem_rng, decide_eq_true_iff]
  constructor
  · rintro ⟨⟨h1, h2⟩, h3⟩
    exact ⟨⟨h1, by omega⟩, h3⟩
  · rintro ⟨⟨h1, h2⟩, h3⟩
    exact ⟨⟨h1, by omega⟩, h3⟩
theorem rng_up (lo hi : Int) : (rng lo hi).Pairwise (· < ·) := by
  unfold rng
  rw [List.pairwise_map]
  exact List.pairwise_lt_range.imp fun {a b : Nat} (h : a < b) => (by omega : lo + (a : Int) < lo + (b : Int))
theorem rlies_lt (l : Int) (st : List Int) (ws : List Wo) : (rlies l st ws).Pairwise (· < ·) := (rng_up 1 (l + 1)).filter _
theorem rlies_nodup (l : Int) (st : List Int) (ws : List Wo) : (rlies l st ws).Nodup := (rlies_lt l st ws).imp fun {a b} (h : a < b) => (by omega : a ≠ b)
theorem rlies_len (l : Int) (st : List Int) (ws : List Wo) : (rlies l st ws).length ≤ l.toNat := by
  unfold rlies
  refine Nat.le_trans (List.length_filter_le _ _) ?_
  rw [rng_len]
  omega
theorem nodup_map_on {f : Int → Int} : ∀ {l : List Int}, (∀ x ∈ l, ∀ y ∈ l, f x = f y → x = y) → l.Nodup → (l.map f).Nodup
  | [], _, _ => List.nodup_nil
  | a :: r, hf, h => by
    obtain ⟨h1, h2⟩ := List.nodup_cons.mp h
    rw [List.map_cons, List.nodup_cons]
    refine ⟨fun z => ?_, nodup_map_on (fun x hx y hy => hf x (List.mem_cons_of_mem _ hx) y (List.mem_cons_of_mem _ hy)) h2⟩
    obtain ⟨x, hx, e⟩ := List.mem_map.mp z
    exact h1 (hf x (List.mem_cons_of_mem _ hx) a List.mem_cons_self e ▸ hx)
theorem rlies_turned {l b : Int} {st : List Int} {ws : List Wo} (hP : Places l st) : (rlies l (st.map (tn l b)) ws).Perm ((rlies l st ws).map (tn l b)) := by
  refine (List.perm_ext_iff_of_nodup (rlies_nodup _ _ _) (nodup_map_on (fun x hx y hy => ?_) (rlies_nodup _ _ _))).mpr fun t => ?_
  · have h1 := mem_rlies.mp hx
    have h2 := mem_rlies.mp hy
    exact tn_inj h1.1.1 h1.1.2 h2.1.1 h2.1.2
  · rw [mem_rlies, List.mem_map]
    constructor
    · rintro ⟨⟨h1, h2⟩, h3⟩
      obtain ⟨r1, r2⟩ := tn_range (l := l) (-b) t (by omega)
      refine ⟨tn l (-b) t, mem_rlies.mpr ⟨⟨r1, r2⟩, ?_⟩, tn_back h1 h2⟩
      rw [← rwords_tn (b := b) r1 r2 hP, tn_back h1 h2]
      exact h3
    · rintro ⟨x, hx, rfl⟩
      obtain ⟨⟨h1, h2⟩, h3⟩ := mem_rlies.mp hx
      exact ⟨tn_range b x (by omega), by rw [rwords_tn h1 h2 hP]; exact h3⟩
/-- sorted, it is the one -/
theorem rlies_sorted {l b : Int} {st : List Int} {ws : List Wo} {ns : List Int} (hP : Places l st) (h1 : ns.Perm ((rlies l st ws).map (tn l b))) (h2 : ns.Pairwise (· ≤ ·)) : ns = rlies l (st.map (tn l b)) ws :=
  List.Perm.eq_of_pairwise (le := (· ≤ ·)) (fun _ _ _ _ => Int.le_antisymm) h2 ((rlies_lt _ _ _).imp fun {a b} (h : a < b) => (by omega : a ≤ b)) (h1.trans (rlies_turned hP).symm)
theorem rd_mirror {l x y : Int} : rd l (l + 1 - x) (l + 1 - y) = rd l x y := by
  have h1 : fw l (l + 1 - x) (l + 1 - y) = fw l y x := by
    unfold fw
    split <;> split <;> omega
  have h2 : fw l (l + 1 - y) (l + 1 - x) = fw l x y := by
    unfold fw
    split <;> split <;> omega
  unfold rd
  rw [h1, h2]
  split <;> split <;> omega
theorem rwords_mirror (l t : Int) : ∀ st : List Int, rwordsOf l (l + 1 - t) (st.map fun p => l + 1 - p) = rwordsOf l t st
  | [] => rfl
  | [_] => rfl
  | a :: b :: r => by
    show word (rd l (l + 1 - t) (l + 1 - a)) (rd l (l + 1 - t) (l + 1 - b)) :: rwordsOf l (l + 1 - t) ((b :: r).map fun p => l + 1 - p) = _
    rw [rd_mirror, rd_mirror, rwords_mirror l t (b :: r)]
    rfl
theorem rlies_mirror (l : Int) (st : List Int) (ws : List Wo) : rlies l (st.map fun p => l + 1 - p) ws = ((rlies l st ws).reverse).map fun x => l + 1 - x := by
  have e : rng 1 (l + 1) = ((rng 1 (l + 1)).reverse).map fun x => l + 1 - x := by
    rw [rng_mirror _ 1 (l + 1) (l + 1) rfl]
    congr 1 <;> omega
  unfold rlies
  rw [← List.filter_reverse]
  conv => lhs; rw [e]
  rw [List.filter_map]
  congr 1
  refine List.filter_congr fun t _ => ?_
  show decide (rwordsOf l (l + 1 - t) (st.map fun p => l + 1 - p) = ws) = decide (rwordsOf l t st = ws)
  rw [rwords_mirror]
theorem rrows_turned {l b : Int} {st : List Int} {D : List (List Wo)} (hP : Places l st) (h : RRows l st D) : RRows l (st.map (tn l b)) D := by
  refine ⟨h.1, fun r => (h.2 r).trans ⟨?_, ?_⟩⟩
  · rintro ⟨t, ⟨h1, h2⟩, h3⟩
    exact ⟨tn l b t, tn_range b t (by omega), by rw [rwords_tn h1 h2 hP]; exact h3⟩
  · rintro ⟨t, ⟨h1, h2⟩, h3⟩
    obtain ⟨r1, r2⟩ := tn_range (l := l) (-b) t (by omega)
    refine ⟨tn l (-b) t, ⟨r1, r2⟩, ?_⟩
    rw [← rwords_tn (b := b) r1 r2 hP, tn_back h1 h2]
    exact h3
theorem rwords_snoc (l t x : Int) : ∀ st : List Int, (rwordsOf l t (st ++ [x])).take (st.length - 1) = rwordsOf l t st
  | [] => rfl
  | [_] => rfl
  | a :: b :: r => by
    show (word (rd l t a) (rd l t b) :: rwordsOf l t ((b :: r) ++ [x])).take ((b :: r).length - 1 + 1) = _
    rw [List.take_succ_cons, rwords_snoc l t x (b :: r)]
    rfl
theorem nodup_le {α : Type} [DecidableEq α] : ∀ {D D' : List α}, D.Nodup → (∀ r ∈ D, r ∈ D') → D.length ≤ D'.length
  | [], _, _, _ => Nat.zero_le _
  | a :: D, D', h, hs => by
    obtain ⟨h1, h2⟩ := List.nodup_cons.mp h
    have ha := hs a List.mem_cons_self
    have := nodup_le (D := D) (D' := D'.erase a) h2 fun r hr => (List.mem_erase_of_ne (fun (e : r = a) => h1 (e ▸ hr))).mpr (hs r (List.mem_cons_of_mem _ hr))
    rw [List.length_erase_of_mem ha] at this
    have hp := List.length_pos_of_mem ha
    rw [List.length_cons]
    omega
theorem rrows_more {l x : Int} {st : List Int} {D D' : List (List Wo)} (h : RRows l st D) (h' : RRows l (st ++ [x]) D') : D.length ≤ D'.length := by
  rw [← List.length_map (as := D') (f := fun r => r.take (st.length - 1))]
  refine nodup_le h.1 fun r hr => ?_
  obtain ⟨t, ht, e⟩ := (h.2 r).mp hr
  exact List.mem_map.mpr ⟨_, (h'.2 _).mpr ⟨t, ht, rfl⟩, by rw [rwords_snoc]; exact e⟩
/-! ### the table of what is enough -/
/-- all but d stays -/
def KpD (d : Addr) (H H' : Hp) : Prop := ∀ x o, x ≠ d → H x = some o → H' x = some o
theorem KpD.refl (d : Addr) (H : Hp) : KpD d H H := fun _ _ _ h => h
theorem KpD.ex {d : Addr} {H H' : Hp} (e : Ex H H') : KpD d H H' := fun x o _ h => e x o h
theorem KpD.trans {d : Addr} {H H1 H2 : Hp} (a : KpD d H H1) (b : KpD d H1 H2) : KpD d H H2 := fun x o n h => b x o n (a x o n h)
theorem KpD.put {d : Addr} {H H' : Hp} {o : HO} (a : KpD d H H') : KpD d H (upd H' d o) := fun x u n h => by
  rw [upd_ne n]
  exact a x u n h
theorem KpD.at {P : Program} {w : World} {d x : Addr} {H H' : Hp} {kvs : NT} {o : HO} (a : KpD d H H') (hd : H d = some (dNo P w d kvs)) (h : H x = some o) (ne : o ≠ dNo P w d kvs) : H' x = some o := a x o (ne_of h hd ne) h
theorem tup_ne_dNo {P : Program} {w : World} {a : Addr} {kvs : NT} {xs : List V} : HO.tup xs ≠ dNo P w a kvs := fun z => dNo_ne_tup z.symm
theorem lst_ne_dNo {P : Program} {w : World} {a : Addr} {kvs : NT} {xs : List V} : HO.lst xs ≠ dNo P w a kvs := fun z => dNo_ne_lst z.symm
theorem KpD.pairs {P : Program} {w : World} {d : Addr} {H H' : Hp} {kvs : NT} (a : KpD d H H') (hd : H d = some (dNo P w d kvs)) : ∀ {us : List Addr} {ps : List (Int × Int)}, AtPairs H us ps → AtPairs H' us ps
  | _, _, .nil => .nil
  | _, _, .cons h t => .cons (a.at hd h tup_ne_dNo) (a.pairs hd t)
theorem KpD.spot {P : Program} {w : World} {d b : Addr} {H H' : Hp} {kvs : NT} {k : SK} (a : KpD d H H') (hd : H d = some (dNo P w d kvs)) (h : SpotAt H b k) : SpotAt H' b k := by
  obtain ⟨sb, h1, h2⟩ := h
  exact ⟨sb, a.at hd h1 tup_ne_dNo, a.at hd h2 tup_ne_dNo⟩
def InBox (k : SK) : Prop := (1 ≤ k.1 ∧ k.1 ≤ 16) ∧ (1 ≤ k.2.1 ∧ k.2.1 ≤ 16) ∧ (1 ≤ k.2.2.1 ∧ k.2.2.1 ≤ 16) ∧ 0 ≤ k.2.2.2 ∧ k.2.2.2 < 64
/-- a table whose keys stand once, and in bounds -/
structure Tab (kvs : NT) : Prop where
  nd : (kvs.map (·.1)).Nodup
  box : ∀ e ∈ kvs, InBox e.1
def codeK (k : SK) : Nat := ((k.1.toNat * 17 + k.2.1.toNat) * 17 + k.2.2.1.toNat) * 64 + k.2.2.2.toNat
theorem code_inj {a b : SK} (ha : InBox a) (hb : InBox b) (h : codeK a = codeK b) : a = b := by
  unfold InBox at ha hb
  unfold codeK at h
  exact Prod.ext (by omega) (Prod.ext (by omega) (Prod.ext (by omega) (by omega)))
theorem code_lt {a : SK} (ha : InBox a) : codeK a < 400000 := by
  unfold InBox at ha
  unfold codeK
  omega
theorem nodup_code : ∀ {l : List SK}, (∀ x ∈ l, InBox x) → l.Nodup → (l.map codeK).Nodup
  | [], _, _ => List.nodup_nil
  | a :: r, hb, h => by
    obtain ⟨h1, h2⟩ := List.nodup_cons.mp h
    rw [List.map_cons, List.nodup_cons]
    refine ⟨fun z => ?_, nodup_code (fun x hx => hb x (List.mem_cons_of_mem _ hx)) h2⟩
    obtain ⟨x, hx, e⟩ := List.mem_map.mp z
    exact h1 (code_inj (hb x (List.mem_cons_of_mem _ hx)) (hb a List.mem_cons_self) e ▸ hx)
theorem Tab.len {kvs : NT} (h : Tab kvs) : kvs.length < sizeLine := by
  have hb : ∀ x ∈ kvs.map (·.1), InBox x := fun x hx => by
    obtain ⟨e, he, rfl⟩ := List.mem_map.mp hx
    exact h.box e he
  have h1 := nodup_le (D := (kvs.map (·.1)).map codeK) (D' := List.range 400000) (nodup_code hb h.nd) fun r hr => by
    obtain ⟨x, hx, rfl⟩ := List.mem_map.mp hr
    exact List.mem_range.mpr (code_lt (hb x hx))
  rw [List.length_map, List.length_map, List.length_range] at h1
  exact Nat.lt_of_le_of_lt h1 (by decide)
theorem valN_none {kvs : NT} {k : SK} (h : valN kvs k = none) : k ∉ kvs.map (·.1) := fun z => by
  obtain ⟨e, he, hk⟩ := List.mem_map.mp z
  unfold valN at h
  rw [Option.map_eq_none_iff, List.find?_eq_none] at h
  have := h e he
  simp [hk] at this
theorem Tab.put {kvs : NT} {k : SK} {b : Addr} {v : V} (h : Tab kvs) (hk : InBox k) : Tab (putN kvs k b v) := by
  unfold putN
  split
  · constructor
    · have : (kvs.map fun e => if e.1 = k then (e.1, e.2.1, v) else e).map (·.1) = kvs.map (·.1) := by
        rw [List.map_map]
        apply List.map_congr_left
        intro e _
        show (if e.1 = k then (e.1, e.2.1, v) else e).1 = e.1
        split <;> rfl
      rw [this]
      exact h.nd
    · intro e he
      obtain ⟨x, hx, rfl⟩ := List.mem_map.mp he
      split
      · exact h.box x hx
      · exact h.box x hx
  · rename_i hn
    have hn' : valN kvs k = none := by
      cases hq : valN kvs k with
      | none => rfl
      | some x =>
        rw [hq] at hn
        exact absurd rfl hn
    constructor
    · rw [List.map_append, List.nodup_append]
      refine ⟨h.nd, by simp, fun x hx y hy e => ?_⟩
      have : y = k := List.mem_singleton.mp hy
      rw [this] at e
      exact valN_none hn' (e ▸ hx)
    · intro e he
      rcases List.mem_append.mp he with z | z
      · exact h.box e z
      · rw [List.mem_singleton.mp z]
        exact hk
/-- what is told of a spot is right -/
def Right (st : Bool) (L : Int) (k : SK) (v : V) : Prop := ∃ c : Bool, v = .bl c ∧ (c = true ↔ En st L k.2.2.2.toNat k.1 k.2.1 k.2.2.1)
def OKs (st : Bool) (L : Int) (kvs : NT) (n : Int) : Prop := ∀ k v, valN kvs k = some v → k.2.2.2 ≤ n → Right st L k v
/-- the dict, as a call may find it -/
structure Pre1 (P : Program) (w : World) (st : Bool) (L n : Int) (H : Hp) (d : Addr) (kvs : NT) : Prop where
  dict : ND P w H d kvs
  tab : Tab kvs
  ok : OKs st L kvs n
/-- and as it leaves it -/
structure Post1 (P : Program) (w : World) (st : Bool) (L n : Int) (H H' : Hp) (d : Addr) (kvs kvs' : NT) : Prop where
  kp : KpD d H H'
  pre : Pre1 P w st L n H' d kvs'
  up : ∀ k : SK, n < k.2.2.2 → valN kvs' k = valN kvs k
theorem Post1.refl {P : Program} {w : World} {st : Bool} {L n : Int} {H : Hp} {d : Addr} {kvs : NT} (h : Pre1 P w st L n H d kvs) : Post1 P w st L n H H d kvs kvs := ⟨KpD.refl d H, h, fun _ _ => rfl⟩
theorem Post1.trans {P : Program} {w : World} {st : Bool} {L n : Int} {H H1 H2 : Hp} {d : Addr} {k0 k1 k2 : NT} (a : Post1 P w st L n H H1 d k0 k1) (b : Post1 P w st L n H1 H2 d k1 k2) : Post1 P w st L n H H2 d k0 k2 :=
  ⟨a.kp.trans b.kp, b.pre, fun k hk => (b.up k hk).trans (a.up k hk)⟩
theorem Pre1.ex {P : Program} {w : World} {st : Bool} {L n : Int} {H H' : Hp} {d : Addr} {kvs : NT} (e : Ex H H') (h : Pre1 P w st L n H d kvs) : Pre1 P w st L n H' d kvs := ⟨h.dict.ex e, h.tab, h.ok⟩
theorem ND.put {P : Program} {w : World} {H : Hp} {d b : Addr} {kvs : NT} {k : SK} {v : V} (h : ND P w H d kvs) (hb : SpotAt H b k) : ND P w (upd H d (dNo P w d (putN kvs k b v))) d (putN kvs k b v) :=
  ⟨upd_same, (h.2.put hb).mutG fun xs z => dNo_ne_tup (Option.some.inj (h.1.symm.trans z))⟩
/-- to stay is a move that gains nothing -/
theorem en_any {st : Bool} {L a b p : Int} {n : Nat} (hab : a < b) : En st L n a b p ↔ ∃ q, (1 ≤ q ∧ q ≤ L) ∧ 0 < cost st p q ∧ Good st L n a b p q := by
  rw [en_good hab]
  constructor
  · rintro ⟨q, hq, ne, hg⟩
    exact ⟨q, hq, cost_pos ne, hg⟩
  · rintro ⟨q, hq, hc, hg⟩
    by_cases ne : q = p
    · have hcut : IsCut a b p q .same a b := by
        refine ⟨by omega, fun t => ⟨fun z => ⟨z.1, z.2, ?_⟩, fun z => ⟨z.1, z.2.1⟩⟩⟩
        rw [ne]
        exact mv_same.mpr (.inl rfl)
      have he := hg.2 _ _ _ hcut
      rw [ne] at he
      obtain ⟨q', hq', ne', hg'⟩ := (en_good hab).mp (he.mono (Nat.sub_le _ _))
      exact ⟨q', hq', ne', hg'⟩
    · exact ⟨q, hq, ne, hg⟩
def sp__law_enough (K : PySem.W.Frag) (P : Program) (w : World) (N : Nat) : Sp := fun vs H Q _ => ∃ (d s : Addr) (L a b p n : Int) (st : Bool) (kvs : NT), vs = [.ref d, .int L, .ref s, .int p, .int n, .bl st] ∧ 0 ≤ n ∧ n < N ∧ n < 64 ∧ L ≤ 16 ∧ H s = some (.tup [.int a, .int b]) ∧ 1 ≤ a ∧ a ≤ b ∧ b ≤ L ∧ 1 ≤ p ∧ p ≤ L ∧ Pre1 P w st L n H d kvs ∧
  ∀ H' (c : Bool) kvs', Post1 P w st L n H H' d kvs kvs' → (c = true ↔ En st L n.toNat a b p) → Q (.bl c) H'
def sp__law_all_enough (K : PySem.W.Frag) (P : Program) (w : World) (N : Nat) : Sp := fun vs H Q _ => ∃ (d C : Addr) (L q n : Int) (st : Bool) (kvs : NT) (us : List Addr) (cs : List (Int × Int)), vs = [.ref d, .int L, .ref C, .int q, .int n, .bl st] ∧ 0 ≤ n ∧ n < N ∧ n < 64 ∧ L ≤ 16 ∧ H C = some (.lst (us.map V.ref)) ∧ AtPairs H us cs ∧ cs.length ≤ 100 ∧
  (∀ z ∈ cs, 1 ≤ z.1 ∧ z.1 ≤ z.2 ∧ z.2 ≤ L) ∧ 1 ≤ q ∧ q ≤ L ∧ Pre1 P w st L n H d kvs ∧
  ∀ H' (c : Bool) kvs', Post1 P w st L n H H' d kvs kvs' → (c = true ↔ ∀ z ∈ cs, En st L n.toNat z.1 z.2 q) → Q (.bl c) H'
theorem no__law_enough {K : PySem.W.Frag} {P : Program} {w : World} {vs : List V} {H : Hp} {Q : VK} {E : XK} (h : sp__law_enough K P w 0 vs H Q E) : False := by
  obtain ⟨d, s, L, a, b, p, n, st, kvs, _, hn0, hnN, _⟩ := h
  omega
/-! ### dicts whose keys are (lo, hi, place, many) -/
namespace Fl
def nk (k : SK) : NestedKey := .tup [.num k.1, .num k.2.1, .num k.2.2.1, .num k.2.2.2]
theorem nk_inj {a b : SK} (h : nk a = nk b) : a = b := by
  unfold nk at h
  injection h with h
  injection h with h1 h
  injection h with h2 h
  injection h with h3 h
  injection h with h4 _
  injection h1 with h1
  injection h2 with h2
  injection h3 with h3
  injection h4 with h4
  exact Prod.ext h1 (Prod.ext h2 (Prod.ext h3 h4))
/-- the key k stands at b -/
def SpotAt (H : Hp) (b : Addr) (k : SK) : Prop := H b = some (.tup [.int k.1, .int k.2.1, .int k.2.2.1, .int k.2.2.2])
theorem SpotAt.ex {H H' : Hp} {b : Addr} {k : SK} (e : Ex H H') (h : SpotAt H b k) : SpotAt H' b k := e _ _ h
theorem SpotAt.mutG {H : Hp} {b U : Addr} {k : SK} {o : HO} (hU : ∀ xs, H U ≠ some (.tup xs)) (h : SpotAt H b k) : SpotAt (upd H U o) b k := by
  unfold SpotAt at h ⊢
  rw [upd_ne (fun z => hU _ (z ▸ h))]
  exact h
def NP (p : SK × Addr × V) (q : NestedKey × Addr × Value) : Prop := nk p.1 = q.1 ∧ p.2.1 = q.2.1 ∧ RelV p.2.2 q.2.2
def dNo (P : Program) (w : World) (a : Addr) (kvs : NT) : HO := .ext fun h => kvs.length ≤ sizeLine ∧ (a == sysModules) = false ∧ ∃ xs : List (NestedKey × Addr × Value), Paired NP kvs xs ∧
  ∃ o es ep, h.get? a = some o ∧ o.ExactDict ∧ o.data = .dict es ep ∧ es.toList = xs.map (entryOfKey (nestedKind P w)) ∧ (xs.map (·.1)).Nodup
def NAt (H : Hp) (kvs : NT) : Prop := ∀ e ∈ kvs, SpotAt H e.2.1 e.1
def ND (P : Program) (w : World) (H : Hp) (a : Addr) (kvs : NT) : Prop := H a = some (dNo P w a kvs) ∧ NAt H kvs
theorem dNo_ne_tup {P : Program} {w : World} {a : Addr} {kvs : NT} {xs : List V} : dNo P w a kvs ≠ .tup xs := fun z => by
  unfold dNo at z
  cases z
theorem dNo_ne_lst {P : Program} {w : World} {a : Addr} {kvs : NT} {xs : List V} : dNo P w a kvs ≠ .lst xs := fun z => by
  unfold dNo at z
  cases z
theorem NAt.put {H : Hp} {kvs : NT} {k : SK} {b : Addr} {v : V} (h : NAt H kvs) (hb : SpotAt H b k) : NAt H (putN kvs k b v) := fun e he => by
  unfold putN at he
  split at he
  · obtain ⟨x, hx, rfl⟩ := List.mem_map.mp he
    split
    · exact h x hx
    · exact h x hx
  · rcases List.mem_append.mp he with z | z
    · exact h e z
    · rw [List.mem_singleton.mp z]
      exact hb
theorem NAt.ex {H H' : Hp} {kvs : NT} (e : Ex H H') (h : NAt H kvs) : NAt H' kvs := fun x hx => (h x hx).ex e
theorem NAt.mutG {H : Hp} {U : Addr} {kvs : NT} {o : HO} (hU : ∀ xs, H U ≠ some (.tup xs)) (h : NAt H kvs) : NAt (upd H U o) kvs := fun x hx => (h x hx).mutG hU
theorem ND.ex {P : Program} {w : World} {H H' : Hp} {a : Addr} {kvs : NT} (e : Ex H H') (h : ND P w H a kvs) : ND P w H' a kvs := ⟨e _ _ h.1, h.2.ex e⟩
/-! the pairs, side by side -/
theorem np_val {kvs : NT} {xs : List (NestedKey × Addr × Value)} (r : Paired NP kvs xs) (k : SK) : RelO (valN kvs k) ((atKey xs (nk k)).map (·.2)) := by
  induction r with
  | nil => exact True.intro
  | @cons p q ps qs h t ih =>
    obtain ⟨h1, _, h2⟩ := h
    by_cases e : p.1 = k
    · have e' : q.1 = nk k := by rw [← h1, e]
      have b : atKey (q :: qs) (nk k) = some q.2 := by simp [atKey, List.find?_cons, e']
      rw [valN_pos e, b]
      exact h2
    · have e' : ¬ q.1 = nk k := fun z => e (nk_inj (h1.trans z))
      have b : atKey (q :: qs) (nk k) = atKey qs (nk k) := by simp [atKey, List.find?_cons, e']
      rw [valN_neg e, b]
      exact ih
theorem np_repl {kvs : NT} {xs : List (NestedKey × Addr × Value)} (r : Paired NP kvs xs) (k : SK) {y : V} {u : Value} (ry : RelV y u) :
    Paired NP (kvs.map fun e => if e.1 = k then (e.1, e.2.1, y) else e) (xs.map (putAt (nk k) u)) := by
  induction r with
  | nil => exact .nil
  | @cons p q ps qs h t ih =>
    rw [List.map_cons, List.map_cons]
    refine .cons ?_ ih
    obtain ⟨h1, h2, h3⟩ := h
    unfold putAt
    by_cases e : p.1 = k
    · rw [if_pos e, if_pos (by rw [← h1, e])]
      exact ⟨h1, h2, ry⟩
    · rw [if_neg e, if_neg (fun z => e (nk_inj (h1.trans z)))]
      exact ⟨h1, h2, h3⟩
theorem np_put {kvs : NT} {xs : List (NestedKey × Addr × Value)} (r : Paired NP kvs xs) (k : SK) (b : Addr) {y : V} {u : Value} (ry : RelV y u) : Paired NP (putN kvs k b y) (storedH xs (nk k) b u) := by
  have e : (valN kvs k).isSome = (atKey xs (nk k)).isSome := by
    rw [(np_val r k).isSome_eq, Option.isSome_map]
  unfold putN storedH
  rw [e]
  by_cases q : (atKey xs (nk k)).isSome = true
  · rw [if_pos q, if_pos q]
    exact np_repl r k ry
  · rw [if_neg q, if_neg q]
    exact Paired.snoc r ⟨rfl, rfl, ry⟩
section
variable {X : Cx} {pins : List (Addr × Obj)} {σ : L2.St} {H : Hp} {s : Shared}
theorem spot_is {P : Program} {w : World} {H : Hp} {h : Heap} (ok : HOk P w H h) {b : Addr} {k : SK} (e : SpotAt H b k) : (nestedKind P w).is h (nk k) b := by
  obtain ⟨its, o, n, r, g1, g2, g3⟩ := tup_at ok e
  refine ⟨?_, by simp [nk, NestedKey.depth, NestedKey.depthAll]⟩
  cases r with
  | cons r1 r =>
    cases r with
    | cons r2 r =>
      cases r with
      | cons r3 r =>
        cases r with
        | cons r4 r =>
          cases r
          obtain ⟨t1, rfl⟩ := (show ∃ t, _ = Value.int _ t from r1)
          obtain ⟨t2, rfl⟩ := (show ∃ t, _ = Value.int _ t from r2)
          obtain ⟨t3, rfl⟩ := (show ∃ t, _ = Value.int _ t from r3)
          obtain ⟨t4, rfl⟩ := (show ∃ t, _ = Value.int _ t from r4)
          exact .tup g1 g2 g3 (.cons (.int _ _) (.cons (.int _ _) (.cons (.int _ _) (.cons (.int _ _) .nil))))
theorem nd_of {P : Program} {w : World} {H : Hp} {h : Heap} (ok : HOk P w H h) {a : Addr} {kvs : NT} (e : ND P w H a kvs) : kvs.length ≤ sizeLine ∧ (a == sysModules) = false ∧ ∃ xs, Paired NP kvs xs ∧ h.DictOfH (nestedKind P w) a xs := by
  obtain ⟨e1, e2⟩ := e
  have x : ObjOk P w H h a (dNo P w a kvs) := ok a _ e1
  obtain ⟨⟨z, y, xs, r, o, es, ep, h1, h2, h3, h4, h5⟩, _, _⟩ := x
  refine ⟨z, y, xs, r, o, es, ep, h1, h2, h3, h4, ?_, h5⟩
  have all : ∀ {l : NT} {m : List (NestedKey × Addr × Value)}, Paired NP l m → NAt H l → ∀ x ∈ m, (nestedKind P w).is h x.1 x.2.1 := by
    intro l m q
    induction q with
    | nil => intro _ x hx; exact nomatch hx
    | @cons p q ps qs hq t ih =>
      intro hn x hx
      rcases List.mem_cons.mp hx with e | hx
      · subst e
        have := spot_is ok (hn p List.mem_cons_self)
        rw [hq.1, hq.2.1] at this
        exact this
      · exact ih (fun e he => hn e (List.mem_cons_of_mem _ he)) x hx
  exact all r e2
theorem n_room {A : Around} (hu : A.units + 65 < cLine) : (nestedKind X.prog X.w).room A.in1 := by
  show A.units + 1 + 8 < cLine
  omega
theorem dNo_ok {P : Program} {w : World} {H : Hp} {h : Heap} {a : Addr} {kvs : NT} (z : kvs.length ≤ sizeLine) (y : (a == sysModules) = false) {xs : List (NestedKey × Addr × Value)} (r : Paired NP kvs xs)
    (d : ∃ o es ep, h.get? a = some o ∧ o.ExactDict ∧ o.data = .dict es ep ∧ es.toList = xs.map (entryOfKey (nestedKind P w)) ∧ (xs.map (·.1)).Nodup) : ObjOk P w H h a (dNo P w a kvs) := by
  refine ⟨⟨z, y, xs, r, d⟩, ?_, ?_⟩
  · obtain ⟨o, _, _, h1, _⟩ := d
    exact ⟨o, h1⟩
  · rintro h1 h2 ⟨z', y', xs', r', o, es, ep, g1, g2⟩ hk
    exact ⟨z', y', xs', r', o, es, ep, hk o g1, g2⟩
end
/-! the rules -/
def rNotInN (P : Program) (w : World) : R2 := fun x y H Q => ∃ a kvs b k, x = .ref b ∧ y = .ref a ∧ ND P w H a kvs ∧ SpotAt H b k ∧ Q (.bl (!(valN kvs k).isSome)) H
theorem op_notInN {X : Cx} (hu : X.A.units + 65 < cLine) : OpR X (compareOp .NotIn) (rNotInN X.prog X.w) := by
  intro pins s σ H x y v u Q I rx ry h
  obtain ⟨a, kvs, b, k, rfl, rfl, hd, hb, q⟩ := h
  cases (show v = Value.ref b from rx)
  cases (show u = Value.ref a from ry)
  obtain ⟨z, hs, xs, rel, dd⟩ := nd_of I.hok hd
  refine wpAny_notIn_heap (n_room hu) (spot_is I.hok hb) hs dd ?_
  have e := (np_val rel k).isSome_eq
  rw [Option.isSome_map] at e
  rw [← e]
  exact ⟨.bl _, H, I.tok _, rfl, q⟩
def tNGet (P : Program) (w : World) (td ty : TE) : TE := fun σ H Q => td σ H fun x H1 => ty σ H1 fun y H2 => ∃ a kvs b k v, x = .ref a ∧ y = .ref b ∧ ND P w H2 a kvs ∧ SpotAt H2 b k ∧ valN kvs k = some v ∧ Q v H2
theorem pe_nget {X : Cx} {o i : Expr} {pos : Pos} {td ty : TE} (hu : X.A.units + 65 < cLine) (ho : PE X o td) (hi : PE X i ty) (hs : NoSl i) : PE X (.Subscript o i pos) (tNGet X.prog X.w td ty) := by
  refine ⟨fun pins s σ H Q I h => ?_⟩
  refine subD_of PySem.F.slot_dict_getitem.lookup hs (thn (ho.run pins s σ H _ I h) fun u s1 ⟨x, H1, I1, rx, q1⟩ => thn (hi.run pins s1 σ H1 _ I1 q1) fun iv s2 ⟨y, H2, I2, ry, a, kvs, b, k, v, ex, ey, hd, hb, hv, q2⟩ => ?_)
  subst ex ey
  obtain rfl : u = Value.ref a := rx
  obtain rfl : iv = Value.ref b := ry
  obtain ⟨z, hs2, xs, rel, dd⟩ := nd_of I2.hok hd
  refine ⟨dd.typeIs, ?_⟩
  obtain ⟨w', hw, rw'⟩ := RelO.some_of (v := v) (o := (atKey xs (nk k)).map (·.2)) (by rw [← hv]; exact np_val rel k)
  obtain ⟨p, hp, hp2⟩ := Option.map_eq_some_iff.mp hw
  refine wpAny_getItem_heap (n_room hu) (spot_is I2.hok hb) dd hp ?_
  rw [hp2]
  exact ⟨v, H2, I2.tok _, rw', q2⟩
def sNPut (P : Program) (w : World) (td ty tv : TE) : TS := fun D σ H => tv σ H fun v H1 => td σ H1 fun x H2 => ty σ H2 fun y H3 => ∃ a kvs b k, x = .ref a ∧ y = .ref b ∧ ND P w H3 a kvs ∧ SpotAt H3 b k ∧ kvs.length < sizeLine ∧ D.nx σ (upd H3 a (dNo P w a (putN kvs k b v)))
theorem ps_nput {X : Cx} {o i value : Expr} {pos pos' : Pos} {td ty tv : TE} (hu : X.A.units + 65 < cLine) (ho : PE X o td) (hi : PE X i ty) (hv : PE X value tv) (hs : swapsWith value (some (.Subscript o i pos')) pos.line X.env = pure false) :
    PS X (.Assign [.Subscript o i pos'] value pos) (sNPut X.prog X.w td ty tv) := by
  refine ⟨fun pins s σ H D I h => ?_⟩
  refine wpAny_Assign_Subscript (thn (hv.run pins s σ H _ I h) fun r s1 ⟨v, H1, I1, rv, q1⟩ => thn (ho.run pins s1 σ H1 _ I1 q1) fun u s2 ⟨x, H2, I2, rx, q2⟩ => thn (hi.run pins s2 σ H2 _ I2 q2) fun iv s3 ⟨y, H3, I3, ry, a, kvs, b, k, ex, ey, hd, hb, hl, q3⟩ => ?_) hs
  subst ex ey
  obtain rfl : u = Value.ref a := rx
  obtain rfl : iv = Value.ref b := ry
  obtain ⟨z, hs2, xs, rel, dd⟩ := nd_of I3.hok hd
  have hz : xs.length ≤ sizeLine := by rw [← Paired.length rel]; exact z
  have hl2 : (putN kvs k b v).length ≤ sizeLine := by
    have := putN_len kvs k b v
    omega
  refine wpAny_setItem_heap (hsz := hz) (n_room hu) (spot_is I3.hok hb) dd fun h' dd' hsb => ?_
  obtain ⟨q, es, ep, hq, h2, h3, h4, _, h5⟩ := dd'
  refine ⟨σ, _, d_write I3 (by rw [hd.1]; exact True.intro) hsb ⟨q, hq⟩ (dNo_ok hl2 hs2 (np_put rel k b rv) ⟨q, es, ep, hq, h2, h3, h4, h5⟩), q3⟩
def tNNew (P : Program) (w : World) : TE := fun _ H Q => ∀ p, H p = none → Q (.ref p) (upd H p (dNo P w p []))
theorem pe_nnew {X : Cx} {pos : Pos} : PE X (.Dict [] [] pos) (tNNew X.prog X.w) := ⟨fun pins s σ H Q I h =>
  wpAny_Dict_empty ⟨.ref s.heap.objs.size, _, I.laid (a := s.heap.objs.size) (o := dNo X.prog X.w s.heap.objs.size []) (t' := s.toks) (fun _ _ q => Heap.get?_push_of_some _ q) (Nat.le_refl _)
    (dNo_ok (xs := []) (Nat.zero_le _) (beq_eq_false_iff_ne.mpr (Ne.symm (Nat.ne_of_lt I.big))) .nil ⟨_, #[], 0, Heap.get?_push_size _ rfl, ⟨rfl, rfl, rfl⟩, rfl, rfl, List.nodup_nil⟩), rfl, h _ (I.hok.fresh (Nat.le_refl _))⟩⟩
end Fl
/-! ### the program's own table of what is enough -/
theorem Fl.tup_ne {P : Program} {w : World} {a : Addr} {kvs : NT} {xs : List V} : HO.tup xs ≠ Fl.dNo P w a kvs := fun z => Fl.dNo_ne_tup z.symm
theorem Fl.lst_ne {P : Program} {w : World} {a : Addr} {kvs : NT} {xs : List V} : HO.lst xs ≠ Fl.dNo P w a kvs := fun z => Fl.dNo_ne_lst z.symm
theorem KpD.atF {P : Program} {w : World} {d x : Addr} {H H' : Hp} {kvs : NT} {o : HO} (a : KpD d H H') (hd : H d = some (Fl.dNo P w d kvs)) (h : H x = some o) (ne : o ≠ Fl.dNo P w d kvs) : H' x = some o := a x o (ne_of h hd ne) h
theorem KpD.pairsF {P : Program} {w : World} {d : Addr} {H H' : Hp} {kvs : NT} (a : KpD d H H') (hd : H d = some (Fl.dNo P w d kvs)) : ∀ {us : List Addr} {ps : List (Int × Int)}, AtPairs H us ps → AtPairs H' us ps
  | _, _, .nil => .nil
  | _, _, .cons h t => .cons (a.atF hd h Fl.tup_ne) (a.pairsF hd t)
theorem Fl.ND.put {P : Program} {w : World} {H : Hp} {d b : Addr} {kvs : NT} {k : SK} {v : V} (h : Fl.ND P w H d kvs) (hb : Fl.SpotAt H b k) : Fl.ND P w (upd H d (Fl.dNo P w d (putN kvs k b v))) d (putN kvs k b v) :=
  ⟨upd_same, (h.2.put hb).mutG fun xs z => Fl.dNo_ne_tup (Option.some.inj (h.1.symm.trans z))⟩
structure FPre (P : Program) (w : World) (L : Int) (H : Hp) (d : Addr) (kvs : NT) : Prop where
  dict : Fl.ND P w H d kvs
  tab : Tab kvs
  ok : ∀ k v, valN kvs k = some v → Right false L k v
structure FPost (P : Program) (w : World) (L : Int) (H H' : Hp) (d : Addr) (kvs' : NT) : Prop where
  kp : KpD d H H'
  pre : FPre P w L H' d kvs'
theorem FPre.ex {P : Program} {w : World} {L : Int} {H H' : Hp} {d : Addr} {kvs : NT} (e : Ex H H') (h : FPre P w L H d kvs) : FPre P w L H' d kvs := ⟨h.dict.ex e, h.tab, h.ok⟩
theorem FPost.refl {P : Program} {w : World} {L : Int} {H : Hp} {d : Addr} {kvs : NT} (h : FPre P w L H d kvs) : FPost P w L H H d kvs := ⟨KpD.refl d H, h⟩
theorem FPost.ex {P : Program} {w : World} {L : Int} {H H' : Hp} {d : Addr} {kvs : NT} (e : Ex H H') (h : FPre P w L H d kvs) : FPost P w L H H' d kvs := ⟨KpD.ex e, h.ex e⟩
theorem FPost.trans {P : Program} {w : World} {L : Int} {H H1 H2 : Hp} {d : Addr} {k1 k2 : NT} (a : FPost P w L H H1 d k1) (b : FPost P w L H1 H2 d k2) : FPost P w L H H2 d k2 := ⟨a.kp.trans b.kp, b.pre⟩
/-- the first other place by which so many are enough -/
def FirstOn (L m a b p : Int) (v : V) : Prop := (v = .non ∧ ∀ q, 1 ≤ q → q ≤ L → q ≠ p → ¬ Good false L m.toNat a b p q) ∨
  ∃ q, v = .int q ∧ (1 ≤ q ∧ q ≤ L) ∧ q ≠ p ∧ Good false L m.toNat a b p q ∧ ∀ r, 1 ≤ r → r < q → r ≠ p → ¬ Good false L m.toNat a b p r
def sp_stands_are_enough (K : PySem.W.Frag) (P : Program) (w : World) (N : Nat) : Sp := fun vs H Q _ => ∃ (d s : Addr) (L a b p m : Int) (kvs : NT), vs = [.int L, .ref s, .int p, .int m, .ref d] ∧ 0 ≤ m ∧ m < N ∧ m < 64 ∧ L ≤ 16 ∧ H s = some (.tup [.int a, .int b]) ∧ 1 ≤ a ∧ a ≤ b ∧ b ≤ L ∧ 1 ≤ p ∧ p ≤ L ∧ FPre P w L H d kvs ∧
  ∀ H' (c : Bool) kvs', FPost P w L H H' d kvs' → (c = true ↔ En false L m.toNat a b p) → Q (.bl c) H'
def sp_first_onward (K : PySem.W.Frag) (P : Program) (w : World) (N : Nat) : Sp := fun vs H Q _ => ∃ (d s : Addr) (L a b p m : Int) (kvs : NT), vs = [.int L, .ref s, .int p, .int m, .ref d] ∧ 1 ≤ m ∧ m ≤ N ∧ m < 64 ∧ L ≤ 16 ∧ H s = some (.tup [.int a, .int b]) ∧ 1 ≤ a ∧ a ≤ b ∧ b ≤ L ∧ 1 ≤ p ∧ p ≤ L ∧ FPre P w L H d kvs ∧
  ∀ H' v kvs', FPost P w L H H' d kvs' → FirstOn L m a b p v → Q v H'
theorem FPre.new {P : Program} {w : World} {L : Int} {H : Hp} {d : Addr} : FPre P w L (upd H d (Fl.dNo P w d [])) d [] :=
  ⟨⟨upd_same, fun e he => (nomatch he)⟩, ⟨List.nodup_nil, fun e he => (nomatch he)⟩, fun k v hv => (by cases hv)⟩
theorem KpD.new {d : Addr} {H H' : Hp} {o : HO} (nd : H d = none) (k : KpD d (upd H d o) H') : Ex H H' := fun x u hx => by
  have ne : x ≠ d := ne_of_none hx nd
  exact k x u ne (by rw [upd_ne ne]; exact hx)
theorem AtPairs.zips {H : Hp} : ∀ {us : List Addr} {ps : List (Int × Int)}, AtPairs H us ps → ∃ zs : List (Addr × Int × Int), zs.map (·.1) = us ∧ zs.map (·.2) = ps ∧ ∀ z ∈ zs, H z.1 = some (.tup [.int z.2.1, .int z.2.2])
  | _, _, .nil => ⟨[], rfl, rfl, fun z hz => (nomatch hz)⟩
  | _, _, .cons (u := u) (p := p) h t => by
    obtain ⟨zs, rfl, rfl, h3⟩ := t.zips
    refine ⟨(u, p) :: zs, rfl, rfl, fun z hz => ?_⟩
    rcases List.mem_cons.mp hz with e | e
    · rw [e]
      exact h
    · exact h3 z e
theorem no_stands_are_enough {K : PySem.W.Frag} {P : Program} {w : World} {vs : List V} {H : Hp} {Q : VK} {E : XK} (h : sp_stands_are_enough K P w 0 vs H Q E) : False := by
  obtain ⟨d, s, L, a, b, p, m, kvs, _, hm0, hmN, _⟩ := h
  omega
abbrev N_stands_are_enough : List Str := ["length", "stretch", "place", "many", "known", "low", "high", "state"]
def t_stands_are_enough (K : PySem.W.Frag) (P : Program) (w : World) (N : Nat) : TS := (tSeq (tAsg (tVar 1) (gTup K 2 (gCons (gName 5) (gCons (gName 6) gNil))))
  (tSeq (tIfS (tTest (tOp rEq (tVar 5) (tVar 6))) (tRet (tC (.bl true))) tNext)
  (tSeq (tIfS (tTest (tOp (rI0 fun i j => .bl (decide (j ≤ i))) (tOp (rI0 fun i j => .int (i + j)) (tOp (rI0 fun i j => .int (i - j)) (tVar 6) (tVar 5)) (tC (.int 1))) (tOp (rI CPow fun i j => .int (i * 2 ^ j.toNat)) (tC (.int 2)) (tVar 3)))) (tRet (tC (.bl false))) tNext)
  (tSeq (tAsg (tTup (tCons (tVar 5) (tCons (tVar 6) (tCons (tVar 2) (tCons (tVar 3) tNil))))) (gName 7))
  (Evl.tCut (tIfS (tTest (tOp (Fl.rNotInN P w) (tVar 7) (tVar 4))) (Fl.sNPut P w (tVar 4) (tVar 7) (tOp (fun x y H Q => y = .non ∧ Q (.bl (!decide (x = .non))) H) (tCall (sp_first_onward K P w N) [] E0 (tCons (tVar 0) (tCons (tVar 1) (tCons (tVar 2) (tCons (tVar 3) (tCons (tVar 4) tNil)))))) (tC .non))) tNext)
  (tRet (Fl.tNGet P w (tVar 4) (tVar 7))))))))
theorem pure_stands_are_enough {K : PySem.W.Frag} {P : Program} {w : World} {N : Nat} {vs : List V} {H : Hp} {Q : VK} {E : XK} (h : sp_stands_are_enough K P w (N + 1) vs H Q E) : t_stands_are_enough K P w N { nx := fun _ H' => Q .non H', rt := Q } (start N_stands_are_enough vs) H := by
  obtain ⟨d, s, L, a, b, p, m, kvs, rfl, hm0, hmN, hm64, hL, hs, h1, h2, h3, h4, h5, hpre, q⟩ := h
  refine ⟨_, rfl, s, _, rfl, SqT.of hs, rfl, _, _, rfl, _, [], rfl, rfl, ?_⟩
  refine ⟨_, rfl, _, rfl, rfl, _, rfl, ite2 (fun e => ?_) (fun e => ?_)⟩
  · have e := V.int.inj (of_decide_eq_true e)
    subst e
    exact q H true kvs (FPost.refl hpre) ⟨fun _ => .one, fun _ => rfl⟩
  · have n0 : ¬ a = b := fun z => e (decide_eq_true (congrArg V.int z))
    refine ⟨_, rfl, _, rfl, b, a, rfl, rfl, b - a, 1, rfl, rfl, _, rfl, 2, m, rfl, rfl, ⟨hm0, by omega, by decide⟩, _, _, rfl, rfl, _, rfl, ite2 (fun e => ?_) (fun e => ?_)⟩
    · have e := of_decide_eq_true e
      refine q H false kvs (FPost.refl hpre) ⟨fun z => (by cases z), fun z => ?_⟩
      have := en_wide z
      rw [Int.pow_succ, Int.mul_comm] at this
      omega
    · have e : ¬ (2 * 2 ^ m.toNat ≤ b - a + 1) := fun z => e (decide_eq_true z)
      have hm1 : 1 ≤ m := by
        by_cases z : m = 0
        · rw [z] at e
          exfalso
          apply e
          show (2 : Int) * 2 ^ 0 ≤ b - a + 1
          omega
        · omega
      refine ⟨_, rfl, _, rfl, _, rfl, _, rfl, by show 4 ≤ sizeLine; decide, fun t nt => ?_⟩
      have e1 : Ex H (upd H t (.tup [.int a, .int b, .int p, .int m])) := Ex.new nt
      have ht1 : Fl.SpotAt (upd H t (.tup [.int a, .int b, .int p, .int m])) t (a, b, p, m) := upd_same
      have hpre1 := hpre.ex e1
      have hs1 := e1 _ _ hs
      have kp1 : KpD d H (upd H t (.tup [.int a, .int b, .int p, .int m])) := KpD.ex e1
      generalize upd H t (.tup [.int a, .int b, .int p, .int m]) = H1 at ht1 hpre1 hs1 kp1 ⊢
      have hbox : InBox (a, b, p, m) := ⟨⟨h1, by show a ≤ 16; omega⟩, ⟨by show 1 ≤ b; omega, by show b ≤ 16; omega⟩, ⟨h4, by show p ≤ 16; omega⟩, hm0, hm64⟩
      have hd1 := hpre1.dict.1
      have hab : a < b := by omega
      refine ⟨fun σ H' => ∃ (kvs' : NT) (c : Bool), σ = [some (.int L), some (.ref s), some (.int p), some (.int m), some (.ref d), some (.int a), some (.int b), some (.ref t)] ∧ FPost P w L H1 H' d kvs' ∧ valN kvs' (a, b, p, m) = some (.bl c) ∧ (c = true ↔ En false L m.toNat a b p), ?_, ?_⟩
      · refine ⟨_, rfl, _, rfl, d, kvs, t, (a, b, p, m), rfl, rfl, hpre1.dict, ht1, _, rfl, ite2 (fun hin => ?_) (fun hin => ?_)⟩
        · refine ⟨_, rfl, _, rfl, _, rfl, _, rfl, _, rfl, d, s, L, a, b, p, m, kvs, rfl, hm1, by omega, hm64, hL, hs1, h1, h2, h3, h4, h5, hpre1, fun H2 v kvs2 hp2 hv => ?_⟩
          have ht2 : Fl.SpotAt H2 t (a, b, p, m) := hp2.kp.atF hd1 ht1 Fl.tup_ne
          have hc : (!decide (v = V.non)) = true ↔ En false L m.toNat a b p := by
            rw [en_good hab]
            rcases hv with ⟨rfl, hno⟩ | ⟨q', rfl, hq', ne', hg, _⟩
            · constructor
              · intro z
                exact absurd z (by decide)
              · rintro ⟨q', ⟨z1, z2⟩, ne', hg⟩
                exact absurd hg (hno q' z1 z2 ne')
            · exact ⟨fun _ => ⟨q', hq', ne', hg⟩, fun _ => rfl⟩
          refine ⟨rfl, _, rfl, _, rfl, d, kvs2, t, (a, b, p, m), rfl, rfl, hp2.pre.dict, ht2, hp2.pre.tab.len, putN kvs2 (a, b, p, m) t (.bl (!decide (v = V.non))), !decide (v = V.non), rfl, ⟨hp2.kp.put, hp2.pre.dict.put ht2, hp2.pre.tab.put hbox, fun k v2 hv2 => ?_⟩, by rw [valN_put, if_pos rfl], hc⟩
          rw [valN_put] at hv2
          by_cases hk : k = (a, b, p, m)
          · rw [if_pos hk] at hv2
            cases hv2
            rw [hk]
            exact ⟨_, rfl, hc⟩
          · rw [if_neg hk] at hv2
            exact hp2.pre.ok k v2 hv2
        · obtain ⟨v, hv⟩ : ∃ v, valN kvs (a, b, p, m) = some v := by
            cases hv : valN kvs (a, b, p, m) with
            | none =>
              rw [hv] at hin
              exact absurd rfl hin
            | some x => exact ⟨x, rfl⟩
          obtain ⟨c, rfl, hc⟩ := hpre1.ok _ v hv
          exact ⟨kvs, c, rfl, FPost.refl hpre1, hv, hc⟩
      · rintro σ H3 ⟨kvs3, c, rfl, hp3, hval, hiff⟩
        have ht3 : Fl.SpotAt H3 t (a, b, p, m) := hp3.kp.atF hd1 ht1 Fl.tup_ne
        refine ⟨_, rfl, _, rfl, d, kvs3, t, (a, b, p, m), .bl c, rfl, rfl, hp3.pre.dict, ht3, hval, ?_⟩
        exact q H3 c kvs3 ⟨kp1.trans hp3.kp, hp3.pre⟩ hiff
theorem len_stands_are_enough {K : PySem.W.Frag} {P : Program} {w : World} {N : Nat} {vs : List V} {H : Hp} {Q : VK} {E : XK} (h : sp_stands_are_enough K P w N vs H Q E) : vs.length = 5 := by
  obtain ⟨d, s, L, a, b, p, m, kvs, rfl, _⟩ := h
  rfl
abbrev N_first_onward : List Str := ["length", "stretch", "place", "many", "known", "onward", "parts", "part"]
def t_first_onward (K : PySem.W.Frag) (P : Program) (w : World) (N : Nat) : TS := (tSeq (tFor (iList K (tCall (sp_other_places K) [] E0 (tCons (tVar 0) (tCons (tVar 2) tNil)))) (gName 5) (tSeq (tAsg (tCall (sp_parts_of K) [] E0 (tCons (tVar 1) (tCons (tVar 2) (tCons (tVar 5) tNil)))) (gName 6))
  (tIfS (tB (tCB (rAll K) (tCons (tLc (iList K (tVar 6)) (gName 7) tYes (tCall (sp_stands_are_enough K P w N) [] E0 (tCons (tVar 0) (tCons (tVar 7) (tCons (tVar 5) (tCons (tOp (rI0 fun i j => .int (i - j)) (tVar 3) (tC (.int 1))) (tCons (tVar 4) tNil)))))) [7]) tNil))) (tRet (tVar 5)) tNext)))
  (tRet (tC .non)))
theorem pure_first_onward {K : PySem.W.Frag} {P : Program} {w : World} {N : Nat} {vs : List V} {H : Hp} {Q : VK} {E : XK} (h : sp_first_onward K P w N vs H Q E) : t_first_onward K P w N { nx := fun _ H' => Q .non H', rt := Q } (start N_first_onward vs) H := by
  obtain ⟨d, s, L, a, b, p, m, kvs, rfl, hm1, hmN, hm64, hL, hs, h1, h2, h3, h4, h5, hpre, q⟩ := h
  refine ⟨_, rfl, _, rfl, L, p, rfl, by omega, by omega, fun O H1 nO e1 hO => ?_⟩
  refine ⟨O, rfl, ⟨_, SqL.of hO⟩, ?_⟩
  have hpre1 := hpre.ex e1
  have hs1 := e1 _ _ hs
  have hd1 := hpre1.dict.1
  have kp1 : KpD d H H1 := KpD.ex e1
  refine for_list (K := K) (a := O) (xs := (others L p).map V.int) (fun i σ H' => ∃ (x5 x6 x7 : Option V) (kvs' : NT), σ = [some (.int L), some (.ref s), some (.int p), some (.int m), some (.ref d), x5, x6, x7] ∧ FPost P w L H1 H' d kvs' ∧ ∀ r ∈ (others L p).take i, ¬ Good false L m.toNat a b p r)
    ⟨none, none, none, kvs, rfl, FPost.refl hpre1, fun r hr => (nomatch hr)⟩ (fun i σ H' _ ⟨_, _, _, _, _, hp, _⟩ => SqL.of (hp.kp.atF hd1 hO Fl.lst_ne)) ?_ ?_
  · rintro i x σ H2 hx ⟨x5, x6, x7, kvs2, rfl, hp2, hno⟩
    obtain ⟨q', hq', rfl⟩ : ∃ q', (others L p)[i]? = some q' ∧ x = .int q' := by
      rw [List.getElem?_map] at hx
      cases hg : (others L p)[i]? with
      | none => rw [hg] at hx; cases hx
      | some u =>
        rw [hg] at hx
        exact ⟨u, rfl, (Option.some.inj hx).symm⟩
    obtain ⟨⟨hq1, hqL⟩, hne⟩ := mem_others.mp (List.mem_of_getElem? hq')
    have hs2 := hp2.kp.atF hd1 hs1 Fl.tup_ne
    have hd2 := hp2.pre.dict.1
    refine ⟨_, rfl, _, rfl, _, rfl, s, a, b, p, q', rfl, hs2, fun C H3 us nC e3 hC hps => ?_⟩
    have hp3 : FPre P w L H3 d kvs2 := hp2.pre.ex e3
    have hd3 := hp3.dict.1
    have hpl := parts_len a b p q'
    have hul := hps.len
    refine ⟨_, rfl, C, rfl, ⟨_, SqL.of hC⟩, fun D nD => ?_⟩
    have e4 : Ex H3 (upd H3 D (.lst [])) := Ex.new nD
    have nDd : D ≠ d := ne_of_none hd3 nD |>.symm
    have hin : ∀ z ∈ partsOf a b p q', 1 ≤ z.1 ∧ z.1 ≤ z.2 ∧ z.2 ≤ L := fun z hz => by
      obtain ⟨c, e⟩ := z
      obtain ⟨w', hw'⟩ := (parts_cut hne).mp hz
      have := hw'.sub
      have := hw'.1
      exact ⟨by show 1 ≤ c; omega, this, by show e ≤ L; omega⟩
    refine lc_list (K := K) (a := C) (xs := us.map V.ref) (fun j H' => ∃ (kvs' : NT) (bs : List Bool), FPost P w L H3 H' d kvs' ∧ H' D = some (.lst (bs.map V.bl)) ∧ bs.length = j ∧ (bs.all id = true ↔ ∀ z ∈ (partsOf a b p q').take j, En false L (m - 1).toNat z.1 z.2 q'))
      ⟨kvs2, [], FPost.ex e4 hp3, upd_same, rfl, ⟨fun _ z hz => (nomatch hz), fun _ => rfl⟩⟩ (fun j H' _ ⟨kvs', _, hp, _⟩ => SqL.of (hp.kp.atF hd3 hC Fl.lst_ne)) (fun j x H4 hx ⟨kvs', bs, hp, hD, hbl, hiff⟩ => ?_) (fun H4 ⟨kvs', bs, hp, hD, hbl, hiff⟩ => ?_)
    · have hj : j < us.length := by
        have := (List.getElem?_eq_some_iff.mp hx).1
        rw [List.length_map] at this
        exact this
      rw [List.getElem?_map, List.getElem?_eq_getElem hj] at hx
      have ex : x = .ref us[j] := (Option.some.inj hx).symm
      subst ex
      have hps4 := hp.kp.pairsF hd3 hps
      obtain ⟨z, hz, hzat⟩ := hps4.at (List.getElem?_eq_getElem hj)
      have hzv := hin z (List.mem_of_getElem? hz)
      refine ⟨rfl, ?_⟩
      dsimp only [tYes]
      rw [if_pos rfl]
      refine ⟨_, rfl, _, rfl, _, rfl, _, rfl, m, 1, rfl, rfl, _, rfl, d, us[j], L, z.1, z.2, q', m - 1, kvs', rfl, by omega, by omega, by omega, hL, hzat, hzv.1, hzv.2.1, hzv.2.2, hq1, hqL, hp.pre, fun H5 c kvs5 hp5 hc => ?_⟩
      have hD5 : H5 D = some (.lst (bs.map V.bl)) := hp5.kp.atF hp.pre.dict.1 hD Fl.lst_ne
      have hp35 := hp.trans hp5
      refine ⟨_, hD5, ?_, kvs5, bs ++ [c], ⟨?_, ⟨⟨?_, ?_⟩, hp35.pre.tab, hp35.pre.ok⟩⟩, ?_, ?_, ?_⟩
      · rw [List.length_map, hbl]
        exact small1000 (by omega)
      · intro y o ny hy
        rw [upd_ne (ne_of_none hy nD)]
        exact hp35.kp y o ny hy
      · rw [upd_ne nDd.symm]
        exact hp35.pre.dict.1
      · refine hp35.pre.dict.2.mutG fun xs zz => ?_
        rw [hD5] at zz
        cases zz
      · rw [upd_same, List.map_append]
        rfl
      · rw [List.length_append, hbl]
        rfl
      · rw [List.all_append, Bool.and_eq_true, hiff, List.take_add_one, hz]
        have e1 : ([c].all id = true) ↔ c = true := by
          show ((id c && true) = true) ↔ c = true
          rw [Bool.and_true]
          exact Iff.rfl
        rw [e1, hc]
        constructor
        · rintro ⟨g1, g2⟩ y hy
          rcases List.mem_append.mp hy with hy | hy
          · exact g1 y hy
          · have : y = z := by simpa using hy
            rw [this]
            exact g2
        · intro g
          exact ⟨fun y hy => g y (List.mem_append.mpr (.inl hy)), g z (List.mem_append.mpr (.inr (by simp)))⟩
    · rw [List.length_map, hul, List.take_length] at hiff
      refine ⟨D, bs, rfl, SqL.of hD, _, rfl, ?_⟩
      have hpall : FPost P w L H1 H4 d kvs' := ⟨(hp2.kp.trans (KpD.ex e3)).trans hp.kp, hp.pre⟩
      have hg : bs.all id = true ↔ Good false L m.toNat a b p q' := by
        rw [hiff, good_parts hne]
        have ec : cost false p q' = 1 := rfl
        have em : m.toNat - 1 = (m - 1).toNat := by omega
        rw [ec, em]
        exact ⟨fun z => ⟨by omega, z⟩, fun z => z.2⟩
      refine ite2 (fun hall => ?_) (fun hall => ?_)
      · refine ⟨_, rfl, q H4 (.int q') kvs' ⟨kp1.trans hpall.kp, hpall.pre⟩ (.inr ⟨q', rfl, ⟨hq1, hqL⟩, hne, hg.mp hall, fun r r1 r2 r3 => ?_⟩)⟩
        exact hno r (up_take (others_up L p) hq' (mem_others.mpr ⟨⟨r1, by omega⟩, r3⟩) r2)
      · refine ⟨_, _, _, kvs', rfl, hpall, fun r hr => ?_⟩
        rw [List.take_add_one, hq'] at hr
        rcases List.mem_append.mp hr with hr | hr
        · exact hno r hr
        · have : r = q' := by simpa using hr
          rw [this]
          exact fun z => hall (hg.mpr z)
  · rintro σ H2 ⟨x5, x6, x7, kvs2, rfl, hp2, hno⟩
    rw [List.length_map, List.take_length] at hno
    refine q H2 .non kvs2 ⟨kp1.trans hp2.kp, hp2.pre⟩ (.inl ⟨rfl, fun r r1 r2 r3 => hno r (mem_others.mpr ⟨⟨r1, r2⟩, r3⟩)⟩)
theorem len_first_onward {K : PySem.W.Frag} {P : Program} {w : World} {N : Nat} {vs : List V} {H : Hp} {Q : VK} {E : XK} (h : sp_first_onward K P w N vs H Q E) : vs.length = 5 := by
  obtain ⟨d, s, L, a, b, p, m, kvs, rfl, _⟩ := h
  rfl
def sp_stands_from (K : PySem.W.Frag) : Sp := GoSp K
abbrev N_stands_from : List Str := ["length", "stretch", "place", "known", "many"]
def t_stands_from (K : PySem.W.Frag) (P : Program) (w : World) (E : XK) : TS := (tSeq (tDrop (tCall (sp_check_going_length K) [] E (tCons (tVar 0) tNil)))
  (tSeq (tDrop (tCall (sp_check_stretch K) [] E (tCons (tVar 1) (tCons (tVar 0) tNil))))
  (tSeq (tDrop (tCall (sp_check_place K) [] E (tCons (tVar 2) (tCons (tVar 0) tNil))))
  (tSeq (tAsg (Fl.tNNew P w) (gName 3))
  (tSeq (tAsg (tC (.int 0)) (gName 4))
  (tSeq (tWhile (tNot (tB (tCall (sp_stands_are_enough K P w 40) [] E0 (tCons (tVar 0) (tCons (tVar 1) (tCons (tVar 2) (tCons (tVar 4) (tCons (tVar 3) tNil)))))))) (tAug 4 (tC (.int 1)) (ipI fun i j => i + j)))
  (tSeq (tIfS (tTest (tOp rEq (tVar 4) (tC (.int 0)))) (tRet (tTup (tCons (tC (.int 0)) (tCons (tC .non) tNil)))) tNext)
  (tRet (tTup (tCons (tVar 4) (tCons (tCall (sp_first_onward K P w 40) [] E0 (tCons (tVar 0) (tCons (tVar 1) (tCons (tVar 2) (tCons (tVar 4) (tCons (tVar 3) tNil)))))) tNil)))))))))))
theorem pure_stands_from {K : PySem.W.Frag} {P : Program} {w : World} {vs : List V} {H : Hp} {Q : VK} {E : XK} (h : sp_stands_from K vs H Q E) : t_stands_from K P w E { nx := fun _ H' => Q .non H', rt := Q } (start N_stands_from vs) H := by
  obtain ⟨v1, v2, v3, rfl, s1, ⟨bd, q⟩ | ⟨L, rfl, hL1, hL6, ⟨hL, q⟩ | ⟨hL, ⟨bd, q⟩ | ⟨s, a, b, rfl, hs, h1, h2, h3, s3, ⟨bd, q⟩ | ⟨p, rfl, h4, h5, q0⟩⟩⟩⟩⟩ := h
  · exact seq_drop (call1 rfl (cg_bad s1 bd q))
  · exact seq_drop (call1 rfl (cg_long hL1 hL6 hL q))
  · exact seq_drop (call1 rfl (cg_ok hL1 hL (seq_drop (call2 rfl rfl (ct_bad (by omega) (by omega) bd q)))))
  · exact seq_drop (call1 rfl (cg_ok hL1 hL (seq_drop (call2 rfl rfl (ct_ok (by omega) (by omega) hs h1 h2 h3 (seq_drop (call2 rfl rfl (cp_bad (by omega) (by omega) s3 bd q))))))))
  have q : ∀ H' u n v, Ex H H' → Told false L a b p n v → H' u = some (.tup [.int (n : Nat), v]) → Q (.ref u) H' := fun H' u n v e _ _ => q0 _ H' e
  refine seq_drop (call1 rfl (cg_ok hL1 hL (seq_drop (call2 rfl rfl (ct_ok (by omega) (by omega) hs h1 h2 h3 (seq_drop (call2 rfl rfl (cp_ok (by omega) (by omega) s3 (isPl_of h4 h5) ?_))))))))
  refine fun d nd => ?_
  have hpre : FPre P w L (upd H d (Fl.dNo P w d [])) d [] := FPre.new
  have hs1 : (upd H d (Fl.dNo P w d [])) s = some (.tup [.int a, .int b]) := (Ex.new nd) _ _ hs
  have hnew : ∀ {H'}, KpD d (upd H d (Fl.dNo P w d [])) H' → Ex H H' := fun k => KpD.new nd k
  generalize upd H d (Fl.dNo P w d []) = H1 at hpre hs1 hnew ⊢
  have hd1 := hpre.dict.1
  have hbig := en_enough (L := L) (p := p) h1 h2 h3
  refine ⟨fun k σ H' => ∃ (m : Nat) (kvs' : NT), σ = [some (.int L), some (.ref s), some (.int p), some (.ref d), some (.int (m : Int))] ∧ m + k = (b - a).toNat + 1 ∧ FPost P w L H1 H' d kvs' ∧ ∀ j, j < m → ¬ En false L j a b p,
    ⟨(b - a).toNat + 1, 0, [], rfl, by omega, FPost.refl hpre, fun j hj => absurd hj (Nat.not_lt_zero j)⟩, ?_⟩
  rintro k σ H2 ⟨m, kvs2, rfl, hmk, hp2, hno⟩
  have hs2 := hp2.kp.atF hd1 hs1 Fl.tup_ne
  refine ⟨_, rfl, _, rfl, _, rfl, _, rfl, _, rfl, d, s, L, a, b, p, (m : Int), kvs2, rfl, by omega, by omega, by omega, hL, hs2, h1, h2, h3, h4, h5, hp2.pre, fun H3 c kvs3 hp3 hc => ?_⟩
  rw [Int.toNat_natCast] at hc
  have hp13 := hp2.trans hp3
  refine ⟨_, rfl, ?_⟩
  cases c with
  | false =>
    have hn : ¬ En false L m a b p := fun z => absurd (hc.mpr z) (by decide)
    have hlt : m < (b - a).toNat + 1 := by
      apply Classical.byContradiction
      intro z
      exact hn (hbig.mono (by omega))
    refine iteT ⟨fun σ' H' => σ' = [some (.int L), some (.ref s), some (.int p), some (.ref d), some (.int ((m + 1 : Nat) : Int))] ∧ H' = H3, ?_, ?_⟩
    · rintro σ' H' ⟨rfl, rfl⟩
      refine ⟨k - 1, by omega, m + 1, kvs3, rfl, by omega, hp13, fun j hj => ?_⟩
      by_cases z : j = m
      · rw [z]
        exact hn
      · exact hno j (by omega)
    · exact ⟨_, rfl, _, _, rfl, rfl, rfl, rfl⟩
  | true =>
    have hen : En false L m a b p := hc.mp rfl
    refine iteF ?_
    refine ⟨_, rfl, rfl, _, rfl, ite2 (fun e => ?_) (fun e => ?_)⟩
    · have e0 := V.int.inj (of_decide_eq_true e)
      have em : m = 0 := by omega
      have hab : a = b := by
        rw [em] at hen
        cases hen with
        | one => rfl
        | go q' _ _ ne hc' _ =>
          have := cost_pos (st := false) ne
          omega
      refine ⟨by show 2 ≤ sizeLine; decide, fun u nu => ?_⟩
      exact q _ u 0 .non ((hnew hp13.kp).trans (Ex.new nu)) (.inl ⟨hab, rfl, rfl⟩) upd_same
    · have em : m ≠ 0 := fun z => e (decide_eq_true (by rw [z]; rfl))
      have hab : a < b := by
        have : a ≠ b := fun z => hno 0 (by omega) (by rw [z]; exact .one)
        omega
      have hs3 := hp13.kp.atF hd1 hs1 Fl.tup_ne
      refine ⟨_, rfl, _, rfl, _, rfl, _, rfl, _, rfl, _, rfl, d, s, L, a, b, p, (m : Int), kvs3, rfl, by omega, by omega, by omega, hL, hs3, h1, h2, h3, h4, h5, hp3.pre, fun H4 v kvs4 hp4 hv => ?_⟩
      refine ⟨by show 2 ≤ sizeLine; decide, fun u nu => ?_⟩
      refine q _ u m v ((hnew (hp13.trans hp4).kp).trans (Ex.new nu)) (.inr ⟨hab, ⟨hen, hno⟩, ?_⟩) upd_same
      rcases hv with ⟨_, hv⟩ | ⟨q', rfl, hq', ne, hg, hfirst⟩
      · obtain ⟨q', ⟨z1, z2⟩, ne, hg⟩ := (en_good hab).mp hen
        exact absurd hg (hv q' z1 z2 ne)
      · exact ⟨q', rfl, hq', ne, hg, hfirst⟩
theorem len_stands_from {K : PySem.W.Frag} {vs : List V} {H : Hp} {Q : VK} {E : XK} (h : sp_stands_from K vs H Q E) : vs.length = 3 := by
  obtain ⟨v1, v2, v3, rfl, _⟩ := h
  rfl
def sp_stands_at_all (K : PySem.W.Frag) : Sp := fun vs H _ E => ∃ v : V, vs = [v] ∧ SmA H v ∧ ((isPl v 60 = false ∧ E (.ref (He.ga K "NoLength")) none H) ∨ ∃ l : Int, v = .int l ∧ 16 < l ∧ l ≤ 60 ∧ TLE K E H)
abbrev N_stands_at_all : List Str := ["length", "known", "further", "place"]
def t_stands_at_all (K : PySem.W.Frag) (P : Program) (w : World) (E : XK) : TS := (tSeq (tDrop (tCall (sp_check_going_length K) [] E (tCons (tVar 0) tNil)))
  (tSeq (tIfS (tTest (tOp rEq (tVar 0) (tC (.int 1)))) (tRet (tTup (tCons (tC (.int 0)) (tCons (tC .non) tNil)))) tNext)
  (tSeq (tAsg (Fl.tNNew P w) (gName 1))
  (tSeq (tAsg (tC (.int 0)) (gName 2))
  (tWhile (tB (tC (.bl true))) (tSeq (tAug 2 (tC (.int 1)) (ipI fun i j => i + j))
  (tFor (iRng2 (tCons (tC (.int 1)) (tCons (tOp (rI0 fun i j => .int (i + j)) (tVar 0) (tC (.int 1))) tNil))) (gName 3) (tIfS (tB (tCall (sp_stands_are_enough K P w 40) [] E0 (tCons (tVar 0) (tCons (tTup (tCons (tC (.int 1)) (tCons (tVar 0) tNil))) (tCons (tVar 3) (tCons (tVar 2) (tCons (tVar 1) tNil))))))) (tRet (tTup (tCons (tOp (rI0 fun i j => .int (i + j)) (tVar 2) (tC (.int 1))) (tCons (tVar 3) tNil)))) tNext))))))))
theorem pure_stands_at_all {K : PySem.W.Frag} {P : Program} {w : World} {vs : List V} {H : Hp} {Q : VK} {E : XK} (h : sp_stands_at_all K vs H Q E) : t_stands_at_all K P w E { nx := fun _ H' => Q .non H', rt := Q } (start N_stands_at_all vs) H := by
  obtain ⟨v, rfl, s, ⟨b, q⟩ | ⟨l, rfl, h1, h2, q⟩⟩ := h
  · exact seq_drop (call1 rfl (cg_bad s b q))
  · exact seq_drop (call1 rfl (cg_long (by omega) h2 h1 q))
theorem len_stands_at_all {K : PySem.W.Frag} {vs : List V} {H : Hp} {Q : VK} {E : XK} (h : sp_stands_at_all K vs H Q E) : vs.length = 1 := by
  obtain ⟨v, rfl, _⟩ := h
  rfl
def sp_least_steps (K : PySem.W.Frag) : Sp := fun vs H Q _ => ∃ (s : Addr) (a b p : Int), vs = [.ref s, .int p] ∧ H s = some (.tup [.int a, .int b]) ∧ Q (.int (Stp a b p)) H
abbrev N_least_steps : List Str := ["stretch", "place", "low", "high", "upward_first", "downward_first"]
def t_least_steps (K : PySem.W.Frag) : TS := (tSeq (tAsg (tVar 0) (gTup K 2 (gCons (gName 2) (gCons (gName 3) gNil))))
  (tSeq (tIfS (tTest (tOp rEq (tVar 2) (tVar 3))) (tRet (tC (.int 0))) tNext)
  (tSeq (tIfS (tTest (tOp (rI0 fun i j => .bl (decide (i ≤ j))) (tVar 1) (tVar 2))) (tRet (tOp (rI0 fun i j => .int (i - j)) (tVar 3) (tVar 1))) tNext)
  (tSeq (tIfS (tTest (tOp (rI0 fun i j => .bl (decide (j ≤ i))) (tVar 1) (tVar 3))) (tRet (tOp (rI0 fun i j => .int (i - j)) (tVar 1) (tVar 2))) tNext)
  (tSeq (tAsg (tCB rMax2 (tCons (tOp (rI0 fun i j => .int (i - j)) (tVar 3) (tVar 1)) (tCons (tOp (rI0 fun i j => .int (i + j)) (tOp (rI0 fun i j => .int (i - j)) (tVar 1) (tVar 2)) (tC (.int 2))) tNil))) (gName 4))
  (tSeq (tAsg (tCB rMax2 (tCons (tOp (rI0 fun i j => .int (i - j)) (tVar 1) (tVar 2)) (tCons (tOp (rI0 fun i j => .int (i + j)) (tOp (rI0 fun i j => .int (i - j)) (tVar 3) (tVar 1)) (tC (.int 2))) tNil))) (gName 5))
  (tRet (tCB rMin2 (tCons (tVar 4) (tCons (tVar 5) tNil))))))))))
theorem pure_least_steps {K : PySem.W.Frag} {vs : List V} {H : Hp} {Q : VK} {E : XK} (h : sp_least_steps K vs H Q E) : t_least_steps K { nx := fun _ H' => Q .non H', rt := Q } (start N_least_steps vs) H := by
  obtain ⟨s, a, b, p, rfl, hs, q⟩ := h
  refine ⟨_, rfl, s, _, rfl, SqT.of hs, rfl, _, _, rfl, _, [], rfl, rfl, ?_⟩
  refine ⟨_, rfl, _, rfl, rfl, _, rfl, ite2 (fun e => ?_) (fun e => ?_)⟩
  · have e := V.int.inj (of_decide_eq_true e)
    have eS : Stp a b p = 0 := by
      unfold Stp
      rw [if_pos e]
    rw [eS] at q
    exact q
  · have n0 : ¬ a = b := fun z => e (decide_eq_true (congrArg V.int z))
    refine ⟨_, rfl, _, rfl, p, a, rfl, rfl, _, rfl, ite2 (fun e => ?_) (fun e => ?_)⟩
    · have e := of_decide_eq_true e
      have eS : Stp a b p = b - p := by
        unfold Stp
        rw [if_neg n0, if_pos e]
      rw [eS] at q
      exact ⟨_, rfl, _, rfl, b, p, rfl, rfl, q⟩
    · have n1 : ¬ p ≤ a := fun z => e (decide_eq_true z)
      refine ⟨_, rfl, _, rfl, p, b, rfl, rfl, _, rfl, ite2 (fun e => ?_) (fun e => ?_)⟩
      · have e := of_decide_eq_true e
        have eS : Stp a b p = p - a := by
          unfold Stp
          rw [if_neg n0, if_neg n1, if_pos e]
        rw [eS] at q
        exact ⟨_, rfl, _, rfl, p, a, rfl, rfl, q⟩
      · have n2 : ¬ b ≤ p := fun z => e (decide_eq_true z)
        have eS : Stp a b p = min (max (b - p) (p - a + 2)) (max (p - a) (b - p + 2)) := by
          unfold Stp
          rw [if_neg n0, if_neg n1, if_neg n2]
        refine ⟨_, rfl, _, rfl, b, p, rfl, rfl, _, rfl, _, rfl, p, a, rfl, rfl, _, 2, rfl, rfl, _, _, rfl, ?_⟩
        refine ⟨_, rfl, _, rfl, p, a, rfl, rfl, _, rfl, _, rfl, b, p, rfl, rfl, _, 2, rfl, rfl, _, _, rfl, ?_⟩
        refine ⟨_, rfl, _, rfl, _, _, rfl, ?_⟩
        have e2 : ∀ x y u v : Int, (if (if v > u then v else u) < (if y > x then y else x) then (if v > u then v else u) else (if y > x then y else x)) = min (max x y) (max u v) := fun x y u v => by
          repeat' split
          all_goals omega
        dsimp only
        rw [e2, ← eS]
        exact q
theorem len_least_steps {K : PySem.W.Frag} {vs : List V} {H : Hp} {Q : VK} {E : XK} (h : sp_least_steps K vs H Q E) : vs.length = 2 := by
  obtain ⟨s, a, b, p, rfl, _⟩ := h
  rfl
def sp_steps_by (K : PySem.W.Frag) : Sp := fun vs H Q _ => ∃ (s : Addr) (a b p q : Int), vs = [.ref s, .int p, .int q] ∧ H s = some (.tup [.int a, .int b]) ∧ a < b ∧ q ≠ p ∧
  ∀ H' m, Ex H H' → (∃ z ∈ partsOf a b p q, m = Stp z.1 z.2 q) → (∀ z ∈ partsOf a b p q, Stp z.1 z.2 q ≤ m) → Q (.int (ab (q - p) + m)) H'
abbrev N_steps_by : List Str := ["stretch", "place", "onward", "parts", "part"]
def t_steps_by (K : PySem.W.Frag) : TS := (tSeq (tAsg (tCall (sp_parts_of K) [] E0 (tCons (tVar 0) (tCons (tVar 1) (tCons (tVar 2) tNil)))) (gName 3))
  (tRet (tOp (rI0 fun i j => .int (i + j)) (tCB rAbs (tCons (tOp (rI0 fun i j => .int (i - j)) (tVar 2) (tVar 1)) tNil)) (tCB (rMax K) (tCons (tLc (iList K (tVar 3)) (gName 4) tYes (tCall (sp_least_steps K) [] E0 (tCons (tVar 4) (tCons (tVar 2) tNil))) [4]) tNil)))))
theorem pure_steps_by {K : PySem.W.Frag} {vs : List V} {H : Hp} {Q : VK} {E : XK} (h : sp_steps_by K vs H Q E) : t_steps_by K { nx := fun _ H' => Q .non H', rt := Q } (start N_steps_by vs) H := by
  obtain ⟨s, a, b, p, q', rfl, hs, hab, hne, q⟩ := h
  refine ⟨_, rfl, _, rfl, _, rfl, s, a, b, p, q', rfl, hs, fun C H1 us nC e1 hC hps => ?_⟩
  refine ⟨_, rfl, _, rfl, q', p, rfl, rfl, _, rfl, ?_⟩
  obtain ⟨zs, z1, z2, z3⟩ := hps.zips
  have hpl := parts_len a b p q'
  have hzl : zs.length ≤ 3 := by
    rw [← z2, List.length_map] at hpl
    exact hpl
  have hC' : SqL K H1 C (zs.map fun z => V.ref z.1) := by
    have e : (zs.map fun z => V.ref z.1) = us.map V.ref := by
      rw [← z1, List.map_map]
      rfl
    rw [e]
    exact SqL.of hC
  have hc : Evl.EvL (tLc (iList K (tVar 3)) (gName 4) tYes (tCall (sp_least_steps K) [] E0 (tCons (tVar 4) (tCons (tVar 2) tNil))) [4]) [some (.ref s), some (.int p), some (.int q'), some (.ref C), none] H1 (zs.map fun z => V.int (Stp z.2.1 z.2.2 q')) := by
    refine el_mapG (0, 0, 0) (fun z : Addr × Int × Int => V.ref z.1) (K := K) (ns := zs) (fun z => V.int (Stp z.2.1 z.2.2 q')) (Evl.ev_var rfl) hC' (by omega) (fun _ => rfl) (fun z H2 e2 hz => ?_)
    intro H3 e3 Q3 q3
    exact ⟨_, rfl, _, rfl, z.1, z.2.1, z.2.2, q', rfl, (e2.trans e3) _ _ (z3 z hz), q3 H3 (Ex.refl H3)⟩
  dsimp only [tCB, tCons]
  refine hc H1 (Ex.refl H1) _ fun D H2 nD e2 hD => ?_
  have ens : (zs.map fun z => V.int (Stp z.2.1 z.2.2 q')) = ((partsOf a b p q').map fun z => Stp z.1 z.2 q').map V.int := by
    rw [← z2, List.map_map, List.map_map]
    rfl
  rw [ens] at hD
  refine ⟨D, _, rfl, SqL.of hD, ?_, fun m hm hmax => ⟨_, _, rfl, rfl, ?_⟩⟩
  · rw [List.length_map]
    obtain ⟨z, hz, _⟩ := Stp_low (q := q') hab hne
    exact List.length_pos_of_mem hz
  · refine q H2 m (e1.trans e2) ?_ fun z hz => hmax _ (List.mem_map.mpr ⟨z, hz, rfl⟩)
    obtain ⟨z, hz, rfl⟩ := List.mem_map.mp hm
    exact ⟨z, hz, rfl⟩
theorem len_steps_by {K : PySem.W.Frag} {vs : List V} {H : Hp} {Q : VK} {E : XK} (h : sp_steps_by K vs H Q E) : vs.length = 3 := by
  obtain ⟨s, a, b, p, q', rfl, _⟩ := h
  rfl
def sp_steps_from (K : PySem.W.Frag) : Sp := GoSp K
abbrev N_steps_from : List Str := ["length", "stretch", "place", "least", "fit", "onward"]
def t_steps_from (K : PySem.W.Frag) (E : XK) : TS := (tSeq (tDrop (tCall (sp_check_going_length K) [] E (tCons (tVar 0) tNil)))
  (tSeq (tDrop (tCall (sp_check_stretch K) [] E (tCons (tVar 1) (tCons (tVar 0) tNil))))
  (tSeq (tDrop (tCall (sp_check_place K) [] E (tCons (tVar 2) (tCons (tVar 0) tNil))))
  (tSeq (tAsg (tCall (sp_least_steps K) [] E0 (tCons (tVar 1) (tCons (tVar 2) tNil))) (gName 3))
  (tSeq (tIfS (tTest (tOp rEq (tVar 3) (tC (.int 0)))) (tRet (tTup (tCons (tC (.int 0)) (tCons (tC .non) tNil)))) tNext)
  (tSeq (tAsg (tLc (iList K (tCall (sp_other_places K) [] E0 (tCons (tVar 0) (tCons (tVar 2) tNil)))) (gName 5) (tTest (tOp rEq (tCall (sp_steps_by K) [] E0 (tCons (tVar 1) (tCons (tVar 2) (tCons (tVar 5) tNil)))) (tVar 3))) (tVar 5) [5]) (gName 4))
  (tRet (tTup (tCons (tVar 3) (tCons (tOp (rIxL K) (tVar 4) (tC (.int 0))) tNil))))))))))
noncomputable def gdB (L : Int) (n : Nat) (a b p q : Int) : Bool := @decide (Good true L n a b p q) (Classical.propDecidable _)
theorem gdB_iff {L : Int} {n : Nat} {a b p q : Int} : gdB L n a b p q = true ↔ Good true L n a b p q := @decide_eq_true_iff _ (Classical.propDecidable _)
theorem filter_first {f : Int → Bool} : ∀ {l : List Int}, l.Pairwise (· < ·) → ∀ {q : Int} {r : List Int}, l.filter f = q :: r → q ∈ l ∧ f q = true ∧ ∀ x ∈ l, x < q → f x = false
  | [], _, _, _, h => by cases h
  | x :: l, hp, q, r, h => by
    by_cases hx : f x = true
    · rw [List.filter_cons_of_pos hx] at h
      have e : x = q := (List.cons.inj h).1
      subst e
      refine ⟨List.mem_cons_self, hx, fun y hy hlt => ?_⟩
      rcases List.mem_cons.mp hy with z | z
      · omega
      · have := (List.pairwise_cons.mp hp).1 y z
        omega
    · rw [List.filter_cons_of_neg hx] at h
      obtain ⟨i1, i2, i3⟩ := filter_first (List.pairwise_cons.mp hp).2 h
      refine ⟨List.mem_cons_of_mem _ i1, i2, fun y hy hlt => ?_⟩
      rcases List.mem_cons.mp hy with z | z
      · rw [z]
        exact Bool.eq_false_iff.mpr hx
      · exact i3 y z hlt
theorem pure_steps_from {K : PySem.W.Frag} {vs : List V} {H : Hp} {Q : VK} {E : XK} (h : sp_steps_from K vs H Q E) : t_steps_from K E { nx := fun _ H' => Q .non H', rt := Q } (start N_steps_from vs) H := by
  obtain ⟨v1, v2, v3, rfl, s1, ⟨bd, q⟩ | ⟨L, rfl, hL1, hL6, ⟨hL, q⟩ | ⟨hL, ⟨bd, q⟩ | ⟨s, a, b, rfl, hs, h1, h2, h3, s3, ⟨bd, q⟩ | ⟨p, rfl, h4, h5, q0⟩⟩⟩⟩⟩ := h
  · exact seq_drop (call1 rfl (cg_bad s1 bd q))
  · exact seq_drop (call1 rfl (cg_long hL1 hL6 hL q))
  · exact seq_drop (call1 rfl (cg_ok hL1 hL (seq_drop (call2 rfl rfl (ct_bad (by omega) (by omega) bd q)))))
  · exact seq_drop (call1 rfl (cg_ok hL1 hL (seq_drop (call2 rfl rfl (ct_ok (by omega) (by omega) hs h1 h2 h3 (seq_drop (call2 rfl rfl (cp_bad (by omega) (by omega) s3 bd q))))))))
  have q : ∀ H' u n v, Ex H H' → Told true L a b p n v → H' u = some (.tup [.int (n : Nat), v]) → Q (.ref u) H' := fun H' u n v e _ _ => q0 _ H' e
  refine seq_drop (call1 rfl (cg_ok hL1 hL (seq_drop (call2 rfl rfl (ct_ok (by omega) (by omega) hs h1 h2 h3 (seq_drop (call2 rfl rfl (cp_ok (by omega) (by omega) s3 (isPl_of h4 h5) ?_))))))))
  refine ⟨_, rfl, _, rfl, s, a, b, p, rfl, hs, ?_⟩
  have hS := sx_least h1 h2 h3 h4 h5
  refine ⟨_, rfl, rfl, _, rfl, ite2 (fun e => ?_) (fun e => ?_)⟩
  · have e := V.int.inj (of_decide_eq_true e)
    have hab : a = b := by
      apply Classical.byContradiction
      intro z
      have := Stp_pos (a := a) (b := b) (p := p) (by omega)
      omega
    refine ⟨by show 2 ≤ sizeLine; decide, fun u nu => ?_⟩
    exact q _ u 0 .non (Ex.new nu) (.inl ⟨hab, rfl, rfl⟩) upd_same
  · have n0 : ¬ Stp a b p = 0 := fun z => e (decide_eq_true (congrArg V.int z))
    have hab : a < b := by
      have : a ≠ b := fun z => n0 (by
        unfold Stp
        rw [if_pos z])
      omega
    refine ⟨_, rfl, _, rfl, L, p, rfl, by omega, by omega, fun O H1 nO e1 hO => ?_⟩
    have hs1 := e1 _ _ hs
    refine ⟨O, rfl, ⟨_, SqL.of hO⟩, fun D nD => ?_⟩
    refine lc_list (K := K) (a := O) (xs := (others L p).map V.int) (fun j H' => Ex H1 H' ∧ H' D = some (.lst ((((others L p).take j).filter (gdB L (Stp a b p).toNat a b p)).map V.int)))
      ⟨Ex.new nD, upd_same⟩ (fun j H' _ hp => SqL.of (hp.1 _ _ hO)) (fun j x H2 hx hp => ?_) (fun H2 hp => ?_)
    · obtain ⟨e2, hD⟩ := hp
      obtain ⟨q', hq', rfl⟩ : ∃ q', (others L p)[j]? = some q' ∧ x = .int q' := by
        rw [List.getElem?_map] at hx
        cases hg : (others L p)[j]? with
        | none => rw [hg] at hx; cases hx
        | some u =>
          rw [hg] at hx
          exact ⟨u, rfl, (Option.some.inj hx).symm⟩
      have hjl : j < (others L p).length := (List.getElem?_eq_some_iff.mp hq').1
      have hol := others_len L p
      obtain ⟨hqq, hne⟩ := mem_others.mp (List.mem_of_getElem? hq')
      refine ⟨rfl, _, rfl, _, rfl, _, rfl, s, a, b, p, q', rfl, e2 _ _ hs1, hab, hne, fun H3 m e3 hm hmax => ?_⟩
      have hgood := good_steps h1 hab h3 hqq hne hm hmax
      have hD3 := e3 _ _ hD
      refine ⟨_, rfl, rfl, _, rfl, ite2 (fun ew => ?_) (fun ew => ?_)⟩
      · have hg : gdB L (Stp a b p).toNat a b p q' = true := gdB_iff.mpr (hgood.mpr (V.int.inj (of_decide_eq_true ew)))
        refine ⟨_, rfl, _, hD3, ?_, (e2.trans e3).mut nD, ?_⟩
        · rw [List.length_map]
          refine small1000 (Nat.le_trans (List.length_filter_le _ _) ?_)
          rw [List.length_take]
          omega
        · rw [upd_same, List.take_add_one, hq', List.filter_append, List.map_append]
          simp [hg]
      · have hg : ¬ gdB L (Stp a b p).toNat a b p q' = true := fun z => ew (decide_eq_true (congrArg V.int (hgood.mp (gdB_iff.mp z))))
        refine ⟨e2.trans e3, ?_⟩
        rw [hD3, List.take_add_one, hq', List.filter_append]
        simp [hg]
    · obtain ⟨e2, hD⟩ := hp
      rw [List.length_map, List.take_length] at hD
      obtain ⟨q', ⟨z1, z2⟩, zne, zg⟩ := (en_good hab).mp hS.1
      have hmem : q' ∈ (others L p).filter (gdB L (Stp a b p).toNat a b p) := List.mem_filter.mpr ⟨mem_others.mpr ⟨⟨z1, z2⟩, zne⟩, gdB_iff.mpr zg⟩
      cases hf : (others L p).filter (gdB L (Stp a b p).toNat a b p) with
      | nil =>
        rw [hf] at hmem
        cases hmem
      | cons q0 r =>
        rw [hf] at hD
        obtain ⟨f1, f2, f3⟩ := filter_first (others_up L p) hf
        obtain ⟨g1, g2⟩ := mem_others.mp f1
        refine ⟨_, rfl, _, rfl, D, _, 0, .int q0, rfl, rfl, SqL.of hD, at_of (j := 0) rfl rfl, by show 2 ≤ sizeLine; decide, fun u nu => ?_⟩
        have en : (((Stp a b p).toNat : Nat) : Int) = Stp a b p := by
          have := Stp_nonneg (p := p) h2
          omega
        refine q _ u (Stp a b p).toNat (.int q0) ((e1.trans e2).trans (Ex.new nu)) (.inr ⟨hab, hS, q0, rfl, g1, g2, gdB_iff.mp f2, fun r' r1 r2 r3 z => ?_⟩) (by rw [upd_same, en])
        have := f3 r' (mem_others.mpr ⟨⟨r1, by omega⟩, r3⟩) r2
        rw [gdB_iff.mpr z] at this
        cases this
theorem len_steps_from {K : PySem.W.Frag} {vs : List V} {H : Hp} {Q : VK} {E : XK} (h : sp_steps_from K vs H Q E) : vs.length = 3 := by
  obtain ⟨v1, v2, v3, rfl, _⟩ := h
  rfl
def sp_far_round (K : PySem.W.Frag) : Sp := fun vs H Q _ => ∃ l x y : Int, vs = [.int l, .int x, .int y] ∧ (1 ≤ x ∧ x ≤ l) ∧ (1 ≤ y ∧ y ≤ l) ∧ Q (.int (rd l x y)) H
abbrev N_far_round : List Str := ["length", "one", "other", "along"]
def t_far_round (K : PySem.W.Frag) : TS := (tSeq (tAsg (tCB rAbs (tCons (tOp (rI0 fun i j => .int (i - j)) (tVar 1) (tVar 2)) tNil)) (gName 3))
  (tRet (tCB rMin2 (tCons (tVar 3) (tCons (tOp (rI0 fun i j => .int (i - j)) (tVar 0) (tVar 3)) tNil)))))
theorem pure_far_round {K : PySem.W.Frag} {vs : List V} {H : Hp} {Q : VK} {E : XK} (h : sp_far_round K vs H Q E) : t_far_round K { nx := fun _ H' => Q .non H', rt := Q } (start N_far_round vs) H := by
  obtain ⟨l, x, y, rfl, hx, hy, q⟩ := h
  refine ⟨_, rfl, _, rfl, x, y, rfl, rfl, _, rfl, _, rfl, _, rfl, _, rfl, l, _, rfl, rfl, _, _, rfl, ?_⟩
  have e : (if l - (if x - y < 0 then -(x - y) else x - y) < (if x - y < 0 then -(x - y) else x - y) then l - (if x - y < 0 then -(x - y) else x - y) else (if x - y < 0 then -(x - y) else x - y)) = rd l x y := by
    unfold rd fw
    repeat' split
    all_goals omega
  dsimp only at *
  rw [e]
  exact q
theorem len_far_round {K : PySem.W.Frag} {vs : List V} {H : Hp} {Q : VK} {E : XK} (h : sp_far_round K vs H Q E) : vs.length = 3 := by
  obtain ⟨l, x, y, rfl, _⟩ := h
  rfl
def fwords : List Int → List Wo
  | e :: l :: r => word e l :: fwords (l :: r)
  | _ => []
theorem fwords_len : ∀ ns : List Int, (fwords ns).length = ns.length - 1
  | [] => rfl
  | [_] => rfl
  | x :: y :: r => by
    show (fwords (y :: r)).length + 1 = (y :: r).length + 1 - 1
    rw [fwords_len (y :: r)]
    simp
theorem fwords_get : ∀ (ns : List Int) (i : Nat) (x y : Int), ns[i]? = some x → ns[i + 1]? = some y → (fwords ns)[i]? = some (word x y)
  | [], _, _, _, h, _ => by simp at h
  | [_], 0, _, _, _, h => by simp at h
  | [_], i + 1, _, _, h, _ => by simp at h
  | a :: b :: r, 0, x, y, h, h2 => by
    have e1 : a = x := Option.some.inj h
    have e2 : b = y := Option.some.inj h2
    rw [← e1, ← e2]
    rfl
  | a :: b :: r, i + 1, x, y, h, h2 => fwords_get (b :: r) i x y h h2
theorem fwords_rd (l t : Int) : ∀ st : List Int, fwords (st.map (rd l t)) = rwordsOf l t st
  | [] => rfl
  | [_] => rfl
  | x :: y :: r => congrArg (word (rd l t x) (rd l t y) :: ·) (fwords_rd l t (y :: r))
def sp_row_round (K : PySem.W.Frag) : Sp := fun vs H Q _ => ∃ (l t : Int) (s : Addr) (st : List Int), vs = [.int l, .int t, .ref s] ∧ (1 ≤ t ∧ t ≤ l) ∧ SqL K H s (st.map V.int) ∧ Places l st ∧ st.length ≤ 1000 ∧ ∀ p H', H p = none → Ex H H' → H' p = some (.lst ((rwordsOf l t st).map vW)) → Q (.ref p) H'
abbrev N_row_round : List Str := ["length", "thing", "stands", "far", "stand", "before", "after"]
def t_row_round (K : PySem.W.Frag) : TS := (tSeq (tAsg (tLc (iList K (tVar 2)) (gName 4) tYes (tCall (sp_far_round K) [] E0 (tCons (tVar 0) (tCons (tVar 1) (tCons (tVar 4) tNil)))) [4]) (gName 3))
  (tRet (tLc (iZip K (tCons (tVar 3) (tCons (tSl (rSlL K) (tVar 3) (tPart (tC (.int 1))) tNoPart) tNil))) (gTup K 2 (gCons (gName 5) (gCons (gName 6) gNil))) tYes (tCall (sp_word_for K) [] E0 (tCons (tVar 5) (tCons (tVar 6) tNil))) [5, 6])))
theorem row_zip {K : PySem.W.Frag} {H : Hp} {Q : VK} {l t : Int} {s a : Addr} {ns : List Int} (hS : SqL K H a (ns.map V.int)) (hlen : ns.length ≤ 1000) (q : ∀ p H', H p = none → Ex H H' → H' p = some (.lst ((fwords ns).map vW)) → Q (.ref p) H') :
    tLc (iZip K (tCons (tVar 3) (tCons (tSl (rSlL K) (tVar 3) (tPart (tC (.int 1))) tNoPart) tNil))) (gTup K 2 (gCons (gName 5) (gCons (gName 6) gNil))) tYes (tCall (sp_word_for K) [] E0 (tCons (tVar 5) (tCons (tVar 6) tNil))) [5, 6] [some (.int l), some (.int t), some (.ref s), some (.ref a), none, none, none] H Q := by
  refine ⟨.ref a, rfl, .ref a, rfl, 1, rfl, a, ns.map V.int, rfl, hS, fun c nc => ?_⟩
  have s1 : Ex H (upd H c (.lst (cutV (ns.map V.int) (some 1) none))) := Ex.new nc
  refine ⟨a, c, ns.map V.int, _, rfl, ex_l s1 hS, .inl (.inl upd_same), fun D hD => ?_⟩
  have hD0 : H D = none := fresh_back s1 hD
  have s2 : Ex (upd H c (.lst (cutV (ns.map V.int) (some 1) none))) (upd (upd H c (.lst (cutV (ns.map V.int) (some 1) none))) D (.lst [])) := Ex.new hD
  have ncD : c ≠ D := fun e => by
    rw [← e, upd_same] at hD
    cases hD
  refine ⟨fun i m H3 => i + m = ns.length - 1 ∧ Ex H H3 ∧ H3 c = some (.lst ((ns.drop 1).map V.int)) ∧ H3 D = some (.lst (((fwords ns).take i).map vW)),
    ⟨ns.length - 1, by omega, s1.trans s2, ?_, ?_⟩, fun i m H3 hW => ?_⟩
  · rw [upd_ne ncD, upd_same, cut1, List.map_drop]
  · rw [upd_same]
    rfl
  · obtain ⟨em, sm, ec, eo⟩ := hW
    have hA : SqL K H3 a (ns.map V.int) := ex_l sm hS
    have hC : SqL K H3 c ((ns.drop 1).map V.int) := .inl (.inl ec)
    by_cases hi : i < ns.length - 1
    · have h1 : i < ns.length := by omega
      have h2 : i + 1 < ns.length := by omega
      have g1 : (ns.map V.int)[i]? = some (.int ns[i]) := by
        rw [List.getElem?_map, List.getElem?_eq_getElem h1]
        rfl
      have g2 : ((ns.drop 1).map V.int)[i]? = some (.int ns[i + 1]) := by
        rw [List.getElem?_map, List.getElem?_drop, Nat.add_comm 1 i, List.getElem?_eq_getElem h2]
        rfl
      have gd : (fwords ns)[i]? = some (word ns[i] ns[i + 1]) := fwords_get ns i _ _ (List.getElem?_eq_getElem h1) (List.getElem?_eq_getElem h2)
      refine .inr ⟨⟨_, _, _, _, hA, hC, g1, g2⟩, fun H' => Ex H H' ∧ H' c = some (.lst ((ns.drop 1).map V.int)) ∧ H' D = some (.lst (((fwords ns).take (i + 1)).map vW)), fun H' hN => ?_, fun x H' hy => ?_⟩
      · obtain ⟨sm', ec', eo'⟩ := hN
        exact ⟨m - 1, by omega, by omega, sm', ec', eo'⟩
      · obtain ⟨T, x1, x2, rfl, nT, rfl, f1, f2⟩ := hy
        have ex1 : x1 = .int ns[i] := Option.some.inj ((f1 _ hA).symm.trans g1)
        have ex2 : x2 = .int ns[i + 1] := Option.some.inj ((f2 _ hC).symm.trans g2)
        subst ex1 ex2
        have nTo : D ≠ T := ne_of_none eo nT
        have nTc : c ≠ T := ne_of_none ec nT
        have smT : Ex H3 (upd H3 T (.tup [.int ns[i], .int ns[i + 1]])) := Ex.new nT
        refine ⟨T, [.int ns[i], .int ns[i + 1]], rfl, .inl (.inl upd_same), rfl, _, [.int ns[i + 1]], rfl, _, [], rfl, rfl, rfl, ?_⟩
        dsimp only [tYes]
        rw [if_pos rfl]
        refine ⟨_, rfl, _, rfl, ns[i], ns[i + 1], rfl, ?_⟩
        have eoT : (upd H3 T (.tup [.int ns[i], .int ns[i + 1]])) D = some (.lst (((fwords ns).take i).map vW)) := smT _ _ eo
        refine ⟨_, eoT, ?_, (sm.trans smT).mut hD0, ?_, ?_⟩
        · rw [List.length_map, List.length_take]
          exact Nat.lt_of_le_of_lt (Nat.min_le_left _ _) (small1000 (by omega))
        · rw [upd_ne ncD]
          exact smT _ _ ec
        · rw [upd_same, List.take_add_one, gd, List.map_append]
          rfl
    · refine .inl ⟨⟨_, _, hA, hC, .inr ?_⟩, ?_⟩
      · rw [List.length_map, List.length_drop]
        omega
      · have ei : (fwords ns).take i = fwords ns := List.take_of_length_le (by
          rw [fwords_len]
          omega)
        rw [ei] at eo
        exact q D H3 hD0 sm eo
theorem pure_row_round {K : PySem.W.Frag} {vs : List V} {H : Hp} {Q : VK} {E : XK} (h : sp_row_round K vs H Q E) : t_row_round K { nx := fun _ H' => Q .non H', rt := Q } (start N_row_round vs) H := by
  obtain ⟨l, t, s, st, rfl, ht, hS, hP, hlen, q⟩ := h
  have hc : Evl.EvL (tLc (iList K (tVar 2)) (gName 4) tYes (tCall (sp_far_round K) [] E0 (tCons (tVar 0) (tCons (tVar 1) (tCons (tVar 4) tNil)))) [4]) (start N_row_round [.int l, .int t, .ref s]) H (st.map fun x => V.int (rd l t x)) := by
    refine el_map (K := K) (ns := st) (fun x => V.int (rd l t x)) (Evl.ev_var rfl) hS (by omega) (fun _ => rfl) (fun n H4 e4 hn => ?_)
    intro H5 e5 Q5 q5
    exact ⟨_, rfl, _, rfl, _, rfl, l, t, n, rfl, ht, hP n hn, q5 H5 (Ex.refl H5)⟩
  dsimp only [t_row_round, tSeq, tAsg]
  refine hc H (Ex.refl H) _ fun c H1 nc e1 h1 => ?_
  have e2 : (st.map fun x => V.int (rd l t x)) = (st.map (rd l t)).map V.int := by
    rw [List.map_map]
    rfl
  rw [e2] at h1
  refine row_zip (SqL.of h1) (by rw [List.length_map]; exact hlen) fun p H2 np e3 h3 => ?_
  rw [fwords_rd] at h3
  exact q p H2 (fresh_back e1 np) (e1.trans e3) h3
theorem len_row_round {K : PySem.W.Frag} {vs : List V} {H : Hp} {Q : VK} {E : XK} (h : sp_row_round K vs H Q E) : vs.length = 3 := by
  obtain ⟨l, t, s, st, rfl, _⟩ := h
  rfl
def sp_can_lie_round (K : PySem.W.Frag) : Sp := DoorSp K
abbrev N_can_lie_round : List Str := ["length", "stands", "answers", "place"]
def t_can_lie_round (K : PySem.W.Frag) (E : XK) : TS := (tSeq (tDrop (tCall (sp_check_length K) [] E (tCons (tVar 0) tNil)))
  (tSeq (tDrop (tCall (sp_check_stands K) [] E (tCons (tVar 1) (tCons (tVar 0) tNil))))
  (tSeq (tDrop (tCall (sp_check_answers K) [] E (tCons (tVar 2) (tCons (tVar 1) tNil))))
  (tRet (tCB (rTupleOf K) (tCons (tLc (iRng2 (tCons (tC (.int 1)) (tCons (tOp (rI0 fun i j => .int (i + j)) (tVar 0) (tC (.int 1))) tNil))) (gName 3) (tTest (tOp (rEqD K) (tCall (sp_row_round K) [] E0 (tCons (tVar 0) (tCons (tVar 3) (tCons (tVar 1) tNil)))) (tVar 2))) (tVar 3) [3]) tNil))))))
theorem pure_can_lie_round {K : PySem.W.Frag} {vs : List V} {H : Hp} {Q : VK} {E : XK} (h : sp_can_lie_round K vs H Q E) : t_can_lie_round K E { nx := fun _ H' => Q .non H', rt := Q } (start N_can_lie_round vs) H := by
  obtain ⟨v1, v2, v3, rfl, s1, ⟨b, q⟩ | ⟨l, rfl, h1, h2, ⟨b, q⟩ | ⟨s, st, rfl, hs, hl, hp, ⟨b, q⟩ | ⟨a, ws, rfl, ha, hw, q⟩⟩⟩⟩ := h
  · exact seq_drop (call1 rfl (cl_bad s1 b q))
  · exact seq_drop (call1 rfl (cl_ok h1 h2 (seq_drop (call2 rfl rfl (cs_bad (by omega) h2 b q)))))
  · exact seq_drop (call1 rfl (cl_ok h1 h2 (seq_drop (call2 rfl rfl (cs_ok (by omega) h2 hs hl hp fun H1 e1 => seq_drop (call2 rfl rfl (ca_bad (SqL.of (e1 _ _ hs)) hl (b.ex e1) fun H2 e2 => q H2 (e1.trans e2))))))))
  refine seq_drop (call1 rfl (cl_ok h1 h2 (seq_drop (call2 rfl rfl (cs_ok (by omega) h2 hs hl hp fun H1 e1 => seq_drop (call2 rfl rfl (ca_ok (SqL.of (e1 _ _ hs)) hl (e1 _ _ ha) hw fun H2 e2 => ?_)))))))
  have hs2 := e2 _ _ (e1 _ _ hs)
  have ha2 := e2 _ _ (e1 _ _ ha)
  have hc : Evl.EvL (tLc (iRng2 (tCons (tC (.int 1)) (tCons (tOp (rI0 fun i j => .int (i + j)) (tVar 0) (tC (.int 1))) tNil))) (gName 3) (tTest (tOp (rEqD K) (tCall (sp_row_round K) [] E0 (tCons (tVar 0) (tCons (tVar 3) (tCons (tVar 1) tNil)))) (tVar 2))) (tVar 3) [3]) (start N_can_lie_round [.int l, .ref s, .ref a]) H2 (((rng 1 (l + 1)).filter fun t => decide (rwordsOf l t st = ws)).map V.int) := by
    refine el_rng (fun t => decide (rwordsOf l t st = ws)) V.int (Evl.ea_cons Evl.ev_c (Evl.ea_cons (Evl.ev_op (Evl.ev_var rfl) Evl.ev_c Evl.rv_I0) Evl.ea_nil)) (by omega) (fun _ => rfl) (fun n H3 e3 hn1 hn2 => ?_) (fun n H3 e3 _ _ _ => Evl.ev_var rfl)
    intro H4 e4 Q4 q4
    refine ⟨_, rfl, _, rfl, _, rfl, l, n, s, st, rfl, ⟨by omega, by omega⟩, SqL.of ((e3.trans e4) _ _ hs2), hp, by omega, fun p H5 np e5 hp5 => ?_⟩
    refine ⟨_, rfl, ?_⟩
    exact eqWW (SqL.of hp5) (SqL.of (((e3.trans e4).trans e5) _ _ ha2)) ⟨_, rfl, q4 H5 e5⟩
  dsimp only [tRet, tCB, tCons]
  refine hc H2 (Ex.refl H2) _ fun p H3 np e3 h3 => ?_
  refine ⟨p, _, rfl, .inl ⟨SqL.of h3, fun u nu => ?_⟩⟩
  exact q _ _ (((e1.trans e2).trans e3).trans (Ex.new nu))
theorem len_can_lie_round {K : PySem.W.Frag} {vs : List V} {H : Hp} {Q : VK} {E : XK} (h : sp_can_lie_round K vs H Q E) : vs.length = 3 := by
  obtain ⟨v1, v2, v3, rfl, _⟩ := h
  rfl
def sp_how_many_round (K : PySem.W.Frag) : Sp := fun vs H _ E => ∃ v1 v2 : V, vs = [v1, v2] ∧ SmA H v1 ∧ ((isPl v1 60 = false ∧ E (.ref (He.ga K "NoLength")) none H) ∨ ∃ l : Int, v1 = .int l ∧ 1 ≤ l ∧ l ≤ 60 ∧ BadSt H v2 l ∧ ∀ H', Ex H H' → E (.ref (He.ga K "NoStands")) none H')
abbrev N_how_many_round : List Str := ["length", "stands", "rows", "place"]
def t_how_many_round (K : PySem.W.Frag) (E : XK) : TS := (tSeq (tDrop (tCall (sp_check_length K) [] E (tCons (tVar 0) tNil)))
  (tSeq (tDrop (tCall (sp_check_stands K) [] E (tCons (tVar 1) (tCons (tVar 0) tNil))))
  (tSeq (tAsg (tLc (iRng2 (tCons (tC (.int 1)) (tCons (tOp (rI0 fun i j => .int (i + j)) (tVar 0) (tC (.int 1))) tNil))) (gName 3) tYes (tCB (rTupleOf K) (tCons (tCall (sp_row_round K) [] E0 (tCons (tVar 0) (tCons (tVar 3) (tCons (tVar 1) tNil)))) tNil)) [3]) (gName 2))
  (tRet (tLenSetW K (tVar 2))))))
theorem pure_how_many_round {K : PySem.W.Frag} {vs : List V} {H : Hp} {Q : VK} {E : XK} (h : sp_how_many_round K vs H Q E) : t_how_many_round K E { nx := fun _ H' => Q .non H', rt := Q } (start N_how_many_round vs) H := by
  obtain ⟨v1, v2, rfl, s1, ⟨b, q⟩ | ⟨l, rfl, h1, h6, b, q⟩⟩ := h
  · exact seq_drop (call1 rfl (cl_bad s1 b q))
  · exact seq_drop (call1 rfl (cl_ok h1 h6 (seq_drop (call2 rfl rfl (cs_bad (by omega) h6 b q)))))
theorem len_how_many_round {K : PySem.W.Frag} {vs : List V} {H : Hp} {Q : VK} {E : XK} (h : sp_how_many_round K vs H Q E) : vs.length = 2 := by
  obtain ⟨v1, v2, rfl, _⟩ := h
  rfl
def sp_Search___init__ (K : PySem.W.Frag) : Sp := fun vs H _ E => ∃ (x : Addr) (v : V), vs = [.ref x, v] ∧ SmA H v ∧ isPl v 60 = false ∧ E (.ref (He.ga K "NoLength")) none H
abbrev N_Search___init__ : List Str := ["self", "length"]
def t_Search___init__ (K : PySem.W.Frag) (E : XK) : TS := (tSeq (tDrop (tCall (sp_check_length K) [] E (tCons (tVar 1) tNil)))
  (tSeq (sFld K (tVar 0) (tVar 1) "length")
  (tSeq (sFld K (tVar 0) (tLst tNil) "stood")
  (tSeq (sFld K (tVar 0) (tLst tNil) "words")
  (sFld K (tVar 0) (tLst (tCons (tTupRg (tRg2 (tC (.int 1)) (tOp (rI0 fun i j => .int (i + j)) (tVar 1) (tC (.int 1))))) tNil)) "left")))))
theorem pure_Search___init__ {K : PySem.W.Frag} (_ : SrF K) {vs : List V} {H : Hp} {Q : VK} {E : XK} (h : sp_Search___init__ K vs H Q E) : t_Search___init__ K E { nx := fun _ H' => Q .non H', rt := Q } (start N_Search___init__ vs) H := by
  obtain ⟨x, v, rfl, s, b, q⟩ := h
  exact seq_drop (call1 rfl (cl_bad s b q))
theorem len_Search___init__ {K : PySem.W.Frag} {vs : List V} {H : Hp} {Q : VK} {E : XK} (h : sp_Search___init__ K vs H Q E) : vs.length = 2 := by
  obtain ⟨x, v, rfl, _⟩ := h
  rfl
def sp__law_cell_at (K : PySem.W.Frag) : Sp := fun vs H Q _ => ∃ (a : Addr) (ns : List Int) (k : Int), vs = [.ref a, .int k] ∧ SqL K H a (ns.map V.int) ∧ 0 ≤ k ∧ ∀ v : Int, Q (.int v) H
abbrev N__law_cell_at : List Str := ["script", "k"]
def t__law_cell_at (K : PySem.W.Frag) : TS := (tSeq (tIfS (tTest (tOp (rI0 fun i j => .bl (decide (i < j))) (tVar 1) (tCB (rLenQ K) (tCons (tVar 0) tNil)))) (tRet (tOp (rIxL K) (tVar 0) (tVar 1))) tNext)
  (tRet (tC (.int 0))))
theorem pure__law_cell_at {K : PySem.W.Frag} {vs : List V} {H : Hp} {Q : VK} {E : XK} (h : sp__law_cell_at K vs H Q E) : t__law_cell_at K { nx := fun _ H' => Q .non H', rt := Q } (start N__law_cell_at vs) H := by
  obtain ⟨a, ns, k, rfl, hS, hk, q⟩ := h
  refine ⟨_, rfl, _, rfl, a, _, rfl, .inl hS, _, _, rfl, rfl, _, rfl, ite2 (fun e => ?_) (fun _ => ?_)⟩
  · have e1 := of_decide_eq_true e
    rw [List.length_map] at e1
    obtain ⟨j, rfl⟩ := Int.eq_ofNat_of_zero_le hk
    have hj : j < ns.length := by omega
    refine ⟨_, rfl, _, rfl, a, _, _, .int ns[j], rfl, rfl, hS, atI_nat ?_, q _⟩
    rw [List.getElem?_map, List.getElem?_eq_getElem hj]
    rfl
  · exact q 0
theorem len__law_cell_at {K : PySem.W.Frag} {vs : List V} {H : Hp} {Q : VK} {E : XK} (h : sp__law_cell_at K vs H Q E) : vs.length = 2 := by
  obtain ⟨a, ns, k, rfl, _⟩ := h
  rfl
def sp__law_draws (K : PySem.W.Frag) : Sp := fun vs H Q _ => ∃ c : Int, vs = [.int c, .int 400, .int 1000] ∧ ∀ p H' (ds : List Int), H p = none → Ex H H' → H' p = some (.lst (ds.map V.int)) → ds.length = 400 → Q (.ref p) H'
abbrev N__law_draws : List Str := ["cell", "many", "size", "found", "rest", "stirred", "k"]
def t__law_draws (K : PySem.W.Frag) : TS := (tSeq (tAsg (tLst tNil) (gName 3))
  (tSeq (tAsg (tOp (rI CMul fun i j => .int (i * j)) (tVar 0) (tCB rInt1 (tCons (tOp (rI0 fun i j => .bl (decide (j ≤ i))) (tVar 0) (tOp (rI CPow fun i j => .int (i ^ j.toNat)) (tC (.int 10)) (tC (.int 18)))) tNil))) (gName 4))
  (tSeq (tAsg (tOp (rI (fun _ j => 0 < j) fun i j => .int (i % j)) (tVar 0) (tC (.int 2305843009213693951))) (gName 5))
  (tSeq (tFor (iRng1 (tCons (tOp (rI0 fun i j => .int (i + j)) (tVar 1) (tC (.int 3))) tNil)) (gName 6) (tSeq (tAsg (tOp (rI (fun _ j => 0 < j) fun i j => .int (i % j)) (tOp (rI0 fun i j => .int (i + j)) (tOp (rI0 fun i j => .int (i + j)) (tOp (rI0 fun i j => .int (i + j)) (tOp (rI CMul fun i j => .int (i * j)) (tVar 5) (tVar 5)) (tOp (rI CMul fun i j => .int (i * j)) (tC (.int 48271)) (tVar 5))) (tVar 6)) (tC (.int 1))) (tC (.int 2305843009213693951))) (gName 5))
  (tIfS (tAnd (tTest (tOp (rI0 fun i j => .bl (decide (j < i))) (tVar 6) (tC (.int 2)))) (tTest (tOp (rI0 fun i j => .bl (decide (j < i))) (tVar 4) (tC (.int 0))))) (tSeq (tDrop (tBM K "list" rAppend (tVar 3) (tCons (tOp (rI (fun _ j => 0 < j) fun i j => .int (i % j)) (tVar 4) (tVar 2)) tNil)))
  (tAsg (tOp (rI CDiv fun i j => .int (i / j)) (tVar 4) (tVar 2)) (gName 4))) (tIfS (tTest (tOp (rI0 fun i j => .bl (decide (j < i))) (tVar 6) (tC (.int 2)))) (tDrop (tBM K "list" rAppend (tVar 3) (tCons (tOp (rI (fun _ j => 0 < j) fun i j => .int (i % j)) (tOp (rI CDiv fun i j => .int (i / j)) (tVar 5) (tC (.int 4096))) (tVar 2)) tNil))) tNext))))
  (tRet (tVar 3))))))
theorem pure__law_draws {K : PySem.W.Frag} {vs : List V} {H : Hp} {Q : VK} {E : XK} (h : sp__law_draws K vs H Q E) : t__law_draws K { nx := fun _ H' => Q .non H', rt := Q } (start N__law_draws vs) H := by
  obtain ⟨c, rfl, q⟩ := h
  refine ⟨Nat.zero_le _, fun f nf => ?_⟩
  refine ⟨_, rfl, _, rfl, 10, 18, rfl, rfl, ⟨by decide, by decide, by decide⟩, _, _, rfl, rfl, .inr ⟨_, rfl, ?_⟩⟩
  refine ⟨_, _, rfl, rfl, .inr ?_, ?_⟩
  · by_cases hc : decide ((10 : Int) ^ Int.toNat 18 ≤ c) = true
    · rw [if_pos hc]
      exact ⟨by decide, by decide⟩
    · rw [if_neg hc]
      exact ⟨by decide, by decide⟩
  refine ⟨_, rfl, _, _, rfl, rfl, (by decide : (0 : Int) < 2305843009213693951), ?_⟩
  refine ⟨_, rfl, _, _, rfl, rfl, 403, rfl, by decide, by decide, ?_⟩
  refine for_range (lo := 0) (n := (403 : Int).toNat) (fun i σ H' => ∃ (r s : Int) (ds : List Int) (kv : Option V), σ = [some (.int c), some (.int 400), some (.int 1000), some (.ref f), some (.int r), some (.int s), kv] ∧ 0 ≤ s ∧ s < 2305843009213693951 ∧ Ex H H' ∧ H' f = some (.lst (ds.map V.int)) ∧ ds.length = i - 3)
    ⟨_, _, [], none, rfl, Int.emod_nonneg _ (by decide), Int.emod_lt_of_pos _ (by decide), Ex.new nf, upd_same, rfl⟩ ?_ ?_
  · rintro i σ H' hi ⟨r, s, ds, kv, rfl, h0, h1, he, hf, hl⟩
    have hi2 : i < 403 := hi
    have bs : -(2 ^ 64) < s ∧ s < 2 ^ 64 := ⟨by omega, by omega⟩
    refine ⟨_, rfl, _, rfl, s, s, rfl, rfl, .inl bs, _, rfl, 48271, s, rfl, rfl, .inl ⟨by decide, by decide⟩, _, _, rfl, rfl, _, rfl, _, _, rfl, rfl, _, _, rfl, rfl, _, _, rfl, rfl, (by decide : (0 : Int) < 2305843009213693951), ?_⟩
    have s0 : 0 ≤ (s * s + 48271 * s + (0 + (i : Int)) + 1) % 2305843009213693951 := Int.emod_nonneg _ (by decide)
    have s1 : (s * s + 48271 * s + (0 + (i : Int)) + 1) % 2305843009213693951 < 2305843009213693951 := Int.emod_lt_of_pos _ (by decide)
    have hsz : (ds.map V.int).length < sizeLine := by
      rw [List.length_map]
      exact small1000 (by omega)
    refine ⟨_, rfl, _, _, rfl, rfl, _, rfl, ite2 (fun e => ?_) (fun e => ?_)⟩
    · have e1 : (2 : Int) < 0 + (i : Int) := of_decide_eq_true e
      refine ⟨_, rfl, _, _, rfl, rfl, _, rfl, ite2 (fun e2 => ?_) (fun e2 => ?_)⟩
      · refine ⟨_, rfl, .inl ⟨rfl, _, SqL.of hf⟩, _, rfl, _, rfl, _, _, rfl, rfl, (by decide : (0 : Int) < 1000), f, _, _, rfl, rfl, hf, hsz, ?_⟩
        refine ⟨_, rfl, _, rfl, _, _, rfl, rfl, ⟨by decide, by decide⟩, ?_⟩
        refine ⟨_, _, ds ++ [r % 1000], _, rfl, s0, s1, he.mut nf, ?_, ?_⟩
        · rw [upd_same, List.map_append]
          rfl
        · rw [List.length_append, hl]
          show i - 3 + 1 = i + 1 - 3
          omega
      · refine ⟨_, rfl, _, _, rfl, rfl, _, rfl, ite2 (fun e3 => ?_) (fun e3 => absurd e e3)⟩
        refine ⟨_, rfl, .inl ⟨rfl, _, SqL.of hf⟩, _, rfl, _, _, rfl, rfl, ⟨by decide, by decide⟩, _, rfl, _, _, rfl, rfl, (by decide : (0 : Int) < 1000), f, _, _, rfl, rfl, hf, hsz, ?_⟩
        refine ⟨_, _, ds ++ [(s * s + 48271 * s + (0 + (i : Int)) + 1) % 2305843009213693951 / 4096 % 1000], _, rfl, s0, s1, he.mut nf, ?_, ?_⟩
        · rw [upd_same, List.map_append]
          rfl
        · rw [List.length_append, hl]
          show i - 3 + 1 = i + 1 - 3
          omega
    · have e1 : ¬ (2 : Int) < 0 + (i : Int) := fun z => e (decide_eq_true z)
      dsimp only
      rw [if_neg Bool.false_ne_true]
      refine ⟨_, rfl, _, _, rfl, rfl, _, rfl, ite2 (fun e3 => absurd e3 e) (fun e3 => ?_)⟩
      refine ⟨r, _, ds, _, rfl, s0, s1, he, hf, ?_⟩
      omega
  · rintro σ H' ⟨r, s, ds, kv, rfl, h0, h1, he, hf, hl⟩
    exact ⟨_, rfl, q f H' ds nf he hf (hl.trans rfl)⟩
theorem len__law_draws {K : PySem.W.Frag} {vs : List V} {H : Hp} {Q : VK} {E : XK} (h : sp__law_draws K vs H Q E) : vs.length = 3 := by
  obtain ⟨c, rfl, _⟩ := h
  rfl
def sp__law_bag (K : PySem.W.Frag) : Sp := fun vs H Q _ => ∃ (a : Addr) (ns : List Int) (k : Int), vs = [.ref a, .int k] ∧ SqL K H a (ns.map V.int) ∧ 0 ≤ k ∧ ∀ p H', H p = none → Ex H H' → Bag1 H' p → Q (.ref p) H'
abbrev N__law_bag : List Str := ["script", "k"]
def t__law_bag (K : PySem.W.Frag) : TS := (tRet (tLst (tCons (tCall (sp__law_draws K) [] E0 (tCons (tCall (sp__law_cell_at K) [] E0 (tCons (tVar 0) (tCons (tVar 1) tNil))) (tCons (tC (.int 400)) (tCons (tC (.int 1000)) tNil)))) (tCons (tC (.int 0)) tNil))))
theorem pure__law_bag {K : PySem.W.Frag} {vs : List V} {H : Hp} {Q : VK} {E : XK} (h : sp__law_bag K vs H Q E) : t__law_bag K { nx := fun _ H' => Q .non H', rt := Q } (start N__law_bag vs) H := by
  obtain ⟨a, ns, k, rfl, hS, hk, q⟩ := h
  refine ⟨_, rfl, _, rfl, a, ns, k, rfl, hS, hk, fun v => ?_⟩
  refine ⟨v, rfl, fun d H1 ds nd e1 hd hl => ?_⟩
  refine ⟨by show 2 ≤ sizeLine; decide, fun p np => ?_⟩
  refine q p _ (fresh_back e1 np) (e1.trans (Ex.new np)) ⟨d, 0, ds, upd_same, ?_, hl⟩
  rw [upd_ne (ne_of_none hd np)]
  exact hd
theorem len__law_bag {K : PySem.W.Frag} {vs : List V} {H : Hp} {Q : VK} {E : XK} (h : sp__law_bag K vs H Q E) : vs.length = 2 := by
  obtain ⟨a, ns, k, rfl, _⟩ := h
  rfl
def sp__law_bags (K : PySem.W.Frag) : Sp := fun vs H Q _ => ∃ (a : Addr) (ns : List Int) (m : Int), vs = [.ref a, .int m] ∧ SqL K H a (ns.map V.int) ∧ 0 ≤ m ∧ m ≤ 63 ∧ ∀ p H' (bs : List Addr), H p = none → Ex H H' → H' p = some (.lst (bs.map V.ref)) → Bags bs H' → (∀ b ∈ bs, H b = none) → Q (.ref p) H'
abbrev N__law_bags : List Str := ["script", "limit", "k"]
def t__law_bags (K : PySem.W.Frag) : TS := (tRet (tLc (iRng1 (tCons (tCB rMax2 (tCons (tC (.int 1)) (tCons (tCB rMin2 (tCons (tVar 1) (tCons (tCB (rLenQ K) (tCons (tVar 0) tNil)) tNil))) tNil))) tNil)) (gName 2) tYes (tCall (sp__law_bag K) [] E0 (tCons (tVar 0) (tCons (tVar 2) tNil))) [2]))
theorem pure__law_bags {K : PySem.W.Frag} {vs : List V} {H : Hp} {Q : VK} {E : XK} (h : sp__law_bags K vs H Q E) : t__law_bags K { nx := fun _ H' => Q .non H', rt := Q } (start N__law_bags vs) H := by
  obtain ⟨a, ns, m, rfl, hS, h0, h1, q⟩ := h
  refine ⟨_, rfl, _, rfl, a, _, rfl, .inl hS, m, _, rfl, 1, _, rfl, _, rfl, ?_, ?_, fun D hD => ?_⟩
  · split <;> split <;> omega
  · split <;> split <;> omega
  generalize hn : (if (if ((List.map V.int ns).length : Int) < m then ((List.map V.int ns).length : Int) else m) > 1 then (if ((List.map V.int ns).length : Int) < m then ((List.map V.int ns).length : Int) else m) else 1) = n
  have n63 : n ≤ 63 := by
    rw [← hn]
    split <;> split <;> omega
  have hDl : ∀ {H' : Hp} {b : Addr} {bs : List Addr}, Bag1 H' b → H' D = some (.lst (bs.map V.ref)) → b ≠ D := fun {H' b bs} ⟨d, c, ds, h1, _⟩ h2 e => by
    subst e
    rw [h1] at h2
    have e2 := HO.lst.inj (Option.some.inj h2)
    match bs, e2 with
    | [_, _], e2 => simp at e2
  refine lc_range (lo := 0) (n := n.toNat) (fun i H' => ∃ bs : List Addr, bs.length = i ∧ Ex H H' ∧ H' D = some (.lst (bs.map V.ref)) ∧ Bags bs H' ∧ ∀ b ∈ bs, H b = none)
    ⟨[], rfl, Ex.new hD, upd_same, fun _ hb => (nomatch hb), fun _ hb => (nomatch hb)⟩ (fun i H' hi p => ?_) (fun H' p => ?_)
  · obtain ⟨bs, hl, he, hd, hb, hf⟩ := p
    refine ⟨rfl, ?_⟩
    dsimp only [tYes]
    rw [if_pos rfl]
    refine ⟨_, rfl, _, rfl, a, ns, _, rfl, ex_l he hS, by omega, fun b H2 nb e2 hB => ?_⟩
    have nbD : b ≠ D := hDl hB (e2 _ _ hd)
    refine ⟨_, e2 _ _ hd, ?_, bs ++ [b], ?_, (he.trans e2).mut hD, ?_, ?_, ?_⟩
    · rw [List.length_map, hl]
      exact small1000 (by omega)
    · rw [List.length_append, hl]
      rfl
    · rw [upd_same, List.map_append]
      rfl
    · have hB2 : Bags (bs ++ [b]) H2 := fun x hx => by
        rcases List.mem_append.mp hx with z | z
        · exact (hb x z).ex e2
        · rw [List.mem_singleton.mp z]
          exact hB
      refine hB2.mut (fun z => ?_) (fun d ds h2 h3 e => ?_)
      · exact hDl (hB2 D z) (e2 _ _ hd) rfl
      · subst e
        rw [e2 _ _ hd] at h2
        have e3 := HO.lst.inj (Option.some.inj h2)
        match bs, ds, e3, hl with
        | [], ds, e3, _ =>
          have e4 : ds = [] := by simpa using e3.symm
          rw [e4] at h3
          cases h3
        | _ :: _, _ :: _, e3, _ => simp at e3
        | _ :: _, [], e3, _ => simp at e3
    · intro x hx
      rcases List.mem_append.mp hx with z | z
      · exact hf x z
      · rw [List.mem_singleton.mp z]
        exact fresh_back he nb
  · obtain ⟨bs, hl, he, hd, hb, hf⟩ := p
    exact q D H' bs hD he hd hb hf
theorem len__law_bags {K : PySem.W.Frag} {vs : List V} {H : Hp} {Q : VK} {E : XK} (h : sp__law_bags K vs H Q E) : vs.length = 2 := by
  obtain ⟨a, ns, m, rfl, _⟩ := h
  rfl
def sp__law_take (K : PySem.W.Frag) : Sp := fun vs H Q _ => ∃ (bs : List Addr) (b : Addr) (m : Int), vs = [.ref b, .int m] ∧ b ∈ bs ∧ Bags bs H ∧ 0 < m ∧ ∀ r H', 0 ≤ r → r < m → Kp bs H H' → Bags bs H' → Q (.int r) H'
abbrev N__law_take : List Str := ["bag", "many"]
def t__law_take (K : PySem.W.Frag) : TS := (tSeq (tAsg (tOp (rI0 fun i j => .int (i + j)) (tOp (rIxL K) (tVar 0) (tC (.int 1))) (tC (.int 1))) (gSub (tVar 0) (tC (.int 1)) rSetL))
  (tRet (tOp (rI (fun _ j => 0 < j) fun i j => .int (i % j)) (tOp (rIxL K) (tOp (rIxL K) (tVar 0) (tC (.int 0))) (tOp (rI (fun _ j => 0 < j) fun i j => .int (i % j)) (tOp (rIxL K) (tVar 0) (tC (.int 1))) (tCB (rLenQ K) (tCons (tOp (rIxL K) (tVar 0) (tC (.int 0))) tNil)))) (tVar 1))))
theorem pure__law_take {K : PySem.W.Frag} {vs : List V} {H : Hp} {Q : VK} {E : XK} (h : sp__law_take K vs H Q E) : t__law_take K { nx := fun _ H' => Q .non H', rt := Q } (start N__law_take vs) H := by
  obtain ⟨bs, b, m, rfl, hb, hB, hm, q⟩ := h
  obtain ⟨d, c, ds, h1, h2, h3⟩ := hB b hb
  have ndb : d ≠ b := fun e => by
    rw [e, h1] at h2
    have e2 := congrArg List.length (HO.lst.inj (Option.some.inj h2))
    rw [List.length_map, h3] at e2
    cases e2
  refine ⟨_, rfl, b, _, 1, .int c, rfl, rfl, SqL.of h1, rfl, c, 1, rfl, rfl, _, rfl, b, _, 1, 1, rfl, rfl, h1, rfl, ?_⟩
  have g1 : upd H b (.lst [.ref d, .int (c + 1)]) b = some (.lst [.ref d, .int (c + 1)]) := upd_same
  have g2 : upd H b (.lst [.ref d, .int (c + 1)]) d = some (.lst (ds.map V.int)) := by
    rw [upd_ne ndb]
    exact h2
  have hj0 : 0 ≤ (c + 1) % 400 := Int.emod_nonneg _ (by decide)
  have hj1 : (c + 1) % 400 < 400 := Int.emod_lt_of_pos _ (by decide)
  obtain ⟨j, ej⟩ := Int.eq_ofNat_of_zero_le hj0
  have hj : j < ds.length := by omega
  have el : ((ds.map V.int).length : Int) = 400 := by
    rw [List.length_map, h3]
    rfl
  refine ⟨_, rfl, b, _, 0, .ref d, rfl, rfl, SqL.of g1, rfl, _, rfl, b, _, 1, .int (c + 1), rfl, rfl, SqL.of g1, rfl, _, rfl, b, _, 0, .ref d, rfl, rfl, SqL.of g1, rfl, d, _, rfl, .inl (SqL.of g2), c + 1, _, rfl, rfl, ?_, ?_⟩
  · show (0 : Int) < ((ds.map V.int).length : Int)
    rw [el]
    decide
  refine ⟨d, ds.map V.int, _, .int ds[j], rfl, rfl, SqL.of g2, ?_, _, rfl, ds[j], m, rfl, rfl, hm, ?_⟩
  · rw [el, ej]
    refine atI_nat ?_
    rw [List.getElem?_map, List.getElem?_eq_getElem hj]
    rfl
  · refine q _ _ (Int.emod_nonneg _ (by omega)) (Int.emod_lt_of_pos _ hm) (fun a o na ha => ?_) (fun b' hb' => ?_)
    · have nab : a ≠ b := fun e => na (e ▸ hb)
      rw [upd_ne nab]
      exact ha
    · by_cases e : b' = b
      · subst e
        exact ⟨d, c + 1, ds, upd_same, g2, h3⟩
      · obtain ⟨d', c', ds', k1, k2, k3⟩ := hB b' hb'
        have nd' : d' ≠ b := fun z => by
          rw [z, h1] at k2
          have e2 := congrArg List.length (HO.lst.inj (Option.some.inj k2))
          rw [List.length_map, k3] at e2
          cases e2
        exact ⟨d', c', ds', by rw [upd_ne e]; exact k1, by rw [upd_ne nd']; exact k2, k3⟩
theorem len__law_take {K : PySem.W.Frag} {vs : List V} {H : Hp} {Q : VK} {E : XK} (h : sp__law_take K vs H Q E) : vs.length = 2 := by
  obtain ⟨bs, b, m, rfl, _⟩ := h
  rfl
def sp__law_some_stands (K : PySem.W.Frag) : Sp := fun vs H Q _ => ∃ (bs : List Addr) (b : Addr) (l m : Int), vs = [.ref b, .int l, .int m] ∧ b ∈ bs ∧ Bags bs H ∧ 1 ≤ l ∧ 0 ≤ m ∧ m ≤ 100 ∧
  ∀ p H' (ns : List Int), H p = none → Kp bs H H' → Bags bs H' → H' p = some (.lst (ns.map V.int)) → (ns.length : Int) ≤ m → Places l ns → Q (.ref p) H'
abbrev N__law_some_stands : List Str := ["bag", "length", "most", "found", "turn", "place"]
def t__law_some_stands (K : PySem.W.Frag) : TS := (tSeq (tAsg (tLst tNil) (gName 3))
  (tSeq (tFor (iRng1 (tCons (tCall (sp__law_take K) [] E0 (tCons (tVar 0) (tCons (tOp (rI0 fun i j => .int (i + j)) (tVar 2) (tC (.int 1))) tNil))) tNil)) (gName 4) (tSeq (tAsg (tOp (rI0 fun i j => .int (i + j)) (tC (.int 1)) (tCall (sp__law_take K) [] E0 (tCons (tVar 0) (tCons (tVar 1) tNil)))) (gName 5))
  (tSeq (tIfS (tAnd (tTest (tOp (rNeD K) (tVar 3) (tLst tNil))) (tTest (tOp rEq (tCall (sp__law_take K) [] E0 (tCons (tVar 0) (tCons (tC (.int 3)) tNil))) (tC (.int 0))))) (tAsg (tCB rMax2 (tCons (tC (.int 1)) (tCons (tCB rMin2 (tCons (tVar 1) (tCons (tOp (rI0 fun i j => .int (i - j)) (tOp (rI0 fun i j => .int (i + j)) (tOp (rIxL K) (tVar 3) (tUn (rU fun i => .int (-i)) (tC (.int 1)))) (tCall (sp__law_take K) [] E0 (tCons (tVar 0) (tCons (tC (.int 5)) tNil)))) (tC (.int 2))) tNil))) tNil))) (gName 5)) tNext)
  (tDrop (tBM K "list" rAppend (tVar 3) (tCons (tVar 5) tNil))))))
  (tRet (tVar 3))))
theorem places_add {l : Int} {ns : List Int} {n : Int} (h : Places l ns) (h1 : 1 ≤ n) (h2 : n ≤ l) : Places l (ns ++ [n]) := fun x hx => by
  rcases List.mem_append.mp hx with z | z
  · exact h x z
  · rw [List.mem_singleton.mp z]
    exact ⟨h1, h2⟩
theorem pure__law_some_stands {K : PySem.W.Frag} {vs : List V} {H : Hp} {Q : VK} {E : XK} (h : sp__law_some_stands K vs H Q E) : t__law_some_stands K { nx := fun _ H' => Q .non H', rt := Q } (start N__law_some_stands vs) H := by
  obtain ⟨bs, b, l, m, rfl, hb, hB, hl, hm0, hm, q⟩ := h
  refine ⟨Nat.zero_le _, fun f nf => ?_⟩
  have nfb : f ∉ bs := hB.fresh nf
  have B1 : Bags bs (upd H f (.lst [])) := hB.ex (Ex.new nf)
  refine ⟨_, rfl, _, rfl, m, 1, rfl, rfl, bs, b, m + 1, rfl, hb, B1, by omega, fun r H1 hr0 hr1 k1 B1 => ?_⟩
  have hf1 : H1 f = some (.lst []) := k1 f _ nfb upd_same
  have k0 : Kp bs H H1 := (Kp.ex (Ex.new nf)).trans k1
  refine ⟨r, rfl, by omega, by omega, ?_⟩
  refine for_range (lo := 0) (n := r.toNat) (fun i σ H' => ∃ (ns : List Int) (x y : Option V), σ = [some (.ref b), some (.int l), some (.int m), some (.ref f), x, y] ∧ Kp bs H H' ∧ Bags bs H' ∧ H' f = some (.lst (ns.map V.int)) ∧ ns.length = i ∧ Places l ns)
    ⟨[], none, none, rfl, k0, B1, hf1, rfl, fun _ hx => (nomatch hx)⟩ ?_ ?_
  · rintro i σ H2 hi ⟨ns, x, y, rfl, k2, B2, hf2, hlen, hP⟩
    refine ⟨_, rfl, _, rfl, bs, b, l, rfl, hb, B2, by omega, fun p H3 hp0 hp1 k3 B3 => ?_⟩
    have hf3 : H3 f = some (.lst (ns.map V.int)) := k3 f _ nfb hf2
    refine ⟨1, p, rfl, rfl, ?_⟩
    have app : ∀ (pl : Int) (H4 : Hp) (B4 : Bags bs H4) (k4 : Kp bs H H4) (hf4 : H4 f = some (.lst (ns.map V.int))), 1 ≤ pl → pl ≤ l →
        tDrop (tBM K "list" rAppend (tVar 3) (tCons (tVar 5) tNil)) { nx := fun σ H' => ∃ (ns : List Int) (x y : Option V), σ = [some (.ref b), some (.int l), some (.int m), some (.ref f), x, y] ∧ Kp bs H H' ∧ Bags bs H' ∧ H' f = some (.lst (ns.map V.int)) ∧ ns.length = i + 1 ∧ Places l ns, rt := Q, bk := fun _ _ => False, ct := fun _ _ => False }
          [some (.ref b), some (.int l), some (.int m), some (.ref f), some (.int (0 + (i : Int))), some (.int pl)] H4 := by
      intro pl H4 B4 k4 hf4 h1 h2
      refine ⟨_, rfl, .inl ⟨rfl, _, SqL.of hf4⟩, _, rfl, f, _, _, rfl, rfl, hf4, ?_, ns ++ [pl], _, _, rfl, k4.mut nf, ?_, ?_, ?_, places_add hP h1 h2⟩
      · rw [List.length_map]
        exact small1000 (by omega)
      · refine B4.mut nfb fun d ds hd hdl e => ?_
        subst e
        rw [hf4] at hd
        have e2 := congrArg List.length (HO.lst.inj (Option.some.inj hd))
        rw [List.length_map, List.length_map, hdl] at e2
        omega
      · rw [upd_same, List.map_append]
        rfl
      · rw [List.length_append, hlen]
        rfl
    refine ⟨_, rfl, Nat.zero_le _, fun z nz => ?_⟩
    have e3 : Ex H3 (upd H3 z (.lst [])) := Ex.new nz
    have B3z := B3.ex e3
    refine neII (ns := ns) (ms := []) (SqL.of (e3 _ _ hf3)) (SqL.of upd_same) ⟨_, rfl, ite2 (fun hne => ?_) (fun hne => ?_)⟩
    · have nne : ns ≠ [] := fun e => by
        subst e
        cases hne
      refine ⟨_, rfl, bs, b, 3, rfl, hb, B3z, by decide, fun c H4 _ _ k4 B4 => ?_⟩
      have hf4 : H4 f = some (.lst (ns.map V.int)) := k4 f _ nfb (e3 _ _ hf3)
      have kk4 : Kp bs H H4 := ((k2.trans k3).trans (Kp.ex e3)).trans k4
      refine ⟨rfl, _, rfl, ite2 (fun _ => ?_) (fun _ => ?_)⟩
      · have ha : ∃ y : Int, atI (ns.map V.int) (-1) = some (.int y) := by
          refine ⟨ns.getLast nne, ?_⟩
          have ez : ns.map V.int = (ns.dropLast.map V.int) ++ [V.int (ns.getLast nne)] := by
            rw [← List.map_singleton, ← List.map_append, List.dropLast_concat_getLast]
          rw [ez]
          exact atI_last _ _
        obtain ⟨y, ha⟩ := ha
        refine ⟨_, rfl, _, rfl, 1, rfl, f, _, -1, _, rfl, rfl, SqL.of hf4, ha, _, rfl, bs, b, 5, rfl, hb, B4, by decide, fun d H5 _ _ k5 B5 => ?_⟩
        refine ⟨y, d, rfl, rfl, y + d, 2, rfl, rfl, l, y + d - 2, rfl, 1, _, rfl, ?_⟩
        refine app _ H5 B5 (kk4.trans k5) (k5 f _ nfb hf4) ?_ ?_
        · split <;> split <;> omega
        · split <;> split <;> omega
      · exact app _ H4 B4 kk4 hf4 (by omega) (by omega)
    · exact app _ _ B3z ((k2.trans k3).trans (Kp.ex e3)) (e3 _ _ hf3) (by omega) (by omega)
  · rintro σ H2 ⟨ns, x, y, rfl, k2, B2, hf2, hlen, hP⟩
    exact ⟨_, rfl, q f H2 ns nf k2 B2 hf2 (by omega) hP⟩
theorem len__law_some_stands {K : PySem.W.Frag} {vs : List V} {H : Hp} {Q : VK} {E : XK} (h : sp__law_some_stands K vs H Q E) : vs.length = 3 := by
  obtain ⟨bs, b, l, m, rfl, _⟩ := h
  rfl
/-! ### the refusals -/
/-- the names of the refusals without fields -/
def rfN : List Str := ["NoLength", "NoPlace", "NotNow", "NoStands", "NoAnswers", "NoStretch", "NoAnswer", "Never", "NothingLeft"]
structure ExF (K : PySem.W.Frag) : Prop where
  tl : ∀ x ∈ rfN, PySem.W.exmOne K (.ref (He.ga K x)) (.ref (He.ga K "TooLong")) = some false
  se : ∀ x ∈ rfN, PySem.W.exmOne K (.ref (He.ga K x)) (.ref (He.ga K "SeekError")) = some true
  ec : ∀ x ∈ rfN, ExcC K (He.ga K x)
  kit : ∀ x ∈ rfN, ∀ y ∈ rfN, PySem.W.kitOne K (.ref (He.ga K x)) (.ref (He.ga K y)) = some (decide (x = y))
  ve : ∀ x ∈ rfN, PySem.W.kitOne K (.ref (He.ga K x)) (.type "ValueError") = some true
def exFB (K : PySem.W.Frag) : Bool := rfN.all fun x => decide (PySem.W.exmOne K (.ref (He.ga K x)) (.ref (He.ga K "TooLong")) = some false) && (decide (PySem.W.exmOne K (.ref (He.ga K x)) (.ref (He.ga K "SeekError")) = some true) && (excCB K x &&
  ((rfN.all fun y => decide (PySem.W.kitOne K (.ref (He.ga K x)) (.ref (He.ga K y)) = some (decide (x = y)))) && decide (PySem.W.kitOne K (.ref (He.ga K x)) (.type "ValueError") = some true))))
theorem exFB_ok {K : PySem.W.Frag} (h : exFB K = true) : ExF K := by
  have h := List.all_eq_true.mp h
  refine ⟨fun x hx => of_decide_eq_true (He.ba (h x hx)).1, fun x hx => of_decide_eq_true (He.ba (He.ba (h x hx)).2).1, fun x hx => excCB_ok (He.ba (He.ba (He.ba (h x hx)).2).2).1, fun x hx y hy => ?_, fun x hx => of_decide_eq_true (He.ba (He.ba (He.ba (He.ba (h x hx)).2).2).2).2⟩
  exact of_decide_eq_true (List.all_eq_true.mp (He.ba (He.ba (He.ba (He.ba (h x hx)).2).2).2).1 y hy)
theorem is_step {K : PySem.W.Frag} (F : ExF K) {nm y : Str} (hn : nm ∈ rfN) (hy : y ∈ rfN) {a : Addr} {σ : L2.St} {H : Hp} {Q : VK} (hs : σ[5]? = some (some (.ref a))) (q : Q (.bl (decide (nm = y))) H) :
    tCB (rIsN K (.ref (He.ga K nm)) none a) (tCons (tVar 5) (tCons (tC (.ref (He.ga K y))) tNil)) σ H Q :=
  ⟨_, hs, _, rfl, rfl, F.ec nm hn, _, _, _, rfl, fun u h => h, F.kit nm hn y hy, q⟩
/-- the tuple (name, is it) made -/
theorem tup_step {K : PySem.W.Frag} (F : ExF K) {nm y : Str} (hn : nm ∈ rfN) (hy : y ∈ rfN) {a : Addr} {σ : L2.St} {H : Hp} {Q : VK} (hs : σ[5]? = some (some (.ref a))) (q : ∀ u H', H u = none → Ex H H' → H' u = some (.tup [.str y, .bl (decide (nm = y))]) → Q (.ref u) H') :
    tTup (tCons (tC (.str y)) (tCons (tCB (rIsN K (.ref (He.ga K nm)) none a) (tCons (tVar 5) (tCons (tC (.ref (He.ga K y))) tNil))) tNil)) σ H Q :=
  is_step (Q := fun v H1 => ([V.str y, v] : List V).length ≤ sizeLine ∧ ∀ t, H1 t = none → Q (.ref t) (upd H1 t (.tup [.str y, v]))) F hn hy hs ⟨by show 2 ≤ sizeLine; decide, fun t nt => q t _ nt (Ex.new nt) upd_same⟩
/-- tuples (text, flag) at these places -/
inductive AtFlags (nm : Str) (H : Hp) : List Addr → List Str → Prop
  | nil : AtFlags nm H [] []
  | cons {u : Addr} {us : List Addr} {y : Str} {ys : List Str} : H u = some (.tup [.str y, .bl (decide (nm = y))]) → AtFlags nm H us ys → AtFlags nm H (u :: us) (y :: ys)
theorem AtFlags.ex {nm : Str} {H H' : Hp} (e : Ex H H') : ∀ {us : List Addr} {ys : List Str}, AtFlags nm H us ys → AtFlags nm H' us ys
  | _, _, .nil => .nil
  | _, _, .cons h t => .cons (e _ _ h) (t.ex e)
theorem AtFlags.app {nm : Str} {H : Hp} : ∀ {us vs : List Addr} {ys zs : List Str}, AtFlags nm H us ys → AtFlags nm H vs zs → AtFlags nm H (us ++ vs) (ys ++ zs)
  | _, _, _, _, .nil, h => h
  | _, _, _, _, .cons h t, h2 => .cons h (t.app h2)
theorem AtFlags.len {nm : Str} {H : Hp} : ∀ {us : List Addr} {ys : List Str}, AtFlags nm H us ys → us.length = ys.length
  | _, _, .nil => rfl
  | _, _, .cons _ t => congrArg (· + 1) t.len
theorem AtFlags.at {nm : Str} {H : Hp} : ∀ {us : List Addr} {ys : List Str}, AtFlags nm H us ys → ∀ {i : Nat} {u : Addr}, us[i]? = some u → ∃ y, ys[i]? = some y ∧ H u = some (.tup [.str y, .bl (decide (nm = y))])
  | _, _, .nil, _, _, h => by simp at h
  | _, _, .cons h t, 0, u, e => ⟨_, rfl, by rw [← Option.some.inj e]; exact h⟩
  | _, _, .cons h t, i + 1, u, e => t.at e
/-- what a refused call ends with: a new list of the refusal's name and True -/
def EndR (K : PySem.W.Frag) (Q : VK) : XK := fun cls d H' => ∃ nm, nm ∈ rfN ∧ cls = .ref (He.ga K nm) ∧ d = none ∧ ∀ q H2, H' q = none → Ex H' H2 → H2 q = some (.lst [.str nm, .bl true]) → Q (.ref q) H2
abbrev tFlag (K : PySem.W.Frag) (nm : Str) (a : Addr) (y : Str) : TE := tTup (tCons (tC (.str y)) (tCons (tCB (rIsN K (.ref (He.ga K nm)) none a) (tCons (tVar 5) (tCons (tC (.ref (He.ga K y))) tNil))) tNil))
theorem lst1_step {K : PySem.W.Frag} (F : ExF K) {nm y : Str} (hn : nm ∈ rfN) (hy : y ∈ rfN) {a : Addr} {σ : L2.St} {H : Hp} {Q : VK} (hs : σ[5]? = some (some (.ref a))) (q : ∀ L us H', Ex H H' → H L = none → H' L = some (.lst (us.map V.ref)) → AtFlags nm H' us [y] → Q (.ref L) H') :
    tLst (tCons (tFlag K nm a y) tNil) σ H Q :=
  tup_step (Q := fun x1 H1 => ([x1] : List V).length ≤ sizeLine ∧ ∀ p, H1 p = none → Q (.ref p) (upd H1 p (.lst [x1]))) F hn hy hs fun u H1 n1 e1 g1 => ⟨by show 1 ≤ sizeLine; decide, fun p np => q p [u] _ (e1.trans (Ex.new np)) (fresh_back e1 np) upd_same (.cons ((Ex.new np) _ _ g1) .nil)⟩
theorem lst2_step {K : PySem.W.Frag} (F : ExF K) {nm y z : Str} (hn : nm ∈ rfN) (hy : y ∈ rfN) (hz : z ∈ rfN) {a : Addr} {σ : L2.St} {H : Hp} {Q : VK} (hs : σ[5]? = some (some (.ref a))) (q : ∀ L us H', Ex H H' → H L = none → H' L = some (.lst (us.map V.ref)) → AtFlags nm H' us [y, z] → Q (.ref L) H') :
    tLst (tCons (tFlag K nm a y) (tCons (tFlag K nm a z) tNil)) σ H Q :=
  tup_step (Q := fun x1 H1 => tFlag K nm a z σ H1 fun x2 H2 => ([x1, x2] : List V).length ≤ sizeLine ∧ ∀ p, H2 p = none → Q (.ref p) (upd H2 p (.lst [x1, x2]))) F hn hy hs fun u1 H1 n1 e1 g1 => tup_step (Q := fun x2 H2 => ([.ref u1, x2] : List V).length ≤ sizeLine ∧ ∀ p, H2 p = none → Q (.ref p) (upd H2 p (.lst [.ref u1, x2]))) F hn hz hs fun u2 H2 n2 e2 g2 =>
    ⟨by show 2 ≤ sizeLine; decide, fun p np => q p [u1, u2] _ ((e1.trans e2).trans (Ex.new np)) (fresh_back (e1.trans e2) np) upd_same (.cons ((Ex.new np) _ _ (e2 _ _ g1)) (.cons ((Ex.new np) _ _ g2) .nil))⟩
/-- words = words + [..] -/
theorem cat_step {nm : Str} {tl : TE} {σ : L2.St} {H : Hp} {Q : VK} {L : Addr} {us : List Addr} {ys zs : List Str} (hs : σ[6]? = some (some (.ref L))) (hL : H L = some (.lst (us.map V.ref))) (hf : AtFlags nm H us ys) (hl : ys.length + zs.length ≤ 100)
    (ht : ∀ Q2 : VK, (∀ L2 vs H', Ex H H' → H L2 = none → H' L2 = some (.lst (vs.map V.ref)) → AtFlags nm H' vs zs → Q2 (.ref L2) H') → tl σ H Q2)
    (q : ∀ L2 vs H', Ex H H' → H' L2 = some (.lst (vs.map V.ref)) → AtFlags nm H' vs (ys ++ zs) → Q (.ref L2) H') : tOp rCat (tVar 6) tl σ H Q := by
  refine ⟨_, hs, ht _ fun L2 vs H1 e1 n2 h2 f2 => ?_⟩
  refine ⟨L, L2, _, _, rfl, rfl, e1 _ _ hL, h2, ?_, fun p np => ?_⟩
  · rw [List.length_map, List.length_map, hf.len, f2.len]
    exact Nat.le_trans hl (by decide)
  · refine q p (us ++ vs) _ (e1.trans (Ex.new np)) ?_ (((hf.ex e1).app f2).ex (Ex.new np))
    rw [upd_same, List.map_append]
theorem pick_step {K : PySem.W.Frag} (F : ExF K) {nm : Str} (hn : nm ∈ rfN) {f p a L : Addr} {v1 v2 v3 : V} {us : List Addr} {H1 H : Hp} {Q : VK} {x7 x8 : Option V} (e : Ex H1 H) (hL : H L = some (.lst (us.map V.ref))) (hf : AtFlags nm H us rfN)
    (q : ∀ q H2, H1 q = none → Ex H1 H2 → H2 q = some (.lst [.str nm, .bl true]) → Q (.ref q) H2) :
    tOp rCat (tLc (iList K (tVar 6)) (gTup K 2 (gCons (gName 7) (gCons (gName 8) gNil))) (tB (tVar 8)) (tVar 7) [7, 8]) (tLst (tCons (tCB (rIsN K (.ref (He.ga K nm)) none a) (tCons (tVar 5) (tCons (tC (.ty "ValueError")) tNil))) tNil))
      [some (.ref f), some v1, some v2, some v3, some (.ref p), some (.ref a), some (.ref L), x7, x8] H fun x H2 => tVar 4 (([some (.ref f), some v1, some v2, some v3, some x, some (.ref a), some (.ref L), x7, x8] : L2.St).set 5 none) H2 Q := by
  refine ⟨_, rfl, L, rfl, ⟨_, SqL.of hL⟩, fun D nD => ?_⟩
  have hul := hf.len
  have hone : (rfN.filter fun y => decide (nm = y)) = [nm] := by
    have : ∀ x ∈ rfN, (rfN.filter fun y => decide (x = y)) = [x] := by decide +kernel
    exact this nm hn
  refine lc_list (K := K) (a := L) (xs := us.map V.ref) (fun i H' => Ex H H' ∧ H' D = some (.lst (((rfN.take i).filter fun y => decide (nm = y)).map V.str)))
    ⟨Ex.new nD, upd_same⟩ (fun i H' _ hp => SqL.of (hp.1 _ _ hL)) (fun i x H' hx hp => ?_) (fun H' hp => ?_)
  · obtain ⟨e', hD⟩ := hp
    obtain ⟨u, hu, rfl⟩ : ∃ u, us[i]? = some u ∧ x = .ref u := by
      rw [List.getElem?_map] at hx
      cases hg : us[i]? with
      | none => rw [hg] at hx; cases hx
      | some u =>
        rw [hg] at hx
        exact ⟨u, rfl, (Option.some.inj hx).symm⟩
    obtain ⟨y, hy, huy⟩ := hf.at hu
    refine ⟨u, _, rfl, SqT.of (e' _ _ huy), rfl, _, _, rfl, _, [], rfl, rfl, rfl, _, rfl, _, rfl, ?_⟩
    have etk : ((rfN.take (i + 1)).filter fun y => decide (nm = y)) = ((rfN.take i).filter fun y => decide (nm = y)) ++ (if nm = y then [y] else []) := by
      rw [List.take_add_one, hy, List.filter_append]
      congr 1
      by_cases hny : nm = y
      · rw [if_pos hny]
        simp [hny]
      · rw [if_neg hny]
        simp [hny]
    by_cases hny : nm = y
    · rw [decide_eq_true hny]
      rw [if_pos hny] at etk
      refine iteT ⟨_, rfl, _, hD, ?_, e'.mut nD, ?_⟩
      · rw [List.length_map]
        refine small1000 (Nat.le_trans (List.length_filter_le _ _) (Nat.le_trans (List.length_take_le _ _) ?_))
        have : i < us.length := (List.getElem?_eq_some_iff.mp hu).1
        rw [hul] at this
        exact Nat.le_of_lt (Nat.lt_of_lt_of_le this (by decide))
      · rw [upd_same, etk, List.map_append]
        rfl
    · rw [decide_eq_false hny]
      rw [if_neg hny, List.append_nil] at etk
      refine iteF ⟨e', ?_⟩
      rw [hD, etk]
  · obtain ⟨e', hD⟩ := hp
    rw [List.length_map, hul, List.take_length, hone] at hD
    refine ⟨_, rfl, _, rfl, rfl, F.ec nm hn, _, _, _, rfl, fun u h => h, F.ve nm hn, by show 1 ≤ sizeLine; decide, fun M nM => ?_⟩
    refine ⟨D, M, _, _, rfl, rfl, (Ex.new nM) _ _ hD, upd_same, by show 2 ≤ sizeLine; decide, fun R nR => ⟨_, rfl, ?_⟩⟩
    have e1 : Ex H1 (upd (upd H' M (.lst [.bl true])) R (.lst [.str nm, .bl true])) := ((e.trans e').trans (Ex.new nM)).trans (Ex.new nR)
    exact q R _ (fresh_back ((e.trans e').trans (Ex.new nM)) nR) e1 upd_same
/-! ### TooLong: a refusal with a field -/
/-- isinstance(e, ValueError) in a suite, e with its dict -/
def rIsD (K : PySem.W.Frag) (cls : Value) (d : Option Addr) (a : Addr) : List V → Hp → VK → Prop := fun xs H Q => xs = [.ref a, .ty "ValueError"] ∧ ∃ D dd fs, cls = .ref D ∧ d = some dd ∧ H dd = some (.xd fs) ∧ ExcC K D ∧ PySem.W.kitOne K (.ref D) (.type "ValueError") = some true ∧ Q (.bl true) H
structure ExT (K : PySem.W.Frag) : Prop where
  tl : PySem.W.exmOne K (.ref (He.ga K "TooLong")) (.ref (He.ga K "TooLong")) = some true
  ve : PySem.W.kitOne K (.ref (He.ga K "TooLong")) (.type "ValueError") = some true
  ec : ExcC K (He.ga K "TooLong")
def exTB (K : PySem.W.Frag) : Bool := decide (PySem.W.exmOne K (.ref (He.ga K "TooLong")) (.ref (He.ga K "TooLong")) = some true) && (decide (PySem.W.kitOne K (.ref (He.ga K "TooLong")) (.type "ValueError") = some true) && excCB K "TooLong")
theorem exTB_ok {K : PySem.W.Frag} (h : exTB K = true) : ExT K := ⟨of_decide_eq_true (He.ba h).1, of_decide_eq_true (He.ba (He.ba h).2).1, excCB_ok (He.ba (He.ba h).2).2⟩
/-- what a call refused by TooLong ends with -/
def EndT (K : PySem.W.Frag) (Q : VK) : XK := fun cls d H' => cls = .ref (He.ga K "TooLong") ∧ ∃ dd, d = some dd ∧ H' dd = some (.xd [("most", .int 16)]) ∧ ∀ q H2, H' q = none → Ex H' H2 → H2 q = some (.lst [.str "TooLong", .int 16, .bl true]) → Q (.ref q) H2
theorem rf_list : ∀ nm ∈ rfN, SeqAt.shaped (.list [.str nm, .bool true]) = true ∧ PyData.eqv (.list [.str nm, .bool true]) (.list [.str nm, .bool true]) = true := by decide +kernel
theorem neRf {K : PySem.W.Frag} {H : Hp} {a b : Addr} {nm : Str} {Q : VK} (hn : nm ∈ rfN) (ha : H a = some (.lst [.str nm, .bl true])) (hb : H b = some (.lst [.str nm, .bl true])) (q : Q (.bl false) H) : rNeD K (.ref a) (.ref b) H Q := by
  have ⟨h1, h2⟩ := rf_list nm hn
  refine ⟨_, _, .lst (SqL.of ha) (.cons (.str nm) (.cons (.bl true) .nil)), .lst (SqL.of hb) (.cons (.str nm) (.cons (.bl true) .nil)), h1, h1, ?_⟩
  rw [h2]
  exact q
theorem eqRf {K : PySem.W.Frag} {H : Hp} {a b : Addr} {nm : Str} {Q : VK} (hn : nm ∈ rfN) (ha : H a = some (.lst [.str nm, .bl true])) (hb : H b = some (.lst [.str nm, .bl true])) (q : Q (.bl true) H) : rEqD K (.ref a) (.ref b) H Q := by
  have ⟨h1, h2⟩ := rf_list nm hn
  refine ⟨_, _, .lst (SqL.of ha) (.cons (.str nm) (.cons (.bl true) .nil)), .lst (SqL.of hb) (.cons (.str nm) (.cons (.bl true) .nil)), h1, h1, ?_⟩
  rw [h2]
  exact q
def sp__law_refused (K : PySem.W.Frag) (P : Program) (w : World) (mg : Str → Option Value) (base : Heap) : Sp := fun vs H Q _ => ∃ (f : Addr) (v1 v2 v3 : V) (sp : Sp), vs = [.ref f, v1, v2, v3] ∧ FnR P w K mg base (L2N.CX P w) 100 f sp ∧ (PySem.W.keepIn K (.ref f) = true ∨ ∃ F e, H f = some (LamO f F e)) ∧
  ∀ p Q' E', H p = none → (∀ v H', Q (.ref p) H' → Q' v H') → (∀ cls d H', EndR K Q cls d H' ∨ EndT K Q cls d H' → E' cls d H') → sp [v1, v2, v3] (upd H p (.lst [])) Q' E'
abbrev N__law_refused : List Str := ["call", "one", "two", "three", "kin", "e", "words", "word", "there"]
def t__law_refused (K : PySem.W.Frag) (P : Program) (w : World) (mg : Str → Option Value) (base : Heap) : TS := (tSeq (tAsg (tLst tNil) (gName 4))
  (tSeq (fun D σ H => (fun WW : WX => (tDrop (tCallW P w K mg base (L2N.CX P w) 100 0 (fun σ cls d H => WW cls d σ H) (tCons (tVar 1) (tCons (tVar 2) (tCons (tVar 3) tNil)))))) (wNam K (fun _ _ _ _ => False) D [(.ref (He.ga K "TooLong"), 5, (fun a cls d => (tAsg (tLst (tCons (tC (.str (Str.ofString "TooLong"))) (tCons (tXf a cls d (He.ga K "TooLong") "most" (tVar 5)) (tCons (tCB (rIsD K cls d a) (tCons (tVar 5) (tCons (tC (.ty "ValueError")) tNil))) tNil)))) (gName 4)))), (.ref (He.ga K "SeekError"), 5, (fun a cls d => (tSeq (tAsg (tLst (tCons (tTup (tCons (tC (.str (Str.ofString "NoLength"))) (tCons (tCB (rIsN K cls d a) (tCons (tVar 5) (tCons (tC (.ref (He.ga K "NoLength"))) tNil))) tNil))) (tCons (tTup (tCons (tC (.str (Str.ofString "NoPlace"))) (tCons (tCB (rIsN K cls d a) (tCons (tVar 5) (tCons (tC (.ref (He.ga K "NoPlace"))) tNil))) tNil))) tNil))) (gName 6))
  (tSeq (tAsg (tOp rCat (tVar 6) (tLst (tCons (tTup (tCons (tC (.str (Str.ofString "NotNow"))) (tCons (tCB (rIsN K cls d a) (tCons (tVar 5) (tCons (tC (.ref (He.ga K "NotNow"))) tNil))) tNil))) tNil))) (gName 6))
  (tSeq (tAsg (tOp rCat (tVar 6) (tLst (tCons (tTup (tCons (tC (.str (Str.ofString "NoStands"))) (tCons (tCB (rIsN K cls d a) (tCons (tVar 5) (tCons (tC (.ref (He.ga K "NoStands"))) tNil))) tNil))) (tCons (tTup (tCons (tC (.str (Str.ofString "NoAnswers"))) (tCons (tCB (rIsN K cls d a) (tCons (tVar 5) (tCons (tC (.ref (He.ga K "NoAnswers"))) tNil))) tNil))) tNil)))) (gName 6))
  (tSeq (tAsg (tOp rCat (tVar 6) (tLst (tCons (tTup (tCons (tC (.str (Str.ofString "NoStretch"))) (tCons (tCB (rIsN K cls d a) (tCons (tVar 5) (tCons (tC (.ref (He.ga K "NoStretch"))) tNil))) tNil))) (tCons (tTup (tCons (tC (.str (Str.ofString "NoAnswer"))) (tCons (tCB (rIsN K cls d a) (tCons (tVar 5) (tCons (tC (.ref (He.ga K "NoAnswer"))) tNil))) tNil))) tNil)))) (gName 6))
  (tSeq (tAsg (tOp rCat (tVar 6) (tLst (tCons (tTup (tCons (tC (.str (Str.ofString "Never"))) (tCons (tCB (rIsN K cls d a) (tCons (tVar 5) (tCons (tC (.ref (He.ga K "Never"))) tNil))) tNil))) (tCons (tTup (tCons (tC (.str (Str.ofString "NothingLeft"))) (tCons (tCB (rIsN K cls d a) (tCons (tVar 5) (tCons (tC (.ref (He.ga K "NothingLeft"))) tNil))) tNil))) tNil)))) (gName 6))
  (tAsg (tOp rCat (tLc (iList K (tVar 6)) (gTup K 2 (gCons (gName 7) (gCons (gName 8) gNil))) (tB (tVar 8)) (tVar 7) [7, 8]) (tLst (tCons (tCB (rIsN K cls d a) (tCons (tVar 5) (tCons (tC (.ty "ValueError")) tNil))) tNil))) (gName 4)))))))))]) D σ H)
  (tRet (tVar 4))))
theorem pure__law_refused {K : PySem.W.Frag} {P : Program} {w : World} {mg : Str → Option Value} {base : Heap} (F : ExF K) (ET : ExT K) {vs : List V} {H : Hp} {Q : VK} {E : XK} (h : sp__law_refused K P w mg base vs H Q E) : t__law_refused K P w mg base { nx := fun _ H' => Q .non H', rt := Q } (start N__law_refused vs) H := by
  obtain ⟨f, v1, v2, v3, sp, rfl, hF, hcb, h⟩ := h
  refine ⟨by show 0 ≤ sizeLine; decide, fun p np => ?_⟩
  refine ⟨f, sp, rfl, hF, ?_⟩
  have key : ∀ {Q' : VK} {E' : XK}, (∀ v H', Q (.ref p) H' → Q' v H') → (∀ cls d H', EndR K Q cls d H' ∨ EndT K Q cls d H' → E' cls d H') → sp [v1, v2, v3] (upd H p (.lst [])) Q' E' := fun {Q' E'} a b => h p Q' E' np a b
  have hQ : ∀ (v : V) (H' : Hp), Q (.ref p) H' → tVar 4 [some (.ref f), some v1, some v2, some v3, some (.ref p), none, none, none, none] H' Q := fun _ H' q => ⟨_, rfl, q⟩
  have hcb1 : PySem.W.keepIn K (.ref f) = true ∨ ∃ F e, (upd H p (.lst [])) f = some (LamO f F e) := by
    rcases hcb with hk | ⟨F', e', hf⟩
    · exact .inl hk
    · exact .inr ⟨F', e', (Ex.new np) _ _ hf⟩
  rcases hcb1 with hk | ⟨F', e', hf⟩
  · refine .inl ⟨hk, _, rfl, _, rfl, _, rfl, key hQ ?_⟩
    rintro cls d H1 (⟨nm, hn, rfl, rfl, q⟩ | ⟨rfl, dd, rfl, hdd, q⟩)
    rotate_left
    · refine ⟨true, ET.tl, fun _ a na => ?_, fun z => (by cases z)⟩
      refine ⟨_, rfl, rfl, rfl, dd, _, .int 16, rfl, hdd, rfl, _, rfl, rfl, _, dd, _, rfl, rfl, hdd, ET.ec, ET.ve, by show 3 ≤ sizeLine; decide, fun R nR => ⟨_, rfl, ?_⟩⟩
      exact q R _ nR (Ex.new nR) upd_same
    refine ⟨false, F.tl nm hn, fun z => (by cases z), fun _ => ⟨true, F.se nm hn, fun _ a na => ?_, fun z => (by cases z)⟩⟩
    dsimp only [tSeq, tAsg, gName]
    refine lst2_step F hn (y := "NoLength") (z := "NoPlace") (by decide) (by decide) rfl fun L1 us1 H2 e2 m1 g1 f1 => ?_
    refine cat_step (zs := ["NotNow"]) rfl g1 f1 (by decide) (fun Q2 q2 => lst1_step F hn (y := "NotNow") (by decide) rfl q2) fun L2 us2 H3 e3 g2 f2 => ?_
    refine cat_step (zs := ["NoStands", "NoAnswers"]) rfl g2 f2 (by decide) (fun Q2 q2 => lst2_step F hn (y := "NoStands") (z := "NoAnswers") (by decide) (by decide) rfl q2) fun L3 us3 H4 e4 g3 f3 => ?_
    refine cat_step (zs := ["NoStretch", "NoAnswer"]) rfl g3 f3 (by decide) (fun Q2 q2 => lst2_step F hn (y := "NoStretch") (z := "NoAnswer") (by decide) (by decide) rfl q2) fun L4 us4 H5 e5 g4 f4 => ?_
    refine cat_step (zs := ["Never", "NothingLeft"]) rfl g4 f4 (by decide) (fun Q2 q2 => lst2_step F hn (y := "Never") (z := "NothingLeft") (by decide) (by decide) rfl q2) fun L5 us5 H6 e6 g5 f5 => ?_
    have e16 : Ex H1 H6 := (((e2.trans e3).trans e4).trans e5).trans e6
    exact pick_step F hn e16 g5 f5 q
  · refine .inr ⟨F', e', hf, _, rfl, _, rfl, _, rfl, hf, key hQ ?_⟩
    rintro cls d H1 (⟨nm, hn, rfl, rfl, q⟩ | ⟨rfl, dd, rfl, hdd, q⟩)
    rotate_left
    · refine ⟨true, ET.tl, fun _ a na => ?_, fun z => (by cases z)⟩
      refine ⟨_, rfl, rfl, rfl, dd, _, .int 16, rfl, hdd, rfl, _, rfl, rfl, _, dd, _, rfl, rfl, hdd, ET.ec, ET.ve, by show 3 ≤ sizeLine; decide, fun R nR => ⟨_, rfl, ?_⟩⟩
      exact q R _ nR (Ex.new nR) upd_same
    refine ⟨false, F.tl nm hn, fun z => (by cases z), fun _ => ⟨true, F.se nm hn, fun _ a na => ?_, fun z => (by cases z)⟩⟩
    dsimp only [tSeq, tAsg, gName]
    refine lst2_step F hn (y := "NoLength") (z := "NoPlace") (by decide) (by decide) rfl fun L1 us1 H2 e2 m1 g1 f1 => ?_
    refine cat_step (zs := ["NotNow"]) rfl g1 f1 (by decide) (fun Q2 q2 => lst1_step F hn (y := "NotNow") (by decide) rfl q2) fun L2 us2 H3 e3 g2 f2 => ?_
    refine cat_step (zs := ["NoStands", "NoAnswers"]) rfl g2 f2 (by decide) (fun Q2 q2 => lst2_step F hn (y := "NoStands") (z := "NoAnswers") (by decide) (by decide) rfl q2) fun L3 us3 H4 e4 g3 f3 => ?_
    refine cat_step (zs := ["NoStretch", "NoAnswer"]) rfl g3 f3 (by decide) (fun Q2 q2 => lst2_step F hn (y := "NoStretch") (z := "NoAnswer") (by decide) (by decide) rfl q2) fun L4 us4 H5 e5 g4 f4 => ?_
    refine cat_step (zs := ["Never", "NothingLeft"]) rfl g4 f4 (by decide) (fun Q2 q2 => lst2_step F hn (y := "Never") (z := "NothingLeft") (by decide) (by decide) rfl q2) fun L5 us5 H6 e6 g5 f5 => ?_
    have e16 : Ex H1 H6 := (((e2.trans e3).trans e4).trans e5).trans e6
    exact pick_step F hn e16 g5 f5 q
theorem len__law_refused {K : PySem.W.Frag} {P : Program} {w : World} {mg : Str → Option Value} {base : Heap} {vs : List V} {H : Hp} {Q : VK} {E : XK} (h : sp__law_refused K P w mg base vs H Q E) : vs.length = 4 := by
  obtain ⟨f, v1, v2, v3, sp, rfl, _⟩ := h
  rfl
/-- refused by this name -/
theorem rf_by {K : PySem.W.Frag} {P : Program} {w : World} {mg : Str → Option Value} {base : Heap} {H : Hp} {Q : VK} {E : XK} {f : Addr} {v1 v2 v3 : V} {sp : Sp} {nm : Str} (hn : nm ∈ rfN) (F : FnR P w K mg base (L2N.CX P w) 100 f sp) (kp : PySem.W.keepIn K (.ref f) = true)
    (h : ∀ p Q' E', H p = none → (∀ H', Ex (upd H p (.lst [])) H' → E' (.ref (He.ga K nm)) none H') → sp [v1, v2, v3] (upd H p (.lst [])) Q' E') (q : ∀ kin H', Ex H H' → H' kin = some (.lst [.str nm, .bl true]) → Q (.ref kin) H') : sp__law_refused K P w mg base [.ref f, v1, v2, v3] H Q E :=
  ⟨f, v1, v2, v3, sp, rfl, F, .inl kp, fun p Q' E' np _ he => h p Q' E' np fun H' e' => he _ _ _ (.inl ⟨nm, hn, rfl, rfl, fun kq H2 nk e2 hk => q kq H2 (((Ex.new np).trans e').trans e2) hk⟩)⟩
/-! ### more of wrong answers -/
theorem diffs_zero : ∀ {xs ys : List Wo}, xs.length = ys.length → (diffs xs ys = 0 ↔ xs = ys)
  | [], [], _ => ⟨fun _ => rfl, fun _ => rfl⟩
  | [], _ :: _, h => by cases h
  | _ :: _, [], h => by cases h
  | x :: xs, y :: ys, h => by
    have h' : xs.length = ys.length := Nat.succ.inj h
    have ih := diffs_zero h'
    unfold diffs at ih ⊢
    rw [List.zip_cons_cons, List.filter_cons]
    by_cases e : x = y
    · subst e
      simp at ih ⊢
      exact ih
    · simp [e]
theorem wr_zero {st : List Int} {ws : List Wo} (h : ws.length = st.length - 1) (t : Int) : wr st ws t = 0 ↔ wordsOf t st = ws := by
  unfold wr
  have := diffs_zero (xs := wordsOf t st) (ys := ws) (by rw [wordsOf_len, h])
  constructor
  · intro z
    exact this.mp (by omega)
  · intro z
    have := this.mpr z
    omega
theorem wr_nonneg (st : List Int) (ws : List Wo) (t : Int) : 0 ≤ wr st ws t := by
  unfold wr
  omega
theorem Least.nonneg {l : Int} {st : List Int} {ws : List Wo} {m : Int} (h : Least l st ws m) : 0 ≤ m := by
  obtain ⟨⟨t, _, rfl⟩, _⟩ := h
  exact wr_nonneg st ws t
theorem mem_wplaces {l t m : Int} {st : List Int} {ws : List Wo} : t ∈ wplaces l st ws m ↔ (1 ≤ t ∧ t ≤ l) ∧ wr st ws t = m := by
  unfold wplaces
  rw [List.mem_filter, mem_rng, decide_eq_true_iff]
  constructor
  · rintro ⟨⟨h1, h2⟩, h3⟩
    exact ⟨⟨h1, by omega⟩, h3⟩
  · rintro ⟨⟨h1, h2⟩, h3⟩
    exact ⟨⟨h1, by omega⟩, h3⟩
theorem wplaces_len (l : Int) (st : List Int) (ws : List Wo) (m : Int) : (wplaces l st ws m).length ≤ l.toNat := by
  unfold wplaces
  refine Nat.le_trans (List.length_filter_le _ _) ?_
  rw [rng_len]
  omega
theorem lies_wplaces {l : Int} {st : List Int} {ws : List Wo} (h : ws.length = st.length - 1) : lies l st ws = wplaces l st ws 0 := by
  unfold lies wplaces
  exact List.filter_congr fun t _ => decide_eq_decide.mpr (wr_zero h t).symm
theorem Least.zero {l : Int} {st : List Int} {ws : List Wo} {m : Int} (h : Least l st ws m) (hw : ws.length = st.length - 1) : m = 0 ↔ lies l st ws ≠ [] := by
  constructor
  · rintro rfl e
    obtain ⟨⟨t, ht, hz⟩, _⟩ := h
    have : t ∈ lies l st ws := mem_lies.mpr ⟨ht, (wr_zero hw t).mp hz⟩
    rw [e] at this
    cases this
  · intro e
    obtain ⟨t, ht⟩ := List.exists_mem_of_ne_nil _ e
    obtain ⟨⟨h1, h2⟩, h3⟩ := mem_lies.mp ht
    have := h.2 t h1 h2
    have z := (wr_zero hw t).mpr h3
    have := h.nonneg
    omega
theorem Least.some {l : Int} {st : List Int} {ws : List Wo} {m : Int} (h : Least l st ws m) : wplaces l st ws m ≠ [] := fun e => by
  obtain ⟨⟨t, ht, hz⟩, _⟩ := h
  have : t ∈ wplaces l st ws m := mem_wplaces.mpr ⟨ht, hz⟩
  rw [e] at this
  cases this
theorem diffs_append : ∀ {xs ys us vs : List Wo}, xs.length = ys.length → diffs (xs ++ us) (ys ++ vs) = diffs xs ys + diffs us vs := by
  intro xs ys us vs h
  unfold diffs
  rw [List.zip_append h, List.filter_append, List.length_append]
theorem diffs_one (x y : Wo) : diffs [x] [y] = if x = y then 0 else 1 := by
  cases x <;> cases y <;> rfl
theorem wordsOf_more (t x : Int) {st : List Int} (h : st ≠ []) : ∃ w, wordsOf t (st ++ [x]) = wordsOf t st ++ [w] := by
  obtain ⟨ys, y, rfl⟩ : ∃ ys y, st = ys ++ [y] := ⟨st.dropLast, st.getLast h, (List.dropLast_concat_getLast h).symm⟩
  rw [List.append_assoc]
  exact ⟨mv t y x, wordsOf_snoc t ys y x⟩
theorem wr_more {st : List Int} {ws : List Wo} (hne : st ≠ []) (hw : ws.length = st.length - 1) (x : Int) (w : Wo) (t : Int) : wr st ws t ≤ wr (st ++ [x]) (ws ++ [w]) t ∧ wr (st ++ [x]) (ws ++ [w]) t ≤ wr st ws t + 1 := by
  obtain ⟨u, hu⟩ := wordsOf_more t x hne
  unfold wr
  rw [hu, diffs_append (by rw [wordsOf_len, hw]), diffs_one]
  split <;> omega
theorem Least.more {l : Int} {st : List Int} {ws : List Wo} {m m' x : Int} {w : Wo} (h : Least l st ws m) (hne : st ≠ []) (hw : ws.length = st.length - 1) (h' : Least l (st ++ [x]) (ws ++ [w]) m') : m ≤ m' ∧ m' ≤ m + 1 := by
  obtain ⟨⟨t, ⟨a1, a2⟩, a3⟩, a4⟩ := h
  obtain ⟨⟨u, ⟨b1, b2⟩, b3⟩, b4⟩ := h'
  have c1 := wr_more hne hw x w t
  have c2 := wr_more hne hw x w u
  have c3 := a4 u b1 b2
  have c4 := b4 t a1 a2
  omega
theorem wr_mirror (c : Int) (st : List Int) (ws : List Wo) (t : Int) : wr (st.map fun p => c - p) ws (c - t) = wr st ws t := by
  unfold wr
  rw [wordsOf_mirror]
theorem Least.mirror {l : Int} {st : List Int} {ws : List Wo} {m : Int} (h : Least l st ws m) : Least l (st.map fun p => l + 1 - p) ws m := by
  obtain ⟨⟨t, ⟨a1, a2⟩, a3⟩, a4⟩ := h
  refine ⟨⟨l + 1 - t, ⟨by omega, by omega⟩, by rw [wr_mirror]; exact a3⟩, fun u h1 h2 => ?_⟩
  have := wr_mirror (l + 1) st ws (l + 1 - u)
  rw [show l + 1 - (l + 1 - u) = u by omega] at this
  rw [this]
  exact a4 _ (by omega) (by omega)
theorem wplaces_mirror (l : Int) (st : List Int) (ws : List Wo) (m : Int) : wplaces l (st.map fun p => l + 1 - p) ws m = ((wplaces l st ws m).reverse).map fun x => l + 1 - x := by
  have e : rng 1 (l + 1) = ((rng 1 (l + 1)).reverse).map fun x => l + 1 - x := by
    rw [rng_mirror _ 1 (l + 1) (l + 1) rfl]
    congr 1 <;> omega
  unfold wplaces
  rw [← List.filter_reverse]
  conv => lhs; rw [e]
  rw [List.filter_map]
  congr 1
  refine List.filter_congr fun t _ => ?_
  show decide (wr (st.map fun p => l + 1 - p) ws (l + 1 - t) = m) = decide (wr st ws t = m)
  rw [wr_mirror]
theorem diffs_step (xs ys : List Wo) (i : Nat) (x y : Wo) (hx : xs[i]? = some x) (hy : ys[i]? = some y) : diffs (xs.take (i + 1)) (ys.take (i + 1)) = diffs (xs.take i) (ys.take i) + if x = y then 0 else 1 := by
  rw [List.take_add_one, List.take_add_one, hx, hy]
  have h1 := (List.getElem?_eq_some_iff.mp hx).1
  have h2 := (List.getElem?_eq_some_iff.mp hy).1
  rw [diffs_append (by rw [List.length_take, List.length_take]; omega)]
  show _ + diffs [x] [y] = _
  rw [diffs_one]
theorem Kp.back {bs : List Addr} {H H' : Hp} {p : Addr} (k : Kp bs H H') (B : Bags bs H') (n : H' p = none) : H p = none := by
  cases h : H p with
  | none => rfl
  | some o =>
    have := k p o (B.fresh n) h
    rw [n] at this
    cases this
theorem sl_take {K : PySem.W.Frag} {H : Hp} {v : Addr} {xs : List V} {k : Nat} {Q : VK} (hv : H v = some (.tup xs)) (q : ∀ p H', Ex H H' → H' p = some (.tup (xs.take k)) → Q (.ref p) H') : rSlA K (.ref v) none (some (k : Int)) H Q := by
  refine ⟨v, xs, rfl, SqT.of hv, fun h => ?_, fun _ p np => ?_⟩
  · refine q v H (Ex.refl H) ?_
    have h2 := h.2
    have e1 : HT.sIx xs.length xs.length (some (k : Int)) = min k xs.length := HT.sIx_nat xs.length xs.length k
    rw [e1] at h2
    rw [List.take_of_length_le (by omega)]
    exact hv
  · refine q p _ (Ex.new np) ?_
    rw [upd_same, cut_to]
theorem notInI {K : PySem.W.Frag} {H : Hp} {t : Int} {p : Addr} {ns : List Int} {Q : VK} (h : SqL K H p (ns.map V.int) ∨ SqT K H p (ns.map V.int)) (q : Q (.bl (!decide (t ∈ ns))) H) : rIn K true (.int t) (.ref p) H Q :=
  ⟨p, _, rfl, h, rfl, flat_ints _, by rw [if_pos rfl, in_ints]; exact q⟩
theorem places_mirror {l : Int} {st : List Int} (h : Places l st) : Places l (st.map fun p => l + 1 - p) := fun n hn => by
  obtain ⟨p, hp, rfl⟩ := List.mem_map.mp hn
  have := h p hp
  omega
theorem word_at {c : Int} (h0 : 0 ≤ c) (h1 : c < 3) : ∃ u : Wo, atI ([Wo.warm, .cold, .same].map vW) c = some (vW u) := by
  have hc : c = 0 ∨ c = 1 ∨ c = 2 := by omega
  rcases hc with rfl | rfl | rfl
  · exact ⟨.warm, rfl⟩
  · exact ⟨.cold, rfl⟩
  · exact ⟨.same, rfl⟩
theorem Bags.mutL {bs : List Addr} {H : Hp} {p : Addr} {xs ys : List V} (h : Bags bs H) (n1 : p ∉ bs) (hp : H p = some (.lst xs)) (hl : xs.length ≠ 400) : Bags bs (upd H p (.lst ys)) :=
  h.mut n1 fun d ds hd hdl e => by
    subst e
    rw [hp] at hd
    have e2 := congrArg List.length (HO.lst.inj (Option.some.inj hd))
    rw [List.length_map, hdl] at e2
    exact hl e2
/-! ### what was done, in order -/
section
open LamX
inductive Ch : List Stt → Prop
  | base : Ch [([], [])]
  | step {s t : Stt} {r : List Stt} : s.1 ≠ [] → prevS s = t → Ch (t :: r) → Ch (s :: t :: r)
theorem Ch.one {s t : Stt} {r : List Stt} (h : Ch (s :: t :: r)) : s.1 ≠ [] ∧ prevS s = t ∧ Ch (t :: r) := by
  cases h with
  | step a b c => exact ⟨a, b, c⟩
theorem Ch.low {s : Stt} (h : Ch [s]) : s = ([], []) := by
  cases h
  rfl
theorem step_rf {L : Int} {s : Stt} {D : Deed} {nm : Str} (h : stepD L s D = .inl nm) : nm ∈ rfN := by
  cases D with
  | stand y =>
    simp only [stepD] at h
    split at h
    · cases h
      decide
    · split at h
      · cases h
        decide
      · cases h
  | answer o =>
    cases o with
    | none =>
      cases h
      decide
    | some w =>
      simp only [stepD] at h
      split at h
      · cases h
        decide
      · split at h
        · cases h
          decide
        · cases h
  | back y =>
    simp only [stepD] at h
    split at h
    · cases h
      decide
    · cases h
theorem prev_step {L : Int} {s s' : Stt} {D : Deed} (v : Val L s) (hb : ∀ y, D ≠ .back y) (h : stepD L s D = .inr s') : s'.1 ≠ [] ∧ prevS s' = s ∧ s'.1.length ≤ s.1.length + 1 := by
  cases D with
  | back y => exact absurd rfl (hb y)
  | stand y =>
    simp only [stepD] at h
    split at h
    · cases h
    · split at h
      · cases h
      · rename_i h1 h2
        cases h
        have hw : ¬ s.2.length + 1 < s.1.length := fun z => h2 (decide_eq_true z)
        refine ⟨fun z => (by simp at z), ?_, by rw [List.length_append]; exact Nat.le_refl _⟩
        have hc : waitsB (s.1 ++ [intOf y], s.2) = true ∨ (s.1 ++ [intOf y]).length = 1 := by
          rcases v.sh with ⟨z1, z2⟩ | z | z
          · exact .inr (by rw [z1]; rfl)
          · exact .inl (decide_eq_true (by show s.2.length + 1 < (s.1 ++ [intOf y]).length; rw [List.length_append]; show _ < s.1.length + 1; omega))
          · omega
        unfold prevS
        rw [if_pos hc]
        show ((s.1 ++ [intOf y]).dropLast, s.2) = s
        rw [List.dropLast_concat]
  | answer o =>
    cases o with
    | none => cases h
    | some w =>
      simp only [stepD] at h
      split at h
      · cases h
      · split at h
        · cases h
        · rename_i h1 h2
          cases h
          have hw : s.2.length + 1 < s.1.length := of_decide_eq_true (Bool.eq_false_or_eq_true _ |>.resolve_right h1)
          refine ⟨fun z => (by rw [show s.1 = [] from z] at hw; simp at hw), ?_, Nat.le_succ _⟩
          have hc : ¬ (waitsB (s.1, s.2 ++ [w]) = true ∨ s.1.length = 1) := by
            rcases v.sh with ⟨z1, z2⟩ | z | z
            · rw [z1] at hw
              simp at hw
            · omega
            · rintro (z' | z')
              · have := of_decide_eq_true z'
                rw [List.length_append] at this
                have h1 : ([w] : List Wo).length = 1 := rfl
                dsimp only at this
                omega
              · omega
          unfold prevS
          rw [if_neg hc]
          show (s.1, (s.2 ++ [w]).dropLast) = s
          rw [List.dropLast_concat]
theorem prev_len (s : Stt) : (prevS s).1.length ≤ s.1.length := by
  unfold prevS
  split
  · show s.1.dropLast.length ≤ _
    rw [List.length_dropLast]
    omega
  · exact Nat.le_refl _
/-! ### what stays -/
def KN (cs : List Addr) (H H' : Hp) : Prop := ∀ a o, a ∉ cs → H a = some o → (∀ ps, o ≠ .tbl ps) → H' a = some o
theorem KN.ex {H H' : Hp} (e : Ex H H') : KN [] H H' := fun a o _ h _ => e a o h
theorem KN.kp {cs : List Addr} {H H' : Hp} (k : Kp cs H H') : KN cs H H' := fun a o n h _ => k a o n h
theorem KN.tab {H H' : Hp} (e : ExtN H H') : KN [] H H' := fun a o _ h n => e a o h n
theorem tabs_kp {T : List (Addr × Str)} {cs : List Addr} {H H' : Hp} (t : Tabs T H) (k : Kp cs H H') (hc : ∀ a ∈ cs, ∃ xs, H a = some (.lst xs)) : Tabs T H' := fun p hp => by
  obtain ⟨ps, h1, h2, h3⟩ := t p hp
  refine ⟨ps, k _ _ (fun z => ?_) h1, h2, fun pos cv e => ?_⟩
  · obtain ⟨xs, hx⟩ := hc _ z
    rw [h1] at hx
    cases hx
  · obtain ⟨c, e1, e2⟩ := h3 pos cv e
    refine ⟨c, e1, k _ _ (fun z => ?_) e2⟩
    obtain ⟨xs, hx⟩ := hc _ z
    rw [e2] at hx
    unfold CodeO at hx
    cases hx
theorem bags_kp {bs cs : List Addr} {H H' : Hp} (B : Bags bs H) (k : KN cs H H') (hc : ∀ a ∈ cs, a ∉ bs ∧ ∃ xs, H a = some (.lst xs) ∧ xs.length ≠ 400) : Bags bs H' := fun b hb => by
  obtain ⟨d, c, ds, h1, h2, h3⟩ := B b hb
  refine ⟨d, c, ds, k _ _ (fun z => (hc _ z).1 hb) h1 (fun _ z => by cases z), k _ _ (fun z => ?_) h2 (fun _ z => by cases z), h3⟩
  obtain ⟨_, xs, hx, hl⟩ := hc _ z
  rw [h2] at hx
  have := HO.lst.inj (Option.some.inj hx)
  rw [← this, List.length_map] at hl
  exact hl h3
theorem bag_not {bs : List Addr} {H : Hp} (B : Bags bs H) {a : Addr} {xs : List V} (ha : H a = some (.lst xs)) (hx : ∀ d c, xs ≠ [.ref d, .int c]) : a ∉ bs := fun z => by
  obtain ⟨d, c, ds, h1, _⟩ := B a z
  rw [ha] at h1
  exact hx d c (HO.lst.inj (Option.some.inj h1))
theorem bag_lst {bs : List Addr} {H : Hp} (B : Bags bs H) : ∀ a ∈ bs, ∃ xs, H a = some (.lst xs) := fun a ha => by
  obtain ⟨d, c, ds, h1, _⟩ := B a ha
  exact ⟨_, h1⟩
theorem ints_no (ns : List Int) (d : Addr) (c : Int) : ns.map V.int ≠ [.ref d, .int c] := fun z => by
  match ns with
  | [] => cases z
  | a :: r => cases (List.cons.inj z).1
theorem words_no (ws : List Wo) (d : Addr) (c : Int) : ws.map vW ≠ [.ref d, .int c] := fun z => by
  match ws with
  | [] => cases z
  | a :: r => cases (List.cons.inj z).1
theorem refs_no (us : List Addr) (d : Addr) (c : Int) : us.map V.ref ≠ [.ref d, .int c] := fun z => by
  match us with
  | [] => cases z
  | [a] => cases (List.cons.inj z).2
  | a :: b :: r => cases (List.cons.inj (List.cons.inj z).2).1
/-! ### a search at its addresses -/
structure At where
  x : Addr
  dx : Addr
  S : Addr
  W : Addr
  F : Addr
def At.m (p : At) : List Addr := [p.S, p.W, p.F]
def SrA (K : PySem.W.Frag) (H : Hp) (l : Int) (p : At) (s : Stt) : Prop := ∃ us, Sr (SC K) H p.x p.dx p.S p.W p.F l s.1 s.2 us (pref l s)
theorem SrA.kn {K : PySem.W.Frag} {cs : List Addr} {H H' : Hp} {l : Int} {p : At} {s : Stt} (r : SrA K H l p s) (k : KN cs H H') (n : ∀ a ∈ p.m, a ∉ cs) (hc : ∀ a ∈ cs, ∃ xs, H a = some (.lst xs)) : SrA K H' l p s := by
  obtain ⟨us, r⟩ := r
  refine ⟨us, ⟨k _ _ (fun z => ?_) r.ins (fun _ z => by cases z), k _ _ (n _ List.mem_cons_self) r.hS (fun _ z => by cases z), k _ _ (n _ (List.mem_cons_of_mem _ List.mem_cons_self)) r.hW (fun _ z => by cases z), k _ _ (n _ (List.mem_cons_of_mem _ (List.mem_cons_of_mem _ List.mem_cons_self))) r.hF (fun _ z => by cases z), r.hT.imp fun a xs h => k _ _ (fun z => ?_) h (fun _ z => by cases z), r.nSW, r.nSF, r.nWF⟩⟩
  · obtain ⟨xs, hx⟩ := hc _ z
    rw [r.ins] at hx
    cases hx
  · obtain ⟨ys, hx⟩ := hc _ z
    rw [h] at hx
    cases hx
theorem SrA.lists {K : PySem.W.Frag} {bs : List Addr} {H : Hp} {l : Int} {p : At} {s : Stt} (r : SrA K H l p s) (v : Val l s) (hl : s.1.length ≤ 100) (B : Bags bs H) : ∀ a ∈ p.m, a ∉ bs ∧ ∃ xs, H a = some (.lst xs) ∧ xs.length ≠ 400 := fun a ha => by
  obtain ⟨us, r⟩ := r
  have hwl : s.2.length ≤ 100 := by
    rcases v.sh with ⟨_, z⟩ | z | z
    · rw [z]
      exact Nat.zero_le _
    · omega
    · omega
  have hul := r.hT.len
  rw [pref_len] at hul
  rcases List.mem_cons.mp ha with rfl | ha
  · exact ⟨bag_not B r.hS (ints_no _), _, r.hS, by rw [List.length_map]; omega⟩
  rcases List.mem_cons.mp ha with rfl | ha
  · exact ⟨bag_not B r.hW (words_no _), _, r.hW, by rw [List.length_map]; omega⟩
  rw [List.mem_singleton.mp ha]
  exact ⟨bag_not B r.hF (refs_no _), _, r.hF, by rw [List.length_map]; omega⟩
/-- states at these places, the last one first -/
inductive AtSts (bad : List Addr) (H : Hp) : List Addr → List Stt → Prop
  | nil : AtSts bad H [] []
  | cons {q A B : Addr} {s : Stt} {qs : List Addr} {hs : List Stt} : H q = some (.tup [.ref A, .ref B]) → H A = some (.lst (s.1.map V.int)) → H B = some (.lst (s.2.map vW)) → A ∉ bad → B ∉ bad → AtSts bad H qs hs → AtSts bad H (q :: qs) (s :: hs)
theorem AtSts.len {bad : List Addr} {H : Hp} : ∀ {qs : List Addr} {hs : List Stt}, AtSts bad H qs hs → qs.length = hs.length
  | _, _, .nil => rfl
  | _, _, .cons _ _ _ _ _ t => congrArg (· + 1) t.len
theorem AtSts.kn {bad cs : List Addr} {H H' : Hp} (k : KN cs H H') (hc : ∀ a ∈ cs, ∃ xs, H a = some (.lst xs) ∧ (a ∈ bad ∨ ∃ d c, xs = [.ref d, .int c])) : ∀ {qs : List Addr} {hs : List Stt}, AtSts bad H qs hs → AtSts bad H' qs hs
  | _, _, .nil => .nil
  | _, _, .cons h1 h2 h3 n1 n2 t => by
    refine .cons (k _ _ (fun z => ?_) h1 (fun _ z => by cases z)) (k _ _ (fun z => ?_) h2 (fun _ z => by cases z)) (k _ _ (fun z => ?_) h3 (fun _ z => by cases z)) n1 n2 (t.kn k hc)
    · obtain ⟨xs, hx, _⟩ := hc _ z
      rw [h1] at hx
      cases hx
    · obtain ⟨xs, hx, hb | ⟨d, c, e⟩⟩ := hc _ z
      · exact n1 hb
      · rw [h2] at hx
        exact ints_no _ d c ((HO.lst.inj (Option.some.inj hx)).trans e)
    · obtain ⟨xs, hx, hb | ⟨d, c, e⟩⟩ := hc _ z
      · exact n2 hb
      · rw [h3] at hx
        exact words_no _ d c ((HO.lst.inj (Option.some.inj hx)).trans e)
/-- all that lies in the heap while the searches go on -/
structure Core (K : PySem.W.Frag) (T : List (Addr × Str)) (bs : List Addr) (L0 : Addr) (l : Int) (p q : At) (sx sy : Stt) (M : Addr) (qs : List Addr) (hs : List Stt) (H : Hp) : Prop where
  bag : Bags bs H
  tb : Tabs T H
  hL : H L0 = some (.lst (bs.map V.ref))
  rx : SrA K H l p sx
  ry : SrA K H l q sy
  hM : H M = some (.lst (qs.reverse.map V.ref))
  st : AtSts (p.m ++ q.m) H qs hs
  d1 : ∀ a ∈ p.m, a ∉ q.m
  nL : L0 ∉ p.m ++ q.m
  nM : M ∉ p.m ++ q.m
variable {K : PySem.W.Frag} {T : List (Addr × Str)} {bs : List Addr} {L0 : Addr} {l : Int} {p q : At} {sx sy : Stt} {M : Addr} {qs : List Addr} {hs : List Stt} {H H' : Hp}
theorem SrA.m_lst {s : Stt} (r : SrA K H l p s) : ∀ a ∈ p.m, ∃ xs, H a = some (.lst xs) ∧ ∀ d c, xs ≠ [.ref d, .int c] := fun a ha => by
  obtain ⟨us, r⟩ := r
  rcases List.mem_cons.mp ha with rfl | ha
  · exact ⟨_, r.hS, ints_no _⟩
  rcases List.mem_cons.mp ha with rfl | ha
  · exact ⟨_, r.hW, words_no _⟩
  rw [List.mem_singleton.mp ha]
  exact ⟨_, r.hF, refs_no _⟩
theorem Core.kn {cs : List Addr} (C : Core K T bs L0 l p q sx sy M qs hs H) (k : KN cs H H') (B : Bags bs H') (t : Tabs T H') (hc : ∀ a ∈ cs, a ∈ bs) : Core K T bs L0 l p q sx sy M qs hs H' := by
  have nb : ∀ {a : Addr} {xs : List V}, H a = some (.lst xs) → (∀ d c, xs ≠ [.ref d, .int c]) → a ∉ cs := fun ha hx z => bag_not C.bag ha hx (hc _ z)
  have hcl : ∀ a ∈ cs, ∃ xs, H a = some (.lst xs) := fun a ha => bag_lst C.bag a (hc a ha)
  refine ⟨B, t, k _ _ (nb C.hL (refs_no _)) C.hL (fun _ z => by cases z), C.rx.kn k (fun a ha => ?_) hcl, C.ry.kn k (fun a ha => ?_) hcl, k _ _ (nb C.hM (refs_no _)) C.hM (fun _ z => by cases z), C.st.kn k fun a ha => ?_, C.d1, C.nL, C.nM⟩
  · obtain ⟨xs, hx, h⟩ := C.rx.m_lst a ha
    exact nb hx h
  · obtain ⟨xs, hx, h⟩ := C.ry.m_lst a ha
    exact nb hx h
  · obtain ⟨d, c, ds, h1, _⟩ := C.bag a (hc a ha)
    exact ⟨_, h1, .inr ⟨d, c, rfl⟩⟩
theorem Core.ex (C : Core K T bs L0 l p q sx sy M qs hs H) (e : Ex H H') : Core K T bs L0 l p q sx sy M qs hs H' := C.kn (KN.ex e) (C.bag.ex e) (C.tb.ext e) fun a h => by cases h
theorem Core.take (C : Core K T bs L0 l p q sx sy M qs hs H) (k : Kp bs H H') (B : Bags bs H') : Core K T bs L0 l p q sx sy M qs hs H' := C.kn (KN.kp k) B (tabs_kp C.tb k (bag_lst C.bag)) fun _ h => h
theorem Core.tab (C : Core K T bs L0 l p q sx sy M qs hs H) (e : ExtN H H') (t : Tabs T H') : Core K T bs L0 l p q sx sy M qs hs H' := C.kn (KN.tab e) (bags_kp C.bag (KN.tab e) fun a h => by cases h) t fun a h => by cases h
theorem Core.doX {s' : Stt} (C : Core K T bs L0 l p q sx sy M qs hs H) (v : Val l sx) (hl : sx.1.length ≤ 100) (k : Kp p.m H H') (r : SrA K H' l p s') : Core K T bs L0 l p q s' sy M qs hs H' := by
  have hc := C.rx.lists v hl C.bag
  have hcl : ∀ a ∈ p.m, ∃ xs, H a = some (.lst xs) := fun a ha => by
    obtain ⟨_, xs, hx, _⟩ := hc a ha
    exact ⟨xs, hx⟩
  refine ⟨bags_kp C.bag (KN.kp k) hc, tabs_kp C.tb k hcl, k _ _ (fun z => C.nL (List.mem_append_left _ z)) C.hL, r, C.ry.kn (KN.kp k) (fun a ha z => C.d1 a z ha) hcl, k _ _ (fun z => C.nM (List.mem_append_left _ z)) C.hM, C.st.kn (KN.kp k) fun a ha => ?_, C.d1, C.nL, C.nM⟩
  obtain ⟨xs, hx⟩ := hcl a ha
  exact ⟨xs, hx, .inl (List.mem_append_left _ ha)⟩
theorem Core.doY {s' : Stt} (C : Core K T bs L0 l p q sx sy M qs hs H) (v : Val l sy) (hl : sy.1.length ≤ 100) (k : Kp q.m H H') (r : SrA K H' l q s') : Core K T bs L0 l p q sx s' M qs hs H' := by
  have hc := C.ry.lists v hl C.bag
  have hcl : ∀ a ∈ q.m, ∃ xs, H a = some (.lst xs) := fun a ha => by
    obtain ⟨_, xs, hx, _⟩ := hc a ha
    exact ⟨xs, hx⟩
  refine ⟨bags_kp C.bag (KN.kp k) hc, tabs_kp C.tb k hcl, k _ _ (fun z => C.nL (List.mem_append_right _ z)) C.hL, C.rx.kn (KN.kp k) (fun a ha z => C.d1 a ha z) hcl, r, k _ _ (fun z => C.nM (List.mem_append_right _ z)) C.hM, C.st.kn (KN.kp k) fun a ha => ?_, C.d1, C.nL, C.nM⟩
  obtain ⟨xs, hx⟩ := hcl a ha
  exact ⟨xs, hx, .inl (List.mem_append_right _ ha)⟩
theorem Core.low (C : Core K T bs L0 l p q sx sy M qs hs H) : ∀ a, H a = none → a ∉ p.m ++ q.m := fun a n z => by
  rcases List.mem_append.mp z with z | z
  · obtain ⟨xs, hx, _⟩ := C.rx.m_lst a z
    rw [hx] at n
    cases n
  · obtain ⟨xs, hx, _⟩ := C.ry.m_lst a z
    rw [hx] at n
    cases n
end
open LamX in
def sp__law_short_refused (K : PySem.W.Frag) (P : Program) (w : World) (mg : Str → Option Value) (base : Heap) (T : List (Addr × Str)) : Sp := fun vs H Q _ => ∃ (l : Int) (no : V), vs = [.int l, no] ∧ 1 ≤ l ∧ l ≤ 60 ∧ SmA H no ∧ isPl no 60 = false ∧ Tabs T H ∧ ∀ H', ExtN H H' → Tabs T H' → Q (.bl true) H'
abbrev N__law_short_refused : List Str := ["length", "none", "door", "short", "stretch", "odd"]
def t__law_short_refused (K : PySem.W.Frag) (P : Program) (w : World) (mg : Str → Option Value) (base : Heap) (T : List (Addr × Str)) (qL : Str) (prL : Arguments) (boL : Expr) (scL : Scope) (prL1 : Arguments) (boL1 : Expr) (scL1 : Scope) : TS := (tSeq (tFor (iTup K (tTup (tCons (tC (.ref (He.ga K "stands_from"))) (tCons (tC (.ref (He.ga K "steps_from"))) tNil)))) (gName 2) (tSeq (tIfS (tTest (tOp (rNeD K) (tCall (sp__law_refused K P w mg base) [] E0 (tCons (tVar 2) (tCons (tVar 1) (tCons (tC .non) (tCons (tC .non) tNil))))) (tLst (tCons (tC (.str (Str.ofString "NoLength"))) (tCons (tC (.bl true)) tNil))))) (tRet (tC (.bl false))) tNext)
  (tSeq (tIfS (tTest (tOp (rNeD K) (tCall (sp__law_refused K P w mg base) [] E0 (tCons (tVar 2) (tCons (tC (.int 17)) (tCons (tC .non) (tCons (tC .non) tNil))))) (tLst (tCons (tC (.str (Str.ofString "TooLong"))) (tCons (tC (.int 16)) (tCons (tC (.bl true)) tNil)))))) (tRet (tC (.bl false))) tNext)
  (tSeq (tAsg (tOp (rI0 fun i j => .int (i + j)) (tC (.int 1)) (tOp (rI (fun _ j => 0 < j) fun i j => .int (i % j)) (tVar 0) (tC (.int 6)))) (gName 3))
  (tSeq (tFor (iTup K (tTup (tCons (tC .non) (tCons (tLst (tCons (tC (.int 1)) (tCons (tC (.int 1)) tNil))) (tCons (tTup (tCons (tC (.int 1)) tNil)) (tCons (tTup (tCons (tC (.int 0)) (tCons (tC (.int 1)) tNil))) (tCons (tTup (tCons (tC (.int 1)) (tCons (tOp (rI0 fun i j => .int (i + j)) (tVar 3) (tC (.int 1))) tNil))) (tCons (tTup (tCons (tC (.int 2)) (tCons (tC (.int 1)) tNil))) (tCons (tTup (tCons (tC (.bl true)) (tCons (tC (.int 1)) tNil))) (tCons (tTup (tCons (tC (.int 1)) (tCons (tC (.int 1)) (tCons (tC (.int 1)) tNil)))) (tCons (tC (.int 1)) tNil))))))))))) (gName 4) (tIfS (tTest (tOp (rNeD K) (tCall (sp__law_refused K P w mg base) [] E0 (tCons (tVar 2) (tCons (tVar 3) (tCons (tVar 4) (tCons (tC .non) tNil))))) (tLst (tCons (tC (.str (Str.ofString "NoStretch"))) (tCons (tC (.bl true)) tNil))))) (tRet (tC (.bl false))) tNext))
  (tSeq (tFor (iTup K (tTup (tCons (tC (.int 0)) (tCons (tOp (rI0 fun i j => .int (i + j)) (tVar 3) (tC (.int 1))) (tCons (tC (.bl true)) (tCons (tC .non) (tCons (tC (.str (Str.ofString "1"))) tNil))))))) (gName 5) (tIfS (tTest (tOp (rNeD K) (tCall (sp__law_refused K P w mg base) [] E0 (tCons (tVar 2) (tCons (tVar 3) (tCons (tTup (tCons (tC (.int 1)) (tCons (tVar 3) tNil))) (tCons (tVar 5) tNil))))) (tLst (tCons (tC (.str (Str.ofString "NoPlace"))) (tCons (tC (.bl true)) tNil))))) (tRet (tC (.bl false))) tNext))
  (tIfS (tTest (tOp (rNeD K) (tCall (sp__law_refused K P w mg base) [] E0 (tCons (tVar 2) (tCons (tVar 3) (tCons (tTup (tCons (tC (.int 1)) (tCons (tVar 3) tNil))) (tCons (tVar 3) tNil))))) (tLst tNil))) (tRet (tC (.bl false))) tNext)))))))
  (tSeq (tIfS (tTest (tOp (rNeD K) (tCall (sp__law_refused K P w mg base) [] E0 (tCons (tLamb T qL prL boL scL) (tCons (tC (.int 60)) (tCons (tC (.int 0)) (tCons (tC (.int 0)) tNil))))) (tLst (tCons (tC (.str (Str.ofString "TooLong"))) (tCons (tC (.int 16)) (tCons (tC (.bl true)) tNil)))))) (tRet (tC (.bl false))) tNext)
  (tRet (tOp (rEqD K) (tCall (sp__law_refused K P w mg base) [] E0 (tCons (tLamb T qL prL1 boL1 scL1) (tCons (tVar 1) (tCons (tC (.int 0)) (tCons (tC (.int 0)) tNil))))) (tLst (tCons (tC (.str (Str.ofString "NoLength"))) (tCons (tC (.bl true)) tNil)))))))
section
open LamX
theorem SmA.xn {H H' : Hp} {v : V} (h : SmA H v) (e : ExtN H H') : SmA H' v := by
  cases h with
  | sm z => exact .sm z
  | tup z => exact .tup (e _ _ z (fun _ y => by cases y))
  | lst z => exact .lst (e _ _ z (fun _ y => by cases y))
theorem BadSt.xn {H H' : Hp} {v : V} {l : Int} (h : BadSt H v l) (e : ExtN H H') : BadSt H' v l := by
  rcases h with (h | ⟨a, xs, rfl, h⟩) | ⟨a, xs, rfl, h, r⟩
  · exact .inl (.inl h)
  · exact .inl (.inr ⟨a, xs, rfl, e _ _ h (fun _ y => by cases y)⟩)
  · exact .inr ⟨a, xs, rfl, e _ _ h (fun _ y => by cases y), r⟩
theorem BadStr.ex {H H' : Hp} {v : V} {l : Int} (h : BadStr H v l) (e : Ex H H') : BadStr H' v l := by
  rcases h with (h | ⟨a, xs, rfl, h⟩) | ⟨a, xs, rfl, h, r⟩
  · exact .inl (.inl h)
  · exact .inl (.inr ⟨a, xs, rfl, e _ _ h⟩)
  · exact .inr ⟨a, xs, rfl, e _ _ h, r⟩
variable {K : PySem.W.Frag} {P : Program} {w : World} {mg : Str → Option Value} {base : Heap} {T : List (Addr × Str)}
/-- refused by TooLong -/
theorem rf_tl {H : Hp} {Q : VK} {E : XK} {f : Addr} {v1 v2 v3 : V} {sp : Sp} (F : FnR P w K mg base (L2N.CX P w) 100 f sp) (kp : PySem.W.keepIn K (.ref f) = true)
    (h : ∀ p Q' E', H p = none → TLE K E' (upd H p (.lst [])) → sp [v1, v2, v3] (upd H p (.lst [])) Q' E') (q : ∀ kin H', Ex H H' → H' kin = some (.lst [.str "TooLong", .int 16, .bl true]) → Q (.ref kin) H') : sp__law_refused K P w mg base [.ref f, v1, v2, v3] H Q E :=
  ⟨f, v1, v2, v3, sp, rfl, F, .inl kp, fun p Q' E' np _ he => h p Q' E' np fun d nd => he _ _ _ (.inr ⟨rfl, d, rfl, upd_same, fun kq H2 nk e2 hk => q kq H2 (((Ex.new np).trans (Ex.new nd)).trans e2) hk⟩)⟩
/-- not refused -/
theorem rf_ok {H : Hp} {Q : VK} {E : XK} {f : Addr} {v1 v2 v3 : V} {sp : Sp} (F : FnR P w K mg base (L2N.CX P w) 100 f sp) (kp : PySem.W.keepIn K (.ref f) = true)
    (h : ∀ p Q' E', H p = none → (∀ v H', Ex (upd H p (.lst [])) H' → Q' v H') → sp [v1, v2, v3] (upd H p (.lst [])) Q' E') (q : ∀ kin H', Ex H H' → H' kin = some (.lst []) → Q (.ref kin) H') : sp__law_refused K P w mg base [.ref f, v1, v2, v3] H Q E :=
  ⟨f, v1, v2, v3, sp, rfl, F, .inl kp, fun p Q' E' np hq _ => h p Q' E' np fun v H' e => hq v H' (q p H' ((Ex.new np).trans e) (e _ _ upd_same))⟩
/-- a lambda's promise -/
def LamR (P : Program) (w : World) (K : PySem.W.Frag) (mg : Str → Option Value) (base : Heap) (qL : Str) (pr : Arguments) (bo : Expr) (sc : Scope) (sp : Sp) : Prop :=
  ∀ f c', FnR P w K mg base (L2N.CX P w) 100 f (fun vs H Q E => H f = some (LamO f ⟨"<lambda>", qL, pr, [], sc, [], c'⟩ bo) ∧ H c' = some (CodeO c' qL) ∧ sp vs H Q E)
section
variable {qL : Str} {pr : Arguments} {bo : Expr} {sc : Scope} {sp : Sp} {σ : L2.St} {H : Hp} {Q : VK} {t2 t3 t4 : TE} {v2 v3 v4 : V}
theorem rf_lam {nm : Str} (hL : LamR P w K mg base qL pr bo sc sp) (hn : nm ∈ rfN) (hT : Tabs T H) (h2 : ∀ H Q', Q' v2 H → t2 σ H Q') (h3 : ∀ H Q', Q' v3 H → t3 σ H Q') (h4 : ∀ H Q', Q' v4 H → t4 σ H Q')
    (h : ∀ H3 Q' E', ExtN H H3 → (∀ H', Ex H3 H' → E' (.ref (He.ga K nm)) none H') → sp [v2, v3, v4] H3 Q' E') (q : ∀ kin H', ExtN H H' → Tabs T H' → H' kin = some (.lst [.str nm, .bl true]) → Q (.ref kin) H') :
    tCall (sp__law_refused K P w mg base) [] E0 (tCons (tLamb T qL pr bo sc) (tCons t2 (tCons t3 (tCons t4 tNil)))) σ H Q := by
  refine ⟨hT, fun f c' H1 e1 t1 nf hc ne => h2 _ _ (h3 _ _ (h4 _ _ ?_))⟩
  refine ⟨f, v2, v3, v4, _, rfl, hL f c', .inr ⟨_, _, upd_same⟩, fun p0 Q' E' np hq he => ?_⟩
  have e2 := Ex.new (o := LamO f ⟨"<lambda>", qL, pr, [], sc, [], c'⟩ bo) nf
  have e3 := Ex.new (o := .lst []) np
  refine ⟨e3 _ _ upd_same, (e2.trans e3) _ _ hc, h _ Q' E' (e1.trans (ExtN.of (e2.trans e3))) fun H' e' => ?_⟩
  exact he _ _ _ (.inl ⟨nm, hn, rfl, rfl, fun kq H4 nk e4 hk => q kq H4 (e1.trans (ExtN.of (((e2.trans e3).trans e').trans e4))) (t1.ext (((e2.trans e3).trans e').trans e4)) hk⟩)
theorem rf_lamT (hL : LamR P w K mg base qL pr bo sc sp) (hT : Tabs T H) (h2 : ∀ H Q', Q' v2 H → t2 σ H Q') (h3 : ∀ H Q', Q' v3 H → t3 σ H Q') (h4 : ∀ H Q', Q' v4 H → t4 σ H Q')
    (h : ∀ H3 Q' E', ExtN H H3 → TLE K E' H3 → sp [v2, v3, v4] H3 Q' E') (q : ∀ kin H', ExtN H H' → Tabs T H' → H' kin = some (.lst [.str "TooLong", .int 16, .bl true]) → Q (.ref kin) H') :
    tCall (sp__law_refused K P w mg base) [] E0 (tCons (tLamb T qL pr bo sc) (tCons t2 (tCons t3 (tCons t4 tNil)))) σ H Q := by
  refine ⟨hT, fun f c' H1 e1 t1 nf hc ne => h2 _ _ (h3 _ _ (h4 _ _ ?_))⟩
  refine ⟨f, v2, v3, v4, _, rfl, hL f c', .inr ⟨_, _, upd_same⟩, fun p0 Q' E' np hq he => ?_⟩
  have e2 := Ex.new (o := LamO f ⟨"<lambda>", qL, pr, [], sc, [], c'⟩ bo) nf
  have e3 := Ex.new (o := .lst []) np
  refine ⟨e3 _ _ upd_same, (e2.trans e3) _ _ hc, h _ Q' E' (e1.trans (ExtN.of (e2.trans e3))) fun d nd => ?_⟩
  have e4 := Ex.new (o := .xd [("most", .int 16)]) nd
  exact he _ _ _ (.inr ⟨rfl, d, rfl, upd_same, fun kq H4 nk e5 hk => q kq H4 (e1.trans (ExtN.of (((e2.trans e3).trans e4).trans e5))) (t1.ext (((e2.trans e3).trans e4).trans e5)) hk⟩)
end
theorem neTl {H : Hp} {a b : Addr} {Q : VK} (ha : H a = some (.lst [.str "TooLong", .int 16, .bl true])) (hb : H b = some (.lst [.str "TooLong", .int 16, .bl true])) (q : Q (.bl false) H) : rNeD K (.ref a) (.ref b) H Q := by
  have h1 : SeqAt.shaped (.list [.str "TooLong", .int 16, .bool true]) = true := by decide +kernel
  have h2 : PyData.eqv (.list [.str "TooLong", .int 16, .bool true]) (.list [.str "TooLong", .int 16, .bool true]) = true := by decide +kernel
  refine ⟨_, _, .lst (SqL.of ha) (.cons (.str _) (.cons (.int _) (.cons (.bl true) .nil))), .lst (SqL.of hb) (.cons (.str _) (.cons (.int _) (.cons (.bl true) .nil))), h1, h1, ?_⟩
  rw [h2]
  exact q
theorem vrA {i : Nat} {v : V} {σ : L2.St} (h : σ[i]? = some (some v)) : ∀ (H : Hp) (Q' : VK), Q' v H → tVar i σ H Q' := fun _ _ q => ⟨v, h, q⟩
theorem cnA {v : V} {σ : L2.St} : ∀ (H : Hp) (Q' : VK), Q' v H → tC v σ H Q' := fun _ _ q => q
theorem cl4 {sp : Sp} {E : XK} {t1 t2 t3 t4 : TE} {σ : L2.St} {H : Hp} {Q : VK} {v1 v2 v3 v4 : V} (h1 : ∀ H Q', Q' v1 H → t1 σ H Q') (h2 : ∀ H Q', Q' v2 H → t2 σ H Q') (h3 : ∀ H Q', Q' v3 H → t3 σ H Q') (h4 : ∀ H Q', Q' v4 H → t4 σ H Q') (q : sp [v1, v2, v3, v4] H Q E) : tCall sp [] E (tCons t1 (tCons t2 (tCons t3 (tCons t4 tNil)))) σ H Q :=
  h1 _ _ (h2 _ _ (h3 _ _ (h4 _ _ q)))
theorem cl4t {sp : Sp} {E : XK} {t1 t2 ta tb t4 : TE} {σ : L2.St} {H : Hp} {Q : VK} {v1 v2 a b v4 : V} (h1 : ∀ H Q', Q' v1 H → t1 σ H Q') (h2 : ∀ H Q', Q' v2 H → t2 σ H Q') (ha : ∀ H Q', Q' a H → ta σ H Q') (hb : ∀ H Q', Q' b H → tb σ H Q') (h4 : ∀ H Q', Q' v4 H → t4 σ H Q') (q : ∀ s Hs, Ex H Hs → Hs s = some (.tup [a, b]) → sp [v1, v2, .ref s, v4] Hs Q E) :
    tCall sp [] E (tCons t1 (tCons t2 (tCons (tTup (tCons ta (tCons tb tNil))) (tCons t4 tNil)))) σ H Q :=
  h1 _ _ (h2 _ _ (ha _ _ (hb _ _ ⟨by show 2 ≤ sizeLine; decide, fun s ns => h4 _ _ (q s _ (Ex.new ns) upd_same)⟩)))
theorem two_l (nm : Str) (σ : L2.St) (H1 : Hp) (Q' : VK) (q' : ∀ m, H1 m = none → Q' (.ref m) (upd H1 m (.lst [.str nm, .bl true]))) : tLst (tCons (tC (.str nm)) (tCons (tC (.bl true)) tNil)) σ H1 Q' := ⟨by show 2 ≤ sizeLine; decide, q'⟩
theorem three_l (σ : L2.St) (H1 : Hp) (Q' : VK) (q' : ∀ m, H1 m = none → Q' (.ref m) (upd H1 m (.lst [.str "TooLong", .int 16, .bl true]))) : tLst (tCons (tC (.str "TooLong")) (tCons (tC (.int 16)) (tCons (tC (.bl true)) tNil))) σ H1 Q' := ⟨by show 3 ≤ sizeLine; decide, q'⟩
/-- the promises of the lambdas of stands_at_all -/
def spAll (K : PySem.W.Frag) : Sp := fun vs H Q E => ∃ a b c, vs = [a, b, c] ∧ sp_stands_at_all K [a] H Q E
/-- the five things that are no place -/
theorem odd_bad {l : Int} (hl : 1 ≤ l) {i : Nat} {x : V} (hx : ([.int 0, .int (l + 1), .bl true, .non, .str (Str.ofString "1")] : List V)[i]? = some x) : Sm x ∧ isPl x l = false := by
  have hm := List.mem_of_getElem? hx
  simp only [List.mem_cons, List.not_mem_nil, or_false] at hm
  rcases hm with rfl | rfl | rfl | rfl | rfl
  · exact ⟨.int _, (decide_eq_false (show ¬ ((1 : Int) ≤ 0 ∧ (0 : Int) ≤ l) by omega) : isPl (.int 0) l = false)⟩
  · exact ⟨.int _, (decide_eq_false (show ¬ ((1 : Int) ≤ l + 1 ∧ l + 1 ≤ l) by omega) : isPl (.int (l + 1)) l = false)⟩
  · exact ⟨.bl _, rfl⟩
  · exact ⟨.non, rfl⟩
  · exact ⟨.str _, rfl⟩
/-- a path's place outside -/
theorem okSt_hi {l : Int} : okSt l [.int 1, .int (l + 1)] = false := by
  show (isPl (.int 1) l && (isPl (.int (l + 1)) l && decide (intOf (.int 1) ≤ intOf (.int (l + 1))))) = false
  rw [show isPl (.int (l + 1)) l = false from (decide_eq_false (show ¬ ((1 : Int) ≤ l + 1 ∧ l + 1 ≤ l) by omega))]
  simp
theorem okSt_lo {l : Int} : okSt l [.int 0, .int 1] = false := by
  show (isPl (.int 0) l && (isPl (.int 1) l && decide (intOf (.int 0) ≤ intOf (.int 1)))) = false
  rw [show isPl (.int 0) l = false from (decide_eq_false (show ¬ ((1 : Int) ≤ 0 ∧ (0 : Int) ≤ l) by omega))]
  simp
theorem okSt_dn {l : Int} : okSt l [.int 2, .int 1] = false := by
  show (isPl (.int 2) l && (isPl (.int 1) l && decide ((2 : Int) ≤ 1))) = false
  simp
/-- the nine that are no stretch, laid -/
theorem nine_l {sh : Int} {σ : L2.St} {H : Hp} {Q : VK} (h3 : σ[3]? = some (some (.int sh))) (q : ∀ u xs H', Ex H H' → H' u = some (.tup xs) → (∀ x ∈ xs, BadStr H' x sh) → Q (.ref u) H') :
    (tTup (tCons (tC .non) (tCons (tLst (tCons (tC (.int 1)) (tCons (tC (.int 1)) tNil))) (tCons (tTup (tCons (tC (.int 1)) tNil)) (tCons (tTup (tCons (tC (.int 0)) (tCons (tC (.int 1)) tNil))) (tCons (tTup (tCons (tC (.int 1)) (tCons (tOp (rI0 fun i j => .int (i + j)) (tVar 3) (tC (.int 1))) tNil))) (tCons (tTup (tCons (tC (.int 2)) (tCons (tC (.int 1)) tNil))) (tCons (tTup (tCons (tC (.bl true)) (tCons (tC (.int 1)) tNil))) (tCons (tTup (tCons (tC (.int 1)) (tCons (tC (.int 1)) (tCons (tC (.int 1)) tNil)))) (tCons (tC (.int 1)) tNil)))))))))) σ H Q := by
  refine ⟨by show 2 ≤ sizeLine; decide, fun a1 n1 => ⟨by show 1 ≤ sizeLine; decide, fun a2 n2 => ⟨by show 2 ≤ sizeLine; decide, fun a3 n3 => ⟨_, h3, sh, 1, rfl, rfl, by show 2 ≤ sizeLine; decide, fun a4 n4 => ⟨by show 2 ≤ sizeLine; decide, fun a5 n5 => ⟨by show 2 ≤ sizeLine; decide, fun a6 n6 => ⟨by show 3 ≤ sizeLine; decide, fun a7 n7 => ⟨by show 9 ≤ sizeLine; decide, fun u nu => ?_⟩⟩⟩⟩⟩⟩⟩⟩
  have e1 := Ex.new (o := .lst [.int 1, .int 1]) n1
  have g1 : (upd H a1 (.lst [.int 1, .int 1])) a1 = some (.lst [.int 1, .int 1]) := upd_same
  generalize upd H a1 (.lst [.int 1, .int 1]) = H1 at *
  have e2 := Ex.new (o := .tup [.int 1]) n2
  have g2 : (upd H1 a2 (.tup [.int 1])) a2 = some (.tup [.int 1]) := upd_same
  generalize upd H1 a2 (.tup [.int 1]) = H2 at *
  have e3 := Ex.new (o := .tup [.int 0, .int 1]) n3
  have g3 : (upd H2 a3 (.tup [.int 0, .int 1])) a3 = some (.tup [.int 0, .int 1]) := upd_same
  generalize upd H2 a3 (.tup [.int 0, .int 1]) = H3 at *
  have e4 := Ex.new (o := .tup [.int 1, .int (sh + 1)]) n4
  have g4 : (upd H3 a4 (.tup [.int 1, .int (sh + 1)])) a4 = some (.tup [.int 1, .int (sh + 1)]) := upd_same
  generalize upd H3 a4 (.tup [.int 1, .int (sh + 1)]) = H4 at *
  have e5 := Ex.new (o := .tup [.int 2, .int 1]) n5
  have g5 : (upd H4 a5 (.tup [.int 2, .int 1])) a5 = some (.tup [.int 2, .int 1]) := upd_same
  generalize upd H4 a5 (.tup [.int 2, .int 1]) = H5 at *
  have e6 := Ex.new (o := .tup [.bl true, .int 1]) n6
  have g6 : (upd H5 a6 (.tup [.bl true, .int 1])) a6 = some (.tup [.bl true, .int 1]) := upd_same
  generalize upd H5 a6 (.tup [.bl true, .int 1]) = H6 at *
  have e7 := Ex.new (o := .tup [.int 1, .int 1, .int 1]) n7
  have g7 : (upd H6 a7 (.tup [.int 1, .int 1, .int 1])) a7 = some (.tup [.int 1, .int 1, .int 1]) := upd_same
  generalize upd H6 a7 (.tup [.int 1, .int 1, .int 1]) = H7 at *
  have e8 := Ex.new (o := .tup [.non, .ref a1, .ref a2, .ref a3, .ref a4, .ref a5, .ref a6, .ref a7, .int 1]) nu
  refine q u _ _ (((((((e1.trans e2).trans e3).trans e4).trans e5).trans e6).trans e7).trans e8) upd_same fun x hx => ?_
  have sm1 : ∀ x ∈ ([.int 1] : List V), Sm x := fun x hx => by rw [List.mem_singleton.mp hx]; exact .int _
  have smA : ∀ i j : Int, ∀ x ∈ ([.int i, .int j] : List V), Sm x := fun i j x hx => by
    simp only [List.mem_cons, List.not_mem_nil, or_false] at hx
    rcases hx with rfl | rfl <;> exact .int _
  simp only [List.mem_cons, List.not_mem_nil, or_false] at hx
  rcases hx with rfl | rfl | rfl | rfl | rfl | rfl | rfl | rfl | rfl
  · exact .inl (.inl .non)
  · exact .inl (.inr ⟨a1, _, rfl, e8 _ _ (e7 _ _ (e6 _ _ (e5 _ _ (e4 _ _ (e3 _ _ (e2 _ _ g1))))))⟩)
  · exact .inr ⟨a2, _, rfl, e8 _ _ (e7 _ _ (e6 _ _ (e5 _ _ (e4 _ _ (e3 _ _ g2))))), sm1, rfl⟩
  · exact .inr ⟨a3, _, rfl, e8 _ _ (e7 _ _ (e6 _ _ (e5 _ _ (e4 _ _ g3)))), smA 0 1, okSt_lo⟩
  · exact .inr ⟨a4, _, rfl, e8 _ _ (e7 _ _ (e6 _ _ (e5 _ _ g4))), smA 1 (sh + 1), okSt_hi⟩
  · exact .inr ⟨a5, _, rfl, e8 _ _ (e7 _ _ (e6 _ _ g5)), smA 2 1, okSt_dn⟩
  · refine .inr ⟨a6, _, rfl, e8 _ _ (e7 _ _ g6), fun x hx => ?_, rfl⟩
    simp only [List.mem_cons, List.not_mem_nil, or_false] at hx
    rcases hx with rfl | rfl
    · exact .bl _
    · exact .int _
  · refine .inr ⟨a7, _, rfl, e8 _ _ g7, fun x hx => ?_, rfl⟩
    simp only [List.mem_cons, List.not_mem_nil, or_false] at hx
    rcases hx with rfl | rfl | rfl <;> exact .int _
  · exact .inl (.inl (.int 1))
theorem pure__law_short_refused {qL : Str} {prL prL1 : Arguments} {boL boL1 : Expr} {scL scL1 : Scope} (FD : ∀ f, f = He.ga K "stands_from" ∨ f = He.ga K "steps_from" → FnR P w K mg base (L2N.CX P w) 100 f (GoSp K) ∧ PySem.W.keepIn K (.ref f) = true)
    (L0 : LamR P w K mg base qL prL boL scL (spAll K)) (L1 : LamR P w K mg base qL prL1 boL1 scL1 (spAll K)) {vs : List V} {H : Hp} {Q : VK} {E : XK} (h : sp__law_short_refused K P w mg base T vs H Q E) : t__law_short_refused K P w mg base T qL prL boL scL prL1 boL1 scL1 { nx := fun _ H' => Q .non H', rt := Q } (start N__law_short_refused vs) H := by
  obtain ⟨l, no, rfl, h1, h6, sn, bn, tb, q⟩ := h
  refine ⟨by show 2 ≤ sizeLine; decide, fun u nu => ?_⟩
  have e0 : Ex H (upd H u (.tup [.ref (He.ga K "stands_from"), .ref (He.ga K "steps_from")])) := Ex.new nu
  have hu : (upd H u (.tup [.ref (He.ga K "stands_from"), .ref (He.ga K "steps_from")])) u = some (.tup [.ref (He.ga K "stands_from"), .ref (He.ga K "steps_from")]) := upd_same
  generalize upd H u (.tup [.ref (He.ga K "stands_from"), .ref (He.ga K "steps_from")]) = H0 at e0 hu ⊢
  refine ⟨u, rfl, ⟨_, SqT.of hu⟩, ?_⟩
  refine for_tup (K := K) (a := u) (xs := [.ref (He.ga K "stands_from"), .ref (He.ga K "steps_from")]) (fun i σ H' => ∃ o2 o3 o4 o5 : Option V, σ = [some (.int l), some no, o2, o3, o4, o5] ∧ Ex H0 H')
    ⟨none, none, none, none, rfl, Ex.refl _⟩ (fun i σ H' _ ⟨_, _, _, _, _, k⟩ => SqT.of (k _ _ hu)) ?_ ?_
  · rintro i x σ H1 hx ⟨o2, o3, o4, o5, rfl, e1⟩
    obtain ⟨f, rfl, hf⟩ : ∃ f, x = .ref f ∧ (f = He.ga K "stands_from" ∨ f = He.ga K "steps_from") := by
      have hm := List.mem_of_getElem? hx
      simp only [List.mem_cons, List.not_mem_nil, or_false] at hm
      rcases hm with rfl | rfl
      · exact ⟨_, rfl, .inl rfl⟩
      · exact ⟨_, rfl, .inr rfl⟩
    obtain ⟨F, kp⟩ := FD f hf
    dsimp only [gName, tSeq, tIfS, tTest, tOp]
    refine cl4 (vrA rfl) (vrA rfl) cnA cnA (rf_by (nm := "NoLength") (by decide) F kp (fun p Q' E' np he => ⟨_, _, _, rfl, sn.ex ((e0.trans e1).trans (Ex.new np)), .inl ⟨bn, he _ (Ex.refl _)⟩⟩) fun kin H2 e2 hk => ?_)
    refine two_l "NoLength" _ _ _ fun m nm => ?_
    refine neRf (nm := "NoLength") (by decide) ((Ex.new nm) _ _ hk) upd_same ⟨_, rfl, iteF ?_⟩
    have e3 := (e1.trans e2).trans (Ex.new (p := m) (o := .lst [.str "NoLength", .bl true]) nm)
    generalize upd H2 m (.lst [.str "NoLength", .bl true]) = H3 at e3 ⊢
    clear e2 hk nm e1
    refine cl4 (vrA rfl) cnA cnA cnA (rf_tl F kp (fun p Q' E' np he => ⟨_, _, _, rfl, .sm (.int 17), .inr ⟨17, rfl, by decide, by decide, .inl ⟨by decide, he⟩⟩⟩) fun kin H4 e4 hk => ?_)
    refine three_l _ _ _ fun m nm => ?_
    refine neTl ((Ex.new nm) _ _ hk) upd_same ⟨_, rfl, iteF ?_⟩
    have e5 := (e3.trans e4).trans (Ex.new (p := m) (o := .lst [.str "TooLong", .int 16, .bl true]) nm)
    generalize upd H4 m (.lst [.str "TooLong", .int 16, .bl true]) = H5 at e5 ⊢
    clear e4 hk nm e3
    refine ⟨_, rfl, l, 6, rfl, rfl, (show (0 : Int) < 6 by decide), 1, _, rfl, rfl, ?_⟩
    have s1 : 1 ≤ 1 + l % 6 := by omega
    have s6 : 1 + l % 6 ≤ 6 := by omega
    dsimp only [tAsg, gName, List.set]
    generalize 1 + l % 6 = sh at s1 s6 ⊢
    rw [tSeq, tFor, iTup]
    refine nine_l rfl fun u2 xs H6 e6 hu2 hb => ?_
    refine ⟨u2, rfl, ⟨_, SqT.of hu2⟩, ?_⟩
    refine for_tup (K := K) (a := u2) (xs := xs) (fun i σ H' => ∃ o4 o5 : Option V, σ = [some (.int l), some no, some (.ref f), some (.int sh), o4, o5] ∧ Ex H6 H') ⟨_, _, rfl, Ex.refl _⟩ (fun i σ H' _ ⟨_, _, _, k⟩ => SqT.of (k _ _ hu2)) ?_ ?_
    · rintro j y σ H7 hy ⟨p4, p5, rfl, e7⟩
      have hby := (hb y (List.mem_of_getElem? hy)).ex e7
      dsimp only [gName, tIfS, tTest, tOp]
      refine cl4 (vrA rfl) (vrA rfl) (vrA rfl) cnA (rf_by (nm := "NoStretch") (by decide) F kp (fun p Q' E' np he => ⟨_, _, _, rfl, .sm (.int sh), .inr ⟨sh, rfl, s1, by omega, .inr ⟨by omega, .inl ⟨hby.ex (Ex.new np), he _ (Ex.refl _)⟩⟩⟩⟩) fun kin H8 e8 hk => ?_)
      refine two_l "NoStretch" _ _ _ fun m nm => ?_
      refine neRf (nm := "NoStretch") (by decide) ((Ex.new nm) _ _ hk) upd_same ⟨_, rfl, iteF ?_⟩
      exact ⟨_, _, rfl, (e7.trans e8).trans (Ex.new nm)⟩
    rintro σ H7 ⟨p4, p5, rfl, e7⟩
    have e57 := (e5.trans e6).trans e7
    clear e6 e7 hb hu2 e5
    refine ⟨_, rfl, sh, 1, rfl, rfl, by show 5 ≤ sizeLine; decide, fun u3 nu3 => ?_⟩
    have e8 : Ex H7 (upd H7 u3 (.tup [.int 0, .int (sh + 1), .bl true, .non, .str (Str.ofString "1")])) := Ex.new nu3
    have hu3 : (upd H7 u3 (.tup [.int 0, .int (sh + 1), .bl true, .non, .str (Str.ofString "1")])) u3 = some (.tup [.int 0, .int (sh + 1), .bl true, .non, .str (Str.ofString "1")]) := upd_same
    generalize upd H7 u3 (.tup [.int 0, .int (sh + 1), .bl true, .non, .str (Str.ofString "1")]) = H8 at e8 hu3 ⊢
    refine ⟨u3, rfl, ⟨_, SqT.of hu3⟩, ?_⟩
    refine for_tup (K := K) (a := u3) (xs := [.int 0, .int (sh + 1), .bl true, .non, .str (Str.ofString "1")]) (fun i σ H' => ∃ o4 o5 : Option V, σ = [some (.int l), some no, some (.ref f), some (.int sh), o4, o5] ∧ Ex H8 H') ⟨_, _, rfl, Ex.refl _⟩ (fun i σ H' _ ⟨_, _, _, k⟩ => SqT.of (k _ _ hu3)) ?_ ?_
    · rintro j y σ H9 hy ⟨p4, p5, rfl, e9⟩
      have hby := odd_bad s1 hy
      dsimp only [gName, tIfS, tTest, tOp]
      refine cl4t (vrA rfl) (vrA rfl) cnA (vrA rfl) (vrA rfl) fun s Hs es hs => ?_
      refine rf_by (nm := "NoPlace") (by decide) F kp (fun p Q' E' np he => ⟨_, _, _, rfl, .sm (.int sh), .inr ⟨sh, rfl, s1, by omega, .inr ⟨by omega, .inr ⟨s, 1, sh, rfl, (Ex.new np) _ _ hs, by decide, s1, Int.le_refl _, .sm hby.1, .inl ⟨hby.2, he _ (Ex.refl _)⟩⟩⟩⟩⟩) fun kin Ha ea hk => ?_
      refine two_l "NoPlace" _ _ _ fun m nm => ?_
      refine neRf (nm := "NoPlace") (by decide) ((Ex.new nm) _ _ hk) upd_same ⟨_, rfl, iteF ?_⟩
      exact ⟨_, _, rfl, ((e9.trans es).trans ea).trans (Ex.new nm)⟩
    rintro σ H9 ⟨p4, p5, rfl, e9⟩
    dsimp only [gName, tIfS, tTest, tOp]
    refine cl4t (vrA rfl) (vrA rfl) cnA (vrA rfl) (vrA rfl) fun s Hs es hs => ?_
    refine rf_ok F kp (fun p Q' E' np hq => ⟨_, _, _, rfl, .sm (.int sh), .inr ⟨sh, rfl, s1, by omega, .inr ⟨by omega, .inr ⟨s, 1, sh, rfl, (Ex.new np) _ _ hs, by decide, s1, Int.le_refl _, .sm (.int sh), .inr ⟨sh, rfl, s1, Int.le_refl _, hq⟩⟩⟩⟩⟩) fun kin Ha ea hk => ?_
    refine ⟨Nat.zero_le _, fun m nm => ?_⟩
    refine neII (ns := []) (ms := []) (SqL.of ((Ex.new nm) _ _ hk)) (SqL.of upd_same) ⟨_, rfl, iteF ?_⟩
    exact ⟨_, _, _, _, rfl, ((((e57.trans e8).trans e9).trans es).trans ea).trans (Ex.new nm)⟩
  · rintro σ H1 ⟨o2, o3, o4, o5, rfl, e1⟩
    have e1 := e0.trans e1
    dsimp only [tSeq, tIfS, tTest, tOp]
    refine rf_lamT L0 (tb.ext e1) cnA cnA cnA (fun H3 Q' E' x3 he => ⟨_, _, _, rfl, _, rfl, .sm (.int 60), .inr ⟨60, rfl, by decide, by decide, he⟩⟩) fun kin H2 x2 t2 hk => ?_
    refine three_l _ _ _ fun m nm => ?_
    refine neTl ((Ex.new nm) _ _ hk) upd_same ⟨_, rfl, iteF ?_⟩
    have x3 := ((ExtN.of e1).trans x2).trans (ExtN.of (Ex.new (p := m) (o := .lst [.str "TooLong", .int 16, .bl true]) nm))
    have t3 := t2.ext (Ex.new (p := m) (o := .lst [.str "TooLong", .int 16, .bl true]) nm)
    generalize upd H2 m (.lst [.str "TooLong", .int 16, .bl true]) = H3 at x3 t3 ⊢
    refine rf_lam (nm := "NoLength") L1 (by decide) t3 (vrA rfl) cnA cnA (fun H4 Q' E' x4 he => ⟨_, _, _, rfl, _, rfl, (sn.xn x3).xn x4, .inl ⟨bn, he _ (Ex.refl _)⟩⟩) fun kin H4 x4 t4 hk => ?_
    refine two_l "NoLength" _ _ _ fun m nm => ?_
    exact eqRf (nm := "NoLength") (by decide) ((Ex.new nm) _ _ hk) upd_same (q _ ((x3.trans x4).trans (ExtN.of (Ex.new nm))) (t4.ext (Ex.new nm)))
theorem len__law_short_refused {vs : List V} {H : Hp} {Q : VK} {E : XK} (h : sp__law_short_refused K P w mg base T vs H Q E) : vs.length = 2 := by
  obtain ⟨l, no, rfl, _⟩ := h
  rfl
end
def sp__law_things_refused (K : PySem.W.Frag) (P : Program) (w : World) (mg : Str → Option Value) (base : Heap) : Sp := fun vs H Q _ => ∃ (l : Int) (no bad : V), vs = [.int l, no, bad] ∧ 1 ≤ l ∧ l ≤ 60 ∧ SmA H no ∧ isPl no 60 = false ∧ BadSt H bad l ∧ ∀ H', Ex H H' → Q (.bl true) H'
abbrev N__law_things_refused : List Str := ["length", "none", "bad", "odd"]
def t__law_things_refused (K : PySem.W.Frag) (P : Program) (w : World) (mg : Str → Option Value) (base : Heap) : TS := (tSeq (tFor (iTup K (tTup (tCons (tC (.int 0)) (tCons (tOp (rI0 fun i j => .int (i + j)) (tVar 0) (tC (.int 1))) (tCons (tC (.bl true)) (tCons (tC .non) (tCons (tC (.str (Str.ofString "1"))) tNil))))))) (gName 3) (tIfS (tTest (tOp (rNeD K) (tCall (sp__law_refused K P w mg base) [] E0 (tCons (tC (.ref (He.ga K "answers_to"))) (tCons (tVar 0) (tCons (tVar 3) (tCons (tC .non) tNil))))) (tLst (tCons (tC (.str (Str.ofString "NoPlace"))) (tCons (tC (.bl true)) tNil))))) (tRet (tC (.bl false))) tNext))
  (tSeq (tIfS (tTest (tOp (rNeD K) (tCall (sp__law_refused K P w mg base) [] E0 (tCons (tC (.ref (He.ga K "answers_to"))) (tCons (tVar 0) (tCons (tC (.int 1)) (tCons (tVar 2) tNil))))) (tLst (tCons (tC (.str (Str.ofString "NoStands"))) (tCons (tC (.bl true)) tNil))))) (tRet (tC (.bl false))) tNext)
  (tRet (tOp (rEqD K) (tCall (sp__law_refused K P w mg base) [] E0 (tCons (tC (.ref (He.ga K "answers_to"))) (tCons (tVar 1) (tCons (tC (.int 0)) (tCons (tC .non) tNil))))) (tLst (tCons (tC (.str (Str.ofString "NoLength"))) (tCons (tC (.bl true)) tNil)))))))
theorem call4 {sp : Sp} {E : XK} {t1 t2 t3 t4 : TE} {σ : L2.St} {H : Hp} {Q : VK} {v1 v2 v3 v4 : V} (h1 : ∀ Q', Q' v1 H → t1 σ H Q') (h2 : ∀ Q', Q' v2 H → t2 σ H Q') (h3 : ∀ Q', Q' v3 H → t3 σ H Q') (h4 : ∀ Q', Q' v4 H → t4 σ H Q') (q : sp [v1, v2, v3, v4] H Q E) : tCall sp [] E (tCons t1 (tCons t2 (tCons t3 (tCons t4 tNil)))) σ H Q :=
  h1 _ (h2 _ (h3 _ (h4 _ q)))
theorem vr {i : Nat} {v : V} {σ : L2.St} {H : Hp} (h : σ[i]? = some (some v)) : ∀ Q' : VK, Q' v H → tVar i σ H Q' := fun _ q => ⟨v, h, q⟩
theorem cn {v : V} {σ : L2.St} {H : Hp} : ∀ Q' : VK, Q' v H → tC v σ H Q' := fun _ q => q
theorem pure__law_things_refused {K : PySem.W.Frag} {P : Program} {w : World} {mg : Str → Option Value} {base : Heap} (F : FnR P w K mg base (L2N.CX P w) 100 (He.ga K "answers_to") (sp_answers_to K)) (kp : PySem.W.keepIn K (.ref (He.ga K "answers_to")) = true) {vs : List V} {H : Hp} {Q : VK} {E : XK} (h : sp__law_things_refused K P w mg base vs H Q E) : t__law_things_refused K P w mg base { nx := fun _ H' => Q .non H', rt := Q } (start N__law_things_refused vs) H := by
  obtain ⟨l, no, bad, rfl, h1, h6, sn, bn, bb, q⟩ := h
  refine ⟨_, rfl, l, 1, rfl, rfl, by show 5 ≤ sizeLine; decide, fun u nu => ?_⟩
  have e0 : Ex H (upd H u (.tup [.int 0, .int (l + 1), .bl true, .non, .str (Str.ofString "1")])) := Ex.new nu
  have hu : (upd H u (.tup [.int 0, .int (l + 1), .bl true, .non, .str (Str.ofString "1")])) u = some (.tup [.int 0, .int (l + 1), .bl true, .non, .str (Str.ofString "1")]) := upd_same
  generalize upd H u (.tup [.int 0, .int (l + 1), .bl true, .non, .str (Str.ofString "1")]) = H0 at e0 hu ⊢
  refine ⟨u, rfl, ⟨_, SqT.of hu⟩, ?_⟩
  have two : ∀ (nm : Str) (σ : L2.St) (H1 : Hp) (Q' : VK), (∀ m, H1 m = none → Q' (.ref m) (upd H1 m (.lst [.str nm, .bl true]))) → tLst (tCons (tC (.str nm)) (tCons (tC (.bl true)) tNil)) σ H1 Q' := fun nm σ H1 Q' q' => ⟨by show 2 ≤ sizeLine; decide, q'⟩
  refine for_tup (K := K) (a := u) (xs := [.int 0, .int (l + 1), .bl true, .non, .str (Str.ofString "1")]) (fun i σ H' => ∃ o : Option V, σ = [some (.int l), some no, some bad, o] ∧ Ex H H' ∧ H' u = some (.tup [.int 0, .int (l + 1), .bl true, .non, .str (Str.ofString "1")]))
    ⟨none, rfl, e0, hu⟩ (fun i σ H' _ ⟨_, _, _, k⟩ => SqT.of k) ?_ ?_
  · rintro i x σ H1 hx ⟨o, rfl, e1, hu1⟩
    have hx2 : Sm x ∧ isPl x l = false := by
      have hm := List.mem_of_getElem? hx
      simp only [List.mem_cons, List.not_mem_nil, or_false] at hm
      rcases hm with rfl | rfl | rfl | rfl | rfl
      · exact ⟨.int _, (decide_eq_false (show ¬ ((1 : Int) ≤ 0 ∧ (0 : Int) ≤ l) by omega) : isPl (.int 0) l = false)⟩
      · exact ⟨.int _, (decide_eq_false (show ¬ ((1 : Int) ≤ l + 1 ∧ l + 1 ≤ l) by omega) : isPl (.int (l + 1)) l = false)⟩
      · exact ⟨.bl _, rfl⟩
      · exact ⟨.non, rfl⟩
      · exact ⟨.str _, rfl⟩
    dsimp only [gName, tIfS, tTest, tOp]
    refine call4 cn (vr rfl) (vr rfl) cn (rf_by (nm := "NoPlace") (by decide) F kp (fun p Q' E' np he => ⟨_, _, _, rfl, .sm (.int l), .inr ⟨l, rfl, h1, h6, .sm hx2.1, .inl ⟨hx2.2, he _ (Ex.refl _)⟩⟩⟩) fun kin H2 e2 hk => ?_)
    refine two "NoPlace" _ _ _ fun m nm => ?_
    refine neRf (nm := "NoPlace") (by decide) ((Ex.new nm) _ _ hk) upd_same ⟨_, rfl, iteF ?_⟩
    exact ⟨_, rfl, (e1.trans e2).trans (Ex.new nm), (Ex.new nm) _ _ (e2 _ _ hu1)⟩
  · rintro σ H1 ⟨o, rfl, e1, hu1⟩
    dsimp only [tSeq, tIfS, tTest, tOp]
    refine call4 cn (vr rfl) cn (vr rfl) (rf_by (nm := "NoStands") (by decide) F kp (fun p Q' E' np he => ⟨_, _, _, rfl, .sm (.int l), .inr ⟨l, rfl, h1, h6, .sm (.int 1), .inr ⟨isPl_of (by decide) h1, bb.ex (e1.trans (Ex.new np)), he⟩⟩⟩) fun kin H2 e2 hk => ?_)
    refine two "NoStands" _ _ _ fun m nm => ?_
    refine neRf (nm := "NoStands") (by decide) ((Ex.new nm) _ _ hk) upd_same ⟨_, rfl, iteF ?_⟩
    have e3 := (e1.trans e2).trans (Ex.new (p := m) (o := .lst [.str "NoStands", .bl true]) nm)
    generalize upd H2 m (.lst [.str "NoStands", .bl true]) = H3 at e3 ⊢
    refine call4 cn (vr rfl) cn cn (rf_by (nm := "NoLength") (by decide) F kp (fun p Q' E' np he => ⟨_, _, _, rfl, sn.ex (e3.trans (Ex.new np)), .inl ⟨bn, he _ (Ex.refl _)⟩⟩) fun kin H4 e4 hk => ?_)
    refine two "NoLength" _ _ _ fun m nm => ?_
    exact eqRf (nm := "NoLength") (by decide) ((Ex.new nm) _ _ hk) upd_same (q _ ((e3.trans e4).trans (Ex.new nm)))
theorem len__law_things_refused {K : PySem.W.Frag} {P : Program} {w : World} {mg : Str → Option Value} {base : Heap} {vs : List V} {H : Hp} {Q : VK} {E : XK} (h : sp__law_things_refused K P w mg base vs H Q E) : vs.length = 3 := by
  obtain ⟨l, no, bad, rfl, _⟩ := h
  rfl
/-! ### an exception with a field is made -/
theorem mk_endN {X : Cx} {pins : List (Addr × Obj)} {σ : L2.St} {H1 H2 : Hp} {Q : XK} {hp hp2 h2 : Heap} {g1 g2 : Array GenState} {d1 d2 : Drawn} {t1 t2 : Nat} {os1 os2 : OsState} {a C d : Addr} {fs : List (Str × V)} (r : Raises X (.ref C)) (I1 : Inv X pins σ H1 ⟨hp, g1, d1, t1, os1⟩)
    (ha : hp.objs.size ≤ a) (k : ∀ b o, hp.get? b = some o → hp2.get? b = some o) (un : Un (frs X.stack) [] (upd H1 a (exo a C none)) H2 hp2 h2) (hok : HOk X.prog X.w H2 h2) (ho : os2 = os1) (hb : AllBare g2)
    (ea : H2 a = some (exo a C (some d))) (ed : H2 d = some (exd d fs)) (hd1 : H1 d = none) (q : Q (.ref C) (some d) (upd (del H2 a) d (.xd fs))) : L2N.MkP X pins σ Q (.ref a) ⟨h2, g2, d2, t2, os2⟩ := by
  have ⟨t0, G, J, kG, ge, hoe, na⟩ := mk_end0 (d2 := d2) (t2 := t2) I1 ha k un hok ho hb ea ed hd1
  exact ⟨a, _, _, ⟨G, g2, d2, t2, os2⟩, _, .ref C, some d, rfl, J, kG, ge, hoe, ⟨rfl, rfl, fun vs e => by cases e; rfl⟩, rfl, rfl, na, rfl, hb, r, q⟩
/-! ### TooLong(16): a class whose __init__ says super().__init__ -/
section
open NdefX
/-- what the written part says of the class at C and of its __init__ at f, whose cell is at cc, whose code object is at c -/
structure TlF (P : Program) (K : PySem.W.Frag) (C f cc c : Addr) : Prop where
  oex : OexC K C
  most : PySem.W.findIn K (.ref C) "most" = some none
  file : ∃ ccl cdd vs ccs tf, K.lookup c = some ⟨ccl, cdd, .fields vs, ccs⟩ ∧ vs[2]? = some (.str P.main.file tf)
  cell : ∃ cl cld csl, K.lookup cc = some ⟨cl, cld, .cell (some (.ref C)), csl⟩
  top : (P.main.scope.names.lookup ("super" : Str)).isSome = false
  opq : PySem.W.nsIn K cStatics "thirdparty.any" = some none
  sup : PySem.W.ks_superIn K C C "__init__" = some (some (.builtin "ValueError.__init__"))
  ve : PySem.W.subIn K (.ref C) (.type "ValueError") = some true
  mro : PySem.W.mroIn K C (.ref C) = some true
section
variable {X : Cx} {pins : List (Addr × Obj)} {σ : L2.St} {H : Hp} {s : Shared} {E : Value → Shared → Prop} {C f cc c a : Addr}
theorem tl_cls (T : TlF X.prog X.K C f cc c) : ∃ cd, PySem.W.clsIn X.K C = some cd := by
  have ⟨nm, q, N, bs, bm, sn, sub, ab, col, dd, k0, k1, k2, k3, k5, hC, hbm⟩ := T.oex.cls
  exact ⟨{ name := nm, bases := bs, mro := .ref C :: bm, ns := N, qualname := q, hasDict := true, slotNames := sn, subclasses := sub, abstract := ab, collection := col, hasDel := false }, by unfold PySem.W.clsIn; rw [hC] <;> rfl⟩
theorem tl_inst (I : Inv X pins σ H s) (e : H a = some (exo a C none)) : ∃ ox, PySem.W.InstAt s.heap a ox C none := by
  have ⟨t1, ho⟩ := exo_at I.hok e
  exact ⟨_, ho, rfl, rfl, trivial⟩
/-- super() -/
theorem tl_base {body : List Stmt} {p0 p1 : Pos} {whole : Sem Value} {fd : FuncData} {ar : Arg} {oc : Value} {od : Option Addr} {osl : Array (Option Value)} {Q : Value → Shared → Prop} (T : TlF X.prog X.K C f cc c) (I : Inv X pins σ H s) (hm0 : X.mg "super" = none) (e : H a = some (exo a C none))
    (lk : X.K.lookup f = some ⟨oc, od, .func fd, osl⟩) (hp : (fd.params.posonlyargs ++ fd.params.args).head? = some ar) (har : ar.arg = "self") (hN : X.N[0]? = some ("self" : Str)) (h0 : σ[0]? = some (some (.ref a)))
    (hk : X.env.scope.kind = .function) (hks : X.env.kindOf "super" = some .globalImplicit) (hkc : X.env.kindOf "__class__" = some .free) (hka : X.env.kindOf "self" = some .local) (hfu : X.env.func = some f) (hco : X.env.code = .ref c) (hcl : X.env.cells.lookup ("__class__" : Str) = some cc)
    (h : ∀ so s', Inv X pins σ H s' → s'.heap.get? so = some (PySem.W.ks_superObj C a C) → Q (.ref so) s') :
    _root_.PySem.wpAt (model X.prog X.w) X.A (.func body X.env) (attributeBase (.Call (.Name "super" p0) [] [] p1) "__init__" X.env whole) Q E s := by
  have ⟨ccl, cdd, vs, ccs, tf, hcode, hvs⟩ := T.file
  have ⟨cl, cld, csl, hcell⟩ := T.cell
  have ⟨cdD, hD⟩ := tl_cls T
  have ⟨ox, J⟩ := tl_inst I e
  have KI := I.kIn
  have ⟨m, hn, hl⟩ := I.loc
  have ⟨u, ru, hlook⟩ := hl 0 "self" (.ref a) hN h0 (.inl hka)
  have hv : m "self" = some (.ref a) := by
    rcases hlook with ⟨_, z⟩ | ⟨z, _⟩
    · rw [z, show u = Value.ref a from ru]
    · rcases z with z | z <;> rw [hka] at z <;> cases z
  have ⟨oD, hD1, hD2⟩ : ∃ oD, s.heap.get? C = some oD ∧ oD.data = .cls cdD := by
    unfold PySem.W.clsIn at hD
    split at hD
    · rename_i c' d' cd' sl ho
      cases hD
      exact ⟨_, KI _ _ ho, rfl⟩
    · cases hD
  have ⟨mb, hb1, hb2⟩ := I.mod.blt
  refine ks_wpAt_super_base (env := X.env) hks hkc (by decide) hfu (KI _ _ lk) rfl hp hco (KI _ _ hcode) rfl hvs (by exact beq_self_eq_true _) T.top ?_
  refine PySem.W.ks_loadName_global hk hks (Calls.loadGlobal_builtin (by rw [I.ok.glob]; exact I.mod.glob.keeps I.bk) hm0 (by rw [I.ok.blt]; exact hb1.keeps I.bk) ((hb2 "super" (by decide)).trans (show bootBuiltins "super" = some (.type "super") by decide +kernel)) ⟨rfl, ?_⟩)
  refine wpAny_loadName_free hk hkc hcl ⟨_, KI _ _ hcell, rfl⟩ ?_
  rw [har]
  refine wpAny_loadName_local hk hka hn hv ?_
  obtain ⟨hh, g, d, t, os⟩ := s
  refine ks_wpAny_isType_cls hD1 hD2 ⟨rfl, ?_⟩
  refine ks_wpAny_call_super hD1 hD2 J.at_ J.cls (fun c' z => ?_) (PySem.W.looks_mroIn KI T.mro) (fun h' e' k => ?_)
  · have := J.no
    unfold PySem.W.notCls at this
    rw [z] at this
    exact Bool.noConfusion this
  · exact h _ _ (I.kept (t' := t) k) e'
/-- .__init__ of it -/
theorem tl_meth {pl : Sem Bool} {so : Addr} {A : Around} {Q : Value × List Value → Shared → Prop} (T : TlF X.prog X.K C f cc c) (I : Inv X pins σ H s) (e : H a = some (exo a C none)) (hso : s.heap.get? so = some (PySem.W.ks_superObj C a C))
    (h : ∀ u s', Inv X [(u, PySem.W.kxs_mw "ValueError.__init__" a)] σ H s' → Q (.ref u, []) s') : wpAny (model X.prog X.w) A (getMethod (.ref so) "__init__" pl) Q E s := by
  have ⟨cdD, hD⟩ := tl_cls T
  have ⟨ox, J⟩ := tl_inst I e
  have KI := I.kIn
  have hI : PySem.W.Looks (model X.prog X.w) s.heap (isInstance (.ref a) (.type "ValueError")) true := J.type.andThen (PySem.W.looks_subIn KI T.ve)
  have hm := T.sup
  unfold PySem.W.ks_superIn at hm
  rw [hD] at hm
  obtain ⟨hh, g, d, t, os⟩ := s
  refine PySem.W.kxs_getMethod PySem.W.kxs_ValueError hso (PySem.W.looks_opaque KI T.opq) (l₀ := cdD.mro) ?_ rfl KI hm hI (PySem.W.ks_ne KI J hD) (by decide) ?_
  · exact fun A Q E s k q => wpAny_bind ((PySem.W.looks_clsIn KI hD) A _ E s k (wpAny_pure q))
  · refine h hh.objs.size _ ((I.kept (t' := t + 1) (h' := hh.push (PySem.W.kxs_mw "ValueError.__init__" a)) fun b o z => Heap.get?_push_of_some _ z).pins_of fun p hp => ?_)
    rw [List.mem_singleton.mp hp]
    exact ⟨Heap.get?_push_at rfl rfl, I.hok.fresh (Nat.le_refl _), Nat.ne_of_gt I.lt, I.nofs (Nat.le_refl _), fun v z => by cases z⟩
/-- the bound one is called -/
theorem tl_call {u : Addr} {us : List Value} {A : Around} {Q : Value → Shared → Prop} (T : TlF X.prog X.K C f cc c) (I : Inv X pins σ H s) (e : H a = some (exo a C none)) (hu : s.heap.get? u = some (PySem.W.kxs_mw "ValueError.__init__" a)) (hl : us.length ≤ sizeLine)
    (h : ∀ s', Inv X pins σ H s' → Q .none s') : wpAny (model X.prog X.w) A (call (.ref u) us) Q E s := by
  have ⟨nm, q, N, bs, bm, sn, sub, ab, col, dd, k0, k1, k2, k3, k5, hC, hbm⟩ := T.oex.cls
  have ⟨t1, ho⟩ := exo_at I.hok e
  have KI := I.kIn
  obtain ⟨hp, g, d, t, os⟩ := s
  refine wpAny_call (codeAny_of_tree ?_)
  show wpAny _ A.in1 (callAny (.ref u) ⟨us, []⟩) _ _ _
  simp only [callAny]
  refine wpAny_bind (wpAny_load hu ?_)
  simp only [PySem.W.kxs_mw, show (Value.type "method-wrapper" == Value.type "method" || Value.type "method-wrapper" == Value.type "builtin_function_or_method" || Value.type "method-wrapper" == Value.type "method-wrapper") = true by decide, if_true]
  refine PySem.W.KFB.if_so (by decide) ?_
  refine wpAny_bind (PySem.W.check_bound_init F.excBase_ValueError.toExcCallFacts (KI _ _ hC) ho rfl ?_)
  refine wpAny_bind (wpAny_pure (wpAny_pure ?_))
  refine ⟨plainId_quiet F.excBase_ValueError.init.plain _, codeAny_builtin F.excBase_ValueError.initEntry ?_⟩
  refine PySem.W.exc_init_tree (cls := .ref C) (t0 := t1) (dv := none) (c2 := .none) (c3 := .none) (b4 := .bool false) ho hl fun h' k hx ht => ?_
  have J := I.write (t' := t) (x := a) (e := a) (o := exo a C none) (by rw [e]; exact True.intro) (.inl rfl) k ⟨_, hx⟩ (exo_ok hx)
  have eu : upd H a (exo a C none) = H := by
    funext b
    by_cases hb : b = a
    · rw [hb, upd_same, e]
    · rw [upd_ne hb]
  rw [eu] at J
  exact h _ J
end
/-- its promise: the field most is laid -/
def spTl (C : Addr) : Sp := fun vs H Q _ => ∃ (a : Addr) (i : Int), vs = [.ref a, .int i] ∧ 0 ≤ i ∧ i ≤ 100 ∧ H a = some (exo a C none) ∧ ∀ dx, H dx = none → dx ≠ a → Q .non (upd (upd H dx (exd dx [("most", .int i)])) a (exo a C (some dx)))
/-- the rows of the __init__ -/
def tlB (je : Expr) (p0 p1 p2 p3 p4 p5 p6 p7 p8 : Pos) : List Stmt := [.Expr (.Call (.Attribute (.Call (.Name "super" p0) [] [] p1) "__init__" p2) [je] [] p3) p4, .Assign [.Attribute (.Name "self" p5) "most" p6] (.Name "most" p7) p8]
theorem tl_body {X : Cx} {σ : L2.St} {H : Hp} {s : Shared} {C f cc c a : Addr} {i : Int} {je : Expr} {p0 p1 p2 p3 p4 p5 p6 p7 p8 : Pos} {fd : FuncData} {ar : Arg} {oc : Value} {od : Option Addr} {osl : Array (Option Value)} {body : List Stmt} {tj : TE} {D : Ends}
    (T : TlF X.prog X.K C f cc c) (I : Inv X [] σ H s) (hm0 : X.mg "super" = none) (ea : H a = some (exo a C none)) (lk : X.K.lookup f = some ⟨oc, od, .func fd, osl⟩) (hp : (fd.params.posonlyargs ++ fd.params.args).head? = some ar) (har : ar.arg = "self")
    (hN : X.N[0]? = some ("self" : Str)) (h0 : σ[0]? = some (some (.ref a))) (hN1 : X.N[1]? = some ("most" : Str)) (h1 : σ[1]? = some (some (.int i))) (hk : X.env.scope.kind = .function) (hks : X.env.kindOf "super" = some .globalImplicit) (hkc : X.env.kindOf "__class__" = some .free)
    (hka : X.env.kindOf "self" = some .local) (hkm : X.env.kindOf "most" = some .local) (hfu : X.env.func = some f) (hco : X.env.code = .ref c) (hcl : X.env.cells.lookup ("__class__" : Str) = some cc) (hi : interactive X.env = false)
    (b0 : 0 ≤ i) (b1 : i ≤ 100) (hj : PE X je tj) (htj : ∀ (σ : L2.St) (H : Hp) (Q : VK) (i : Int), σ[1]? = some (some (.int i)) → 0 ≤ i → i ≤ 100 → (∀ z, Q (.str z) H) → tj σ H Q) (hst : starEach [je] X.env = [(false, eval je X.env)])
    (hsw : swapsWith (.Call (.Attribute (.Call (.Name "super" p0) [] [] p1) "__init__" p2) [je] [] p3) none p4.line X.env = pure false)
    (hmc : ∃ pl, eval (.Call (.Attribute (.Call (.Name "super" p0) [] [] p1) "__init__" p2) [je] [] p3) X.env = (do
      let ov ← attributeBase (.Call (.Name "super" p0) [] [] p1) "__init__" X.env (eval (.Call (.Name "super" p0) [] [] p1) X.env)
      standAt p2.atName
      let (f, first) ← holding [ov] (getMethod ov "__init__" pl)
      callWith p3 f first (backTo p3 (starEach [je] X.env)) []))
    (q : ∀ dx, H dx = none → dx ≠ a → D.nx σ (upd (upd H dx (exd dx [("most", .int i)])) a (exo a C (some dx)))) :
    _root_.PySem.wpAt (model X.prog X.w) X.A (.func body X.env) (execs (tlB je p0 p1 p2 p3 p4 p5 p6 p7 p8) X.env) (SP X [] D) X.xe s := by
  refine ks_wpAt_execs_cons (ks_wpAt_Expr_any ?_ hi hsw)
  have ⟨pl, hmc⟩ := hmc
  refine ks_wpAt_MethodCall (pl := pl) ?_ hmc
  refine tl_base T I hm0 ea lk hp har hN h0 hk hks hkc hka hfu hco hcl fun so s1 I1 hso => ?_
  refine tl_meth T I1 ea hso fun u s2 I2 => ?_
  refine PySem.W.kxs_callWith (i := "ValueError.__init__") (x := a) (by rw [hst]; rfl) ?_
  have hrun := (pa_cons hj pa_nil (hs := hst)).run p3 _ s2 σ H (fun vs H' => vs.length = 1 ∧ H' = H) I2 (htj σ H _ i h1 b0 b1 fun z => ⟨rfl, rfl⟩)
  rw [hst] at hrun ⊢
  refine Calls.evalArgs_plain (thn hrun fun us s3 ⟨xs, H3, I3, r3, hl, e3⟩ => ?_)
  subst e3
  have hu := (I3.pin (u, PySem.W.kxs_mw "ValueError.__init__" a) (List.mem_append_right _ List.mem_cons_self)).1
  refine ⟨hu, tl_call T (I3.pins_of (pins' := []) fun p hp => by cases hp) ea hu (by show us.length ≤ sizeLine; rw [← r3.length, hl]; decide) fun s4 I4 => ?_⟩
  refine _root_.PySem.wpAt_of_wpAny ((pss_one (ps_ost (pe_var hN (.inl hka) (by decide) (by decide)) (pe_var hN1 (.inl hkm) (by decide) (by decide)))).run [] s4 σ H3 D I4 ?_)
  exact ⟨_, h1, _, h0, a, C, rfl, T.oex, T.most, .inl ⟨ea, q⟩⟩
theorem tl_init {P : Program} {w : World} {K : PySem.W.Frag} {mg : Str → Option Value} {base : Heap} {C f cc c : Addr} {params : Arguments} {scope : Scope} {je : Expr} {p0 p1 p2 p3 p4 p5 p6 p7 p8 : Pos} {qual : Str} {dV kV doc pm ct oc : Value} {an od : Option Addr} {osl : Array (Option Value)} {tj : TE} {ar : Arg}
    (T : TlF P K C f cc c) (hm0 : mg "super" = none)
    (lk : K.lookup f = some ⟨oc, od, .func (PySem.W.fnX "__init__" qual params (tlB je p0 p1 p2 p3 p4 p5 p6 p7 p8) scope [("__class__", cc)] dV kV doc pm an (.ref c) ct), osl⟩) (hcd : PySem.W.codeIn K (.ref c) qual = true)
    (S : NScope ["self", "most", "__class__"] ["self", "most"] ["__class__"] scope) (hp : (params.posonlyargs ++ params.args).head? = some ar) (har : ar.arg = "self") (hks : scope.names.lookup ("super" : Str) = some .globalImplicit)
    (hj : ∀ A outer s H E, PE (ncx (L2N.CX P w) P w K mg base ["self", "most", "__class__"] ⟨"__init__", qual, params, tlB je p0 p1 p2 p3 p4 p5 p6 p7 p8, scope, [("__class__", cc)], c⟩ f A outer s H E) je tj)
    (htj : ∀ (σ : L2.St) (H : Hp) (Q : VK) (i : Int), σ[1]? = some (some (.int i)) → 0 ≤ i → i ≤ 100 → (∀ z, Q (.str z) H) → tj σ H Q) (hst : ∀ env : Env, starEach [je] env = [(false, eval je env)])
    (hsw : ∀ env : Env, swapsWith (.Call (.Attribute (.Call (.Name "super" p0) [] [] p1) "__init__" p2) [je] [] p3) none p4.line env = pure false)
    (hint : ∀ env : Env, env.scope = scope → interactive env = false)
    (hmc : ∀ env : Env, ∃ pl, eval (.Call (.Attribute (.Call (.Name "super" p0) [] [] p1) "__init__" p2) [je] [] p3) env = (do
      let ov ← attributeBase (.Call (.Name "super" p0) [] [] p1) "__init__" env (eval (.Call (.Name "super" p0) [] [] p1) env)
      standAt p2.atName
      let (f, first) ← holding [ov] (getMethod ov "__init__" pl)
      callWith p3 f first (backTo p3 (starEach [je] env)) [])) :
    FnOk P w K mg base (L2N.CX P w) 1 f (PySem.W.fnX "__init__" qual params (tlB je p0 p1 p2 p3 p4 p5 p6 p7 p8) scope [("__class__", cc)] dV kV doc pm an (.ref c) ct) ["self", "most"] (spTl C) := by
  refine ⟨fun vs H Q E ⟨a, i, e, _⟩ => by rw [e]; rfl, fun A outer s H args us vs Q E hr e0 hb r hsp => ?_⟩
  obtain ⟨a, i, rfl, h0, h1, ea, q⟩ := hsp
  have KX : K.In s.heap := e0.mod.kin.keeps fun b o z => (e0.bs b o z).1
  have lim : s.heap.NoLimit := e0.mod.nolimit.keeps fun b o z => (e0.bs b o z).1
  have ⟨cl, cld, csl, hcell⟩ := T.cell
  have Cc : CellsAt [("__class__", cc)] ["__class__"] [some (.ref C)] s.heap H := by
    have key : ∀ {y : Str} {c0 : Addr}, ([("__class__", cc)] : List (Str × Addr)).lookup y = some c0 → y = "__class__" ∧ c0 = cc := fun {y c0} z => by
      have z2 := PySem.mem_of_lookup z
      have z3 := List.mem_singleton.mp z2
      cases z3
      exact ⟨rfl, rfl⟩
    refine ⟨rfl, fun y c0 z => ?_, fun x y c0 z1 z2 => (key z1).1.trans (key z2).1.symm, fun j y z => ?_⟩
    · rw [(key z).2]
      exact ⟨(e0.bs _ _ (e0.mod.kin _ _ hcell)).2, _, _, KX _ _ hcell, rfl⟩
    · match j, z with
      | 0, z =>
        cases z
        refine ⟨cc, by simp [List.lookup], fun v hv => ?_⟩
        cases hv
        exact ⟨.ref C, rfl, _, KX _ _ hcell, rfl⟩
      | j + 1, z => simp at z
  refine ks_codeAny_call_defAt (fd := PySem.W.fnX "__init__" qual params (tlB je p0 p1 p2 p3 p4 p5 p6 p7 p8) scope [("__class__", cc)] dV kV doc pm an (.ref c) ct) (body := tlB je p0 p1 p2 p3 p4 p5 p6 p7 p8) (binds := (["self", "most"] : List Str).zip us) hr.depth (KX _ _ lk) rfl lim (PySem.W.codeRec_of KX hcd) rfl hb S.nocell
    (fun ⟨n, _⟩ hy => S.par n (List.of_mem_zip hy).1) (fun h₁ hns kp => ?_) S.co S.gen S.kind
  have I : Inv (ncx (L2N.CX P w) P w K mg base ["self", "most", "__class__"] ⟨"__init__", qual, params, tlB je p0 p1 p2 p3 p4 p5 p6 p7 p8, scope, [("__class__", cc)], c⟩ f A outer s H E) [] (startF ["self", "most", "__class__"] [.ref a, .int i] [some (.ref C)]) H { s with heap := h₁, toks := s.toks + ((["self", "most"] : List Str).zip us).length } := inv_startN S hr.hd e0 rfl r Cc hns kp
  have fin : ∀ {fl : Flow} {s' : Shared}, SP (ncx (L2N.CX P w) P w K mg base ["self", "most", "__class__"] ⟨"__init__", qual, params, tlB je p0 p1 p2 p3 p4 p5 p6 p7 p8, scope, [("__class__", cc)], c⟩ f A outer s H E) [] { nx := fun _ H' => Q .non H', rt := Q } fl s' → CR (L2N.CX P w) outer P w H s Q E (.ok (.ret (match fl with | .ret v => v | _ => .none))) s' := fun {fl s'} hs => by
    cases fl with
    | ret u =>
      obtain ⟨v, σ', H', J, rv, q'⟩ := hs
      exact ⟨v, H', J.os, J.bare, J.base, J.hok, rv, q'⟩
    | next =>
      obtain ⟨σ', H', J, q'⟩ := hs
      exact ⟨.non, H', J.os, J.bare, J.base, J.hok, rfl, q'⟩
    | brk =>
      obtain ⟨_, _, _, q'⟩ := hs
      exact False.elim q'
    | cont =>
      obtain ⟨_, _, _, q'⟩ := hs
      exact False.elim q'
  refine _root_.PySem.wpAt_mono (tl_body (X := ncx (L2N.CX P w) P w K mg base ["self", "most", "__class__"] ⟨"__init__", qual, params, tlB je p0 p1 p2 p3 p4 p5 p6 p7 p8, scope, [("__class__", cc)], c⟩ f A outer s H E) (i := i) (D := { nx := fun _ H' => Q .non H', rt := Q }) T I hm0 ea lk hp har rfl rfl rfl rfl S.kind hks (S.frk _ List.mem_cons_self) (S.par _ List.mem_cons_self) (S.par _ (List.mem_cons_of_mem _ List.mem_cons_self)) rfl rfl (show ([("__class__", cc)] : List (Str × Addr)).lookup ("__class__" : Str) = some cc by simp [List.lookup]) (hint _ rfl) h0 h1 (hj A outer s H E) htj (hst _) (hsw _) (hmc _) q) (fun fl s' hs => fin hs) fun e' s' z => z
/-- TooLong as the program's text has it -/
structure TlK (P : Program) (w : World) (K : PySem.W.Frag) (mg : Str → Option Value) (base : Heap) : Prop where
  g : mg "TooLong" = some (.ref (He.ga K "TooLong"))
  oex : OexC K (He.ga K "TooLong")
  ex : ∃ (f : Addr) (fd : FuncData), FnOk P w K mg base (L2N.CX P w) 1 f fd ["self", "most"] (spTl (He.ga K "TooLong")) ∧ PySem.W.findIn K (.ref (He.ga K "TooLong")) "__init__" = some (some (.ref f)) ∧ PySem.W.typeIn K (.ref f) = some (.type "function") ∧ Binds K fd ["self", "most"] []
theorem del_upd {H : Hp} {a d : Addr} {o u v : HO} (n : H a = none) (ne : d ≠ a) : upd (del (upd (upd (upd H a o) d u) a o) a) d v = upd H d v := by
  funext b
  by_cases h1 : b = d
  · rw [h1, upd_same, upd_same]
  · rw [upd_ne h1, upd_ne h1]
    by_cases h2 : b = a
    · rw [h2, del_same, n]
    · rw [del_ne h2, upd_ne h2, upd_ne h1, upd_ne h2]
theorem pmk_tl {X : Cx} {e : Expr} {ta : TE} {p pos : Pos} {k : Nat} (T : TlK X.prog X.w X.K X.mg X.base) (hr : Room k X.A) (hk : 2 ≤ k) (hg : Gl X "TooLong") (he : PE X e ta) (hs : starEach [e] X.env = (false, eval e X.env) :: starEach [] X.env) :
    L2N.PMk X (.Call (.Name "TooLong" p) [e] [] pos) (fun σ H Q => ta σ H fun v H1 => ∃ i : Int, v = .int i ∧ 0 ≤ i ∧ i ≤ 100 ∧ ∀ d, H1 d = none → Q (.ref (He.ga X.K "TooLong")) (some d) (upd H1 d (.xd [("most", .int i)]))) := by
  intro pins s σ H Q I h
  have ⟨fI, fd, F1, iC, tI, hb⟩ := T.ex
  have ⟨nm, q, N, bs, bm, sn, sub, ab, col, dd, k0, k1, k2, k3, k5, hC, hbm⟩ := T.oex.cls
  refine wpAny_Call_Name_kw (ld_glob I hg T.g ?_ (by decide))
  refine PySem.W.callWith_K (h₀ := X.base) I.ok.mod.kin T.oex.kC (thn ((pa_cons he pa_nil (hs := hs)).run pos pins s σ H (fun vs H1 => match vs with
    | [v] => ∃ i : Int, v = .int i ∧ 0 ≤ i ∧ i ≤ 100 ∧ ∀ d, H1 d = none → Q (.ref (He.ga X.K "TooLong")) (some d) (upd H1 d (.xd [("most", .int i)]))
    | _ => False) I h) fun us s1 ⟨vs, H1, I1, r1, q0⟩ => ⟨I1.kIn, ?_⟩) hs (by rfl)
  obtain ⟨i, ev, b0, b1, q1⟩ : ∃ i : Int, vs = [.int i] ∧ 0 ≤ i ∧ i ≤ 100 ∧ ∀ d, H1 d = none → Q (.ref (He.ga X.K "TooLong")) (some d) (upd H1 d (.xd [("most", .int i)])) := by
    match vs, q0 with
    | [v], ⟨i, e, z⟩ => exact ⟨i, by rw [e], z⟩
  show wpAny _ _ (call (.ref (He.ga X.K "TooLong")) us) _ _ _
  subst ev
  obtain ⟨hp, g, dr, tk, os⟩ := s1
  have hsz : hp.objs.size ≤ hp.objs.size + 1 := Nat.le_succ _
  have hn : H1 (hp.objs.size + 1) = none := I1.hok.fresh hsz
  have kk : ∀ b o, hp.get? b = some o → ((hp.push (PySem.W.kdv_tup us)).push (PySem.HandSPX.excO (He.ga X.K "TooLong") hp.objs.size)).get? b = some o := fun b o z => Heap.get?_push_of_some _ (Heap.get?_push_of_some _ z)
  have hget : ((hp.push (PySem.W.kdv_tup us)).push (PySem.HandSPX.excO (He.ga X.K "TooLong") hp.objs.size)).get? (hp.objs.size + 1) = some (PySem.HandSPX.excO (He.ga X.K "TooLong") hp.objs.size) := by heap_get
  have I2 := I1.laid (t' := tk) (a := hp.objs.size + 1) (o := exo (hp.objs.size + 1) (He.ga X.K "TooLong") none) (h' := (hp.push (PySem.W.kdv_tup us)).push (PySem.HandSPX.excO (He.ga X.K "TooLong") hp.objs.size)) kk hsz (exo_ok hget)
  have r2 : Vals [V.ref (hp.objs.size + 1), .int i] (Value.ref (hp.objs.size + 1) :: us) := .cons rfl r1
  have hl : (Value.ref (hp.objs.size + 1) :: us).length = 2 := r2.length.symm
  have hus : us.length ≤ sizeLine := by
    rw [← Paired.length r1]
    show 1 ≤ sizeLine
    decide
  have hq : spTl (He.ga X.K "TooLong") [.ref (hp.objs.size + 1), .int i] (upd H1 (hp.objs.size + 1) (exo (hp.objs.size + 1) (He.ga X.K "TooLong") none)) (fun v H2 => v = .non ∧ ∃ (d : Addr) (fs : List (Str × V)), H2 (hp.objs.size + 1) = some (exo (hp.objs.size + 1) (He.ga X.K "TooLong") (some d)) ∧ H2 d = some (exd d fs) ∧ H1 d = none ∧ Q (.ref (He.ga X.K "TooLong")) (some d) (upd (del H2 (hp.objs.size + 1)) d (.xd fs))) (fun _ _ _ => False) := by
    refine ⟨_, i, rfl, b0, b1, upd_same, fun dx nd ne => ⟨rfl, dx, _, upd_same, by rw [upd_ne ne, upd_same], by rw [upd_ne ne] at nd; exact nd, ?_⟩⟩
    rw [upd_ne ne] at nd
    have ed : upd (del (upd (upd (upd H1 (hp.objs.size + 1) (exo (hp.objs.size + 1) (He.ga X.K "TooLong") none)) dx (exd dx [("most", .int i)])) (hp.objs.size + 1) (exo (hp.objs.size + 1) (He.ga X.K "TooLong") (some dx))) (hp.objs.size + 1)) dx (.xd [("most", .int i)]) = upd H1 dx (.xd [("most", .int i)]) := by
      funext b
      by_cases z1 : b = dx
      · rw [z1, upd_same, upd_same]
      · rw [upd_ne z1, upd_ne z1]
        by_cases z2 : b = hp.objs.size + 1
        · rw [z2, del_same, hn]
        · rw [del_ne z2, upd_ne z2, upd_ne z1, upd_ne z2]
    rw [ed]
    exact q1 dx nd
  have hro : Room (1 + 1) X.A := hr.mono hk
  refine wpAny_call (PySem.HandSPX.call_own F.excBase_ValueError (fun Y => PySem.HandSPX.refsVE_contains Y bm hbm) (I1.kIn _ _ hC) (PySem.W.looks_findIn I1.kIn iC) (fun self => PySem.W.bind_fn I1.kIn self tI) hus
    (codeAny_mono (F1.run _ X.stack _ _ ⟨Value.ref (hp.objs.size + 1) :: us, []⟩ (Value.ref (hp.objs.size + 1) :: us) _ _ (fun _ _ _ => False) (hro.make (He.ga X.K "TooLong") us []) (I2.env0.make (He.ga X.K "TooLong") us []) (by have z := hb _ (Value.ref (hp.objs.size + 1) :: us) I2.kIn (by rw [List.append_nil]; exact hl); rw [List.append_nil] at z; exact z) r2 hq) fun r s' hq' => ?_))
  cases r with
  | error er => exact passN0 pins σ _ _ er s' I2 hq'
  | ok fl =>
    cases fl with
    | ret u =>
      obtain ⟨v, H2, os2, bare2, un2, hok2, rv, ev, d, fs, ea, ed, hd1, q2⟩ := hq'
      subst ev
      obtain ⟨h2, g2, d2, t2, os'⟩ := s'
      exact ⟨rv, mk_endN (raises_own T.oex.exC T.oex.tyC) I1 hsz kk un2 hok2 os2 bare2 ea ed hd1 q2⟩
    | next => exact False.elim hq'
    | brk => exact False.elim hq'
    | cont => exact False.elim hq'
theorem ps_rzT {X : Cx} {E : XK} {e : Expr} {ta : TE} {p pos pos' : Pos} {k : Nat} (T : TlK X.prog X.w X.K X.mg X.base) (hc : X.calm = true) (tk : L2N.Takes X (fun cls d _ H => E cls d H)) (hr : Room k X.A) (hk : 2 ≤ k) (hg : Gl X "TooLong") (he : PE X e ta)
    (hs : starEach [e] X.env = (false, eval e X.env) :: starEach [] X.env := by rfl) : PS X (.Raise (some (.Call (.Name "TooLong" p) [e] [] pos)) none pos') (tRzT (He.ga X.K "TooLong") ta E) := L2N.ps_raise hc tk (pmk_tl T hr hk hg he hs)
end
/-! ### isinstance(e, ValueError), e with its dict -/
theorem call_isD {X : Cx} {a : Addr} {cls : Value} {d : Option Addr} {oe : Obj} {pn : List (Addr × Obj)} (hz : L2N.Zn cls d oe) (hf : ∃ vs, oe.data = .fields vs) : CallR (X.suite a ((a, oe) :: pn)) (.builtin "isinstance") (rIsD X.K cls d a) := by
  intro pins s σ H xs us Q I r h
  obtain ⟨rfl, D, dd, fs, rfl, rfl, hdd, C, hk, q⟩ := h
  obtain ⟨u1, u2, rfl, r1, r2⟩ : ∃ u1 u2, us = [u1, u2] ∧ RelV (.ref a) u1 ∧ RelV (.ty "ValueError") u2 := by
    cases r with
    | cons rx rr => cases rr with
      | cons rt rr =>
        cases rr
        exact ⟨_, _, rfl, rx, rt⟩
  cases r1
  cases r2
  obtain ⟨hget, _⟩ := I.pin (a, oe) (List.mem_append.mpr (.inl List.mem_cons_self))
  obtain ⟨vs, hv⟩ := hf
  have hx : ObjOk X.prog X.w H s.heap dd (.xd fs) := I.hok dd _ hdd
  obtain ⟨mA, hns, _⟩ := hx
  obtain ⟨od, ho, _⟩ := lookIn_ns hns
  have J : PySem.W.InstAt s.heap a oe D (some od) := ⟨hget, hz.1, by unfold PySem.W.notCls; rw [hv] <;> rfl, by rw [hz.2.1]; exact ho⟩
  have hcl : (PySem.W.clsIn X.K D).isSome = true := by
    obtain ⟨cd, hc, _⟩ := PySem.W.any_some C.hd
    rw [hc]
    rfl
  exact PySem.W.kia_one (PySem.W.kitx_exc hcl C.hg C.hk C.hs C.ha C.hn C.ht C.hm) I.kIn J hk (fun z => nomatch z) fun tk => ⟨.bl true, H, I.kept (t' := tk) fun _ _ z => z, rfl, q⟩
/-! ### the head's facts: the statics too, and one def that has a cell -/
def asC (g : Addr → Option Obj) (n : Nat) : List Addr := cStatics :: He.asD g n
abbrev FnC : Type := Option (Str × Str × Arguments × FuncBody × Scope × Addr × List Str × Addr)
def fnC (K : PySem.W.Frag) (p : Str × Option Str) : FnC := match K.lookup (He.fAd K p) with
  | some ⟨_, _, .func fd, _⟩ => some (fd.name, fd.qualname, fd.params, fd.body, fd.scope, fd.globals, fd.closure.map (·.1), fd.builtins)
  | _ => none
structure DefC where
  at_ : Str × Option Str
  name : Str
  qual : Str
  params : Arguments
  body : List Stmt
  scope : Scope
def DefC.val (d : DefC) : FnC := some (d.name, d.qual, d.params, .stmts d.body, d.scope, mainGlobals, ["__class__"], builtinsNs)
abbrev AlC : Type := He.AlX × FnC
def obsC (n : Nat) (fa : List He.Fa) (fn : List He.DefD) (tf : List He.Defn) (ex : PySem.W.Frag → Bool) (dc : DefC) (g : Addr → Option Obj) : AlC := ((He.obsT fa fn [] (He.frT g (asC g n)), ex (He.frT g (asC g n)) && He.tabsB g tf (He.frT g (asC g n))), fnC (He.frT g (asC g n)) dc.at_)
theorem saysC_as {as : List Addr} {fa : List He.Fa} {fn : List He.DefD} {tf : List He.Defn} {ex : PySem.W.Frag → Bool} {w : World} {h : Heap} (e1 : He.obsT fa fn [] (He.frT h.get? as) = He.valT fn [] w) (e2 : (ex (He.frT h.get? as) && He.tabsB h.get? tf (He.frT h.get? as)) = true) : He.SaysX fa fn [] tf ex w h (He.frT h.get? as) := by
  have ⟨h1, h2⟩ := He.ba e2
  have key : ∀ p ∈ tf, PySem.W.codeHdIn (He.frT h.get? as) (He.cT (He.frT h.get? as) p).1 (He.cT (He.frT h.get? as) p).2 = true ∧ ∃ o, h.get? (He.cT (He.frT h.get? as) p).2 = some o ∧ He.emptyTab o = true := fun p hp => by
    have ⟨h3, h4⟩ := He.ba (List.all_eq_true.mp h2 p hp)
    cases z : h.get? (He.cT (He.frT h.get? as) p).2 with
    | none => rw [z] at h4; cases h4
    | some o => rw [z] at h4; exact ⟨h3, o, rfl, h4⟩
  exact ⟨e1, h1, fun p hp => (key p hp).1, fun p hp => have ⟨_, o, a, b⟩ := key p hp; He.frT_none a b, fun p hp => have ⟨_, o, a, b⟩ := key p hp; by rw [a, He.emptyTab_eq b]⟩
def SaysC (fa : List He.Fa) (fn : List He.DefD) (tf : List He.Defn) (ex : PySem.W.Frag → Bool) (dc : DefC) (w : World) (h : Heap) (K : PySem.W.Frag) : Prop := He.SaysX fa fn [] tf ex w h K ∧ fnC K dc.at_ = dc.val
def hookC (n : Nat) (fa : List He.Fa) (fn : List He.DefD) (tf : List He.Defn) (ex : PySem.W.Frag → Bool) (dc : DefC) : PySem.W.Hook where
  α := AlC
  obs := fun s => obsC n fa fn tf ex dc s.heap.get?
  val := fun w => (He.valX fn [] w, dc.val)
  says := fun w h => ∃ K : PySem.W.Frag, K.In h ∧ SaysC fa fn tf ex dc w h K
  of := fun _ _ e => ⟨_, He.frT_in, saysC_as (congrArg (fun z : AlC => z.1.1) e) (congrArg (fun z : AlC => z.1.2) e), congrArg (fun z : AlC => z.2) e⟩
  keeps := fun _ _ _ ⟨K, hK, c, c'⟩ k => ⟨K, PySem.W.Frag.In.keeps hK k, ⟨c.t, c.more, c.hd, c.out, fun p hp => k _ _ (c.empty p hp)⟩, c'⟩
theorem obsC_eq {n : Nat} {fa : List He.Fa} {fn : List He.DefD} {tf : List He.Defn} {ex : PySem.W.Frag → Bool} {dc : DefC} {g : Addr → Option Obj} {s : Shared} (h : ∀ a, g a = s.heap.get? a) : obsC n fa fn tf ex dc g = (hookC n fa fn tf ex dc).obs s := by
  rw [show g = s.heap.get? from funext h]
  rfl
/-! ### what is told of TooLong -/
def oexB (K : PySem.W.Frag) (C : Addr) : Bool := (match K.lookup C with
  | some ⟨.type t, _, .cls cd, sl⟩ => decide (t = "type") && (match cd.mro, sl.toList with
    | .ref C' :: bm, [_, _, _, _, some (.builtin n), _] => decide (C' = C) && (decide (n = "ValueError.__new__") && (!cd.hasDel && (cd.hasDict && PySem.HandSPX.refsVE bm)))
    | _, _ => false)
  | _ => false) && (He.eqO (PySem.W.findIn K (.ref C) "__setattr__") (some (some (.builtin "object.__setattr__"))) && (decide (PySem.W.subIn K (.ref C) (.type "BaseException") = some true) && (decide (PySem.W.typeIn K (.ref C) = some (.type "type")) && PySem.W.keepIn K (.ref C))))
theorem oexB_ok {K : PySem.W.Frag} {C : Addr} (h : oexB K C = true) : OexC K C := by
  have ⟨h1, h⟩ := He.ba h
  have ⟨h2, h⟩ := He.ba h
  have ⟨h3, h⟩ := He.ba h
  have ⟨h4, h5⟩ := He.ba h
  refine ⟨?_, He.eqO_ok h2, of_decide_eq_true h3, of_decide_eq_true h4, h5⟩
  split at h1
  · rename_i t dd cd sl ho
    have ⟨a1, h1⟩ := He.ba h1
    have a1 := of_decide_eq_true a1
    split at h1
    · rename_i C' bm k0 k1 k2 k3 n k5 hm hs
      have ⟨a2, h1⟩ := He.ba h1
      have ⟨a3, h1⟩ := He.ba h1
      have ⟨a4, h1⟩ := He.ba h1
      have ⟨a5, a6⟩ := He.ba h1
      have a2 := of_decide_eq_true a2
      have a3 := of_decide_eq_true a3
      obtain ⟨nm, bs, mro, ns, qn, hd, sn, sub, ab, col, del⟩ := cd
      obtain ⟨ls⟩ := sl
      dsimp only at hm hs a4 a5
      subst a1 a2 a3 hm hs a5
      have a4 : del = false := by simpa using a4
      subst a4
      exact ⟨nm, qn, ns, bs, bm, sn, sub, ab, col, dd, k0, k1, k2, k3, k5, ho, a6⟩
    · cases h1
  · cases h1
def tlFB (K : PySem.W.Frag) (p : Str × Option Str) (q : Str) (C : Addr) (file : Str) : Bool := match K.lookup (He.fAd K p) with
  | some ⟨_, _, .func fd, _⟩ => (match fd.code, fd.closure, fd.defaults with
    | .ref c, [(_, cc)], .none => PySem.W.codeIn K (.ref c) q && ((match K.lookup c with
      | some ⟨_, _, .fields vs, _⟩ => (match (vs[2]? : Option Value) with
        | some (.str f _) => decide (f = file)
        | _ => false)
      | _ => false) && (match K.lookup cc with
      | some ⟨_, _, .cell (some (.ref D)), _⟩ => decide (D = C)
      | _ => false))
    | _, _, _ => false)
  | _ => false
theorem tlFB_ok {K : PySem.W.Frag} {dc : DefC} {C : Addr} {file : Str} (e : fnC K dc.at_ = dc.val) (h : tlFB K dc.at_ dc.qual C file = true) : ∃ oc od osl kV doc pm an ct cc c,
    K.lookup (He.fAd K dc.at_) = some ⟨oc, od, .func (PySem.W.fnX dc.name dc.qual dc.params dc.body dc.scope [("__class__", cc)] .none kV doc pm an (.ref c) ct), osl⟩ ∧ PySem.W.codeIn K (.ref c) dc.qual = true ∧
    (∃ ccl cdd vs ccs tf, K.lookup c = some ⟨ccl, cdd, .fields vs, ccs⟩ ∧ vs[2]? = some (.str file tf)) ∧ (∃ cl cld csl, K.lookup cc = some ⟨cl, cld, .cell (some (.ref C)), csl⟩) := by
  unfold tlFB at h
  unfold fnC at e
  cases z : K.lookup (He.fAd K dc.at_) with
  | none => rw [z] at h; cases h
  | some o =>
    obtain ⟨oc, od, dt, osl⟩ := o
    rw [z] at h e
    cases dt with
    | func fd =>
      obtain ⟨n1, n2, n3, n4, n5, n6, n7, n8, n9, n10, n11, n12, n13, n14, n15⟩ := fd
      have e2 : (some (n1, n2, n3, n4, n5, n6, n7.map (·.1), n15) : FnC) = (some (dc.name, dc.qual, dc.params, FuncBody.stmts dc.body, dc.scope, mainGlobals, ["__class__"], builtinsNs) : FnC) := e
      simp only [Option.some.injEq, Prod.mk.injEq] at e2
      obtain ⟨h1, h2, h3, h4, h5, h6, h7, h8⟩ := e2
      subst h1 h2 h3 h4 h5 h6 h8
      dsimp only at h
      split at h
      · rename_i c nn cc
        have en : nn = "__class__" := (List.cons.inj h7).1
        subst en
        have ⟨a1, h⟩ := He.ba h
        have ⟨a2, a3⟩ := He.ba h
        refine ⟨oc, od, osl, n9, n10, n11, n12, n14, cc, c, rfl, a1, ?_, ?_⟩
        · split at a2
          · rename_i ccl cdd vs ccs hl
            split at a2
            · rename_i f tf hv
              rw [of_decide_eq_true a2] at hv
              exact ⟨_, _, vs, _, tf, hl, hv⟩
            · cases a2
          · cases a2
        · split at a3
          · rename_i cl cld D csl hl
            rw [of_decide_eq_true a3] at hl
            exact ⟨_, _, _, hl⟩
          · cases a3
      · cases h
    | _ => cases h
def tlXB (K : PySem.W.Frag) : Bool := oexB K (He.ga K "TooLong") && (He.eqO (PySem.W.findIn K (.ref (He.ga K "TooLong")) "most") (some none) && (He.eqO (PySem.W.nsIn K cStatics "thirdparty.any") (some none) && (He.eqO (PySem.W.ks_superIn K (He.ga K "TooLong") (He.ga K "TooLong") "__init__") (some (some (.builtin "ValueError.__init__"))) &&
  (decide (PySem.W.subIn K (.ref (He.ga K "TooLong")) (.type "ValueError") = some true) && (decide (PySem.W.mroIn K (He.ga K "TooLong") (.ref (He.ga K "TooLong")) = some true) && (He.eqO (PySem.W.findIn K (.ref (He.ga K "TooLong")) "__init__") (some (some (.ref (He.fAd K ("TooLong", some "__init__"))))) &&
  (decide (PySem.W.typeIn K (.ref (He.fAd K ("TooLong", some "__init__"))) = some (.type "function")) && xfB K (He.ga K "TooLong"))))))))
structure TlX (K : PySem.W.Frag) : Prop where
  oex : OexC K (He.ga K "TooLong")
  most : PySem.W.findIn K (.ref (He.ga K "TooLong")) "most" = some none
  opq : PySem.W.nsIn K cStatics "thirdparty.any" = some none
  sup : PySem.W.ks_superIn K (He.ga K "TooLong") (He.ga K "TooLong") "__init__" = some (some (.builtin "ValueError.__init__"))
  ve : PySem.W.subIn K (.ref (He.ga K "TooLong")) (.type "ValueError") = some true
  mro : PySem.W.mroIn K (He.ga K "TooLong") (.ref (He.ga K "TooLong")) = some true
  ini : PySem.W.findIn K (.ref (He.ga K "TooLong")) "__init__" = some (some (.ref (He.fAd K ("TooLong", some "__init__"))))
  tyI : PySem.W.typeIn K (.ref (He.fAd K ("TooLong", some "__init__"))) = some (.type "function")
  xf : XfC K (He.ga K "TooLong")
theorem tlXB_ok {K : PySem.W.Frag} (h : tlXB K = true) : TlX K := by
  have ⟨h1, h⟩ := He.ba h
  have ⟨h2, h⟩ := He.ba h
  have ⟨h3, h⟩ := He.ba h
  have ⟨h4, h⟩ := He.ba h
  have ⟨h5, h⟩ := He.ba h
  have ⟨h6, h⟩ := He.ba h
  have ⟨h7, h⟩ := He.ba h
  have ⟨h8, h9⟩ := He.ba h
  exact ⟨oexB_ok h1, He.eqO_ok h2, He.eqO_ok h3, He.eqO_ok h4, of_decide_eq_true h5, of_decide_eq_true h6, He.eqO_ok h7, of_decide_eq_true h8, xfB_ok h9⟩
/-- a def as a value -/
theorem OwnC.door {P : Program} {w : World} {K : PySem.W.Frag} {mg : Str → Option Value} {base : Heap} {CX : CXT} {k : Nat} {x : Str} {ps : List Str} {sp : Sp} (O : OwnC P w K mg base CX k x ps sp) (g : mg x = some (.ref (He.ga K x))) (j : Nat) (h : k ≤ j) : FnR P w K mg base CX j (He.ga K x) sp ∧ PySem.W.keepIn K (.ref (He.ga K x)) = true := by
  have ⟨f, fd, F, hm, kp, hb⟩ := O.ex
  have e : f = He.ga K x := Value.ref.inj (Option.some.inj (hm.symm.trans g))
  subst e
  exact ⟨((F.raw hb .nil).imp fun vs H Q E q => by rw [List.append_nil]; exact q).mono h, kp⟩
/-! ### what TooLong says; an instance is made -/
theorem tl_say {σ : L2.St} {H : Hp} {Q : VK} {i : Int} (h1 : σ[1]? = some (some (.int i))) (b0 : 0 ≤ i) (b1 : i ≤ 100) (q : ∀ z, Q (.str z) H) : tJoin [(tC (.str (Str.ofString "the path has more than "))), (tFmt (tVar 1)), (tC (.str (Str.ofString " places")))] σ H Q := by
  have hlen := int_len (i := i) b0 (by omega)
  refine ⟨_, rfl, by decide +kernel, _, h1, .inr ⟨_, rfl, int_log b0 (by omega), _, rfl, ?_, _, rfl, ?_, q _⟩⟩
  · rw [Str.length_append]
    refine Nat.le_trans (Nat.add_le_add (Nat.le_refl _) hlen) (by decide +kernel)
  · rw [Str.length_append, Str.length_append]
    refine Nat.le_trans (Nat.add_le_add (Nat.add_le_add (Nat.le_refl _) hlen) (Nat.le_refl _)) (by decide +kernel)
theorem mk_ex {H : Hp} {C x dx : Addr} (nx : H x = none) (ndx : H dx = none) : Ex H (upd (upd H dx (.own x)) x (.ins C dx [])) := fun c oc hc => by
  rw [upd_ne (ne_of_none hc nx), upd_ne (ne_of_none hc ndx)]
  exact hc
open LamX in
def sp_law (K : PySem.W.Frag) (T : List (Addr × Str)) : Sp := fun vs H Q _ => ∃ (a : Addr) (ns : List Int), vs = [.ref a] ∧ SqL K H a (ns.map V.int) ∧ ns.length ≤ 63 ∧ Tabs T H ∧ ∀ H', Q (.bl true) H'
abbrev N_law : List Str := ["script", "bag", "length", "stands", "none", "bads", "bad", "words", "door", "rows", "some"]
def t_law (K : PySem.W.Frag) (P : Program) (w : World) (mg : Str → Option Value) (base : Heap) (T : List (Addr × Str)) (qL : Str) (prL : Arguments) (boL : Expr) (scL : Scope) (prL1 : Arguments) (boL1 : Expr) (scL1 : Scope) (prL2 : Arguments) (boL2 : Expr) (scL2 : Scope) (prL3 : Arguments) (boL3 : Expr) (scL3 : Scope) : TS := (tSeq (tFor (iList K (tCall (sp__law_bags K) [] E0 (tCons (tVar 0) (tCons (tC (.int 6)) tNil)))) (gName 1) (tSeq (tAsg (tOp (rI0 fun i j => .int (i + j)) (tC (.int 1)) (tCall (sp__law_take K) [] E0 (tCons (tVar 1) (tCons (tC (.int 60)) tNil)))) (gName 2))
  (tSeq (tAsg (tCall (sp__law_some_stands K) [] E0 (tCons (tVar 1) (tCons (tVar 2) (tCons (tC (.int 40)) tNil)))) (gName 3))
  (tSeq (tAsg (tOp (rIxL K) (tLst (tCons (tC .non) (tCons (tC (.int 0)) (tCons (tC (.int 61)) (tCons (tC (.bl true)) (tCons (tC (.str (Str.ofString "7"))) (tCons (tTup (tCons (tC (.int 7)) tNil)) (tCons (tUn (rU fun i => .int (-i)) (tC (.int 1))) tNil)))))))) (tCall (sp__law_take K) [] E0 (tCons (tVar 1) (tCons (tC (.int 7)) tNil)))) (gName 4))
  (tSeq (tAsg (tLst (tCons (tC .non) (tCons (tCB (rTupleOf K) (tCons (tVar 3) tNil)) (tCons (tLst (tCons (tC (.int 0)) tNil)) (tCons (tLst (tCons (tOp (rI0 fun i j => .int (i + j)) (tVar 2) (tC (.int 1))) tNil)) (tCons (tLst (tCons (tC (.bl true)) tNil)) (tCons (tLst (tCons (tC .non) tNil)) (tCons (tC (.str (Str.ofString "1"))) (tCons (tOp rRep (tLst (tCons (tC (.int 1)) tNil)) (tC (.int 41))) tNil))))))))) (gName 5))
  (tSeq (tAsg (tOp (rIxL K) (tVar 5) (tCall (sp__law_take K) [] E0 (tCons (tVar 1) (tCons (tC (.int 8)) tNil)))) (gName 6))
  (tSeq (tAsg (tOp rRep (tLst (tCons (tC (.str (Str.ofString "same"))) tNil)) (tCB rMax2 (tCons (tC (.int 0)) (tCons (tOp (rI0 fun i j => .int (i - j)) (tCB (rLenQ K) (tCons (tVar 3) tNil)) (tC (.int 1))) tNil)))) (gName 7))
  (tSeq (tFor (iTup K (tTup (tCons (tC (.ref (He.ga K "fewest_ahead"))) (tCons (tC (.ref (He.ga K "stands_ahead"))) tNil)))) (gName 8) (tIfS (tTest (tOp (rNeD K) (tCall (sp__law_refused K P w mg base) [] E0 (tCons (tLamb T qL prL boL scL) (tCons (tVar 8) (tCons (tVar 4) (tCons (tC (.int 0)) tNil))))) (tLst (tCons (tC (.str (Str.ofString "NoLength"))) (tCons (tC (.bl true)) tNil))))) (tRet (tC (.bl false))) tNext))
  (tSeq (tIfS (tTest (tOp (rNeD K) (tCall (sp__law_refused K P w mg base) [] E0 (tCons (tLamb T qL prL1 boL1 scL1) (tCons (tVar 4) (tCons (tC (.int 0)) (tCons (tC (.int 0)) tNil))))) (tLst (tCons (tC (.str (Str.ofString "NoLength"))) (tCons (tC (.bl true)) tNil))))) (tRet (tC (.bl false))) tNext)
  (tSeq (tFor (iTup K (tTup (tCons (tC (.ref (He.ga K "how_many"))) (tCons (tC (.ref (He.ga K "alike"))) (tCons (tC (.ref (He.ga K "how_many_round"))) tNil))))) (gName 8) (tSeq (tIfS (tTest (tOp (rNeD K) (tCall (sp__law_refused K P w mg base) [] E0 (tCons (tLamb T qL prL2 boL2 scL2) (tCons (tVar 8) (tCons (tVar 4) (tCons (tC .non) tNil))))) (tLst (tCons (tC (.str (Str.ofString "NoLength"))) (tCons (tC (.bl true)) tNil))))) (tRet (tC (.bl false))) tNext)
  (tIfS (tTest (tOp (rNeD K) (tCall (sp__law_refused K P w mg base) [] E0 (tCons (tLamb T qL prL3 boL3 scL3) (tCons (tVar 8) (tCons (tVar 2) (tCons (tVar 6) tNil))))) (tLst (tCons (tC (.str (Str.ofString "NoStands"))) (tCons (tC (.bl true)) tNil))))) (tRet (tC (.bl false))) tNext)))
  (tSeq (tFor (iTup K (tTup (tCons (tC (.ref (He.ga K "can_lie"))) (tCons (tC (.ref (He.ga K "fewest_wrong"))) (tCons (tC (.ref (He.ga K "can_lie_round"))) tNil))))) (gName 8) (tSeq (tIfS (tTest (tOp (rNeD K) (tCall (sp__law_refused K P w mg base) [] E0 (tCons (tVar 8) (tCons (tVar 4) (tCons (tC .non) (tCons (tC .non) tNil))))) (tLst (tCons (tC (.str (Str.ofString "NoLength"))) (tCons (tC (.bl true)) tNil))))) (tRet (tC (.bl false))) tNext)
  (tSeq (tIfS (tTest (tOp (rNeD K) (tCall (sp__law_refused K P w mg base) [] E0 (tCons (tVar 8) (tCons (tVar 2) (tCons (tVar 6) (tCons (tC .non) tNil))))) (tLst (tCons (tC (.str (Str.ofString "NoStands"))) (tCons (tC (.bl true)) tNil))))) (tRet (tC (.bl false))) tNext)
  (tSeq (tAsg (tLst (tCons (tC .non) (tCons (tCB (rTupleOf K) (tCons (tVar 7) tNil)) (tCons (tOp rCat (tVar 7) (tLst (tCons (tC (.str (Str.ofString "warm"))) tNil))) (tCons (tIf (tTest (tOp (rNeD K) (tVar 7) (tLst tNil))) (tOp rCat (tSl (rSlL K) (tVar 7) (tPart (tC (.int 1))) tNoPart) (tLst (tCons (tC .non) tNil))) (tLst (tCons (tC (.str (Str.ofString "warm"))) tNil))) tNil))))) (gName 9))
  (tSeq (tFor (iList K (tVar 9)) (gName 10) (tIfS (tTest (tOp (rNeD K) (tCall (sp__law_refused K P w mg base) [] E0 (tCons (tVar 8) (tCons (tVar 2) (tCons (tVar 3) (tCons (tVar 10) tNil))))) (tLst (tCons (tC (.str (Str.ofString "NoAnswers"))) (tCons (tC (.bl true)) tNil))))) (tRet (tC (.bl false))) tNext))
  (tIfS (tTest (tOp (rNeD K) (tCall (sp__law_refused K P w mg base) [] E0 (tCons (tVar 8) (tCons (tVar 2) (tCons (tVar 3) (tCons (tVar 7) tNil))))) (tLst tNil))) (tRet (tC (.bl false))) tNext))))))
  (tSeq (tIfS (tNot (tB (tCall (sp__law_things_refused K P w mg base) [] E0 (tCons (tVar 2) (tCons (tVar 4) (tCons (tVar 6) tNil)))))) (tRet (tC (.bl false))) tNext)
  (tIfS (tNot (tB (tCall (sp__law_short_refused K P w mg base T) [] E0 (tCons (tVar 2) (tCons (tVar 4) tNil))))) (tRet (tC (.bl false))) tNext)))))))))))))
  (tRet (tC (.bl true))))
section
open LamX
variable {K : PySem.W.Frag} {P : Program} {w : World} {mg : Str → Option Value} {base : Heap} {T : List (Addr × Str)} {bs : List Addr} {H : Hp} {σ : L2.St} {Q : VK}
/-! ### the promises of the lambdas -/
def spL1 (P : Program) (w : World) (K : PySem.W.Frag) (mg : Str → Option Value) (base : Heap) : Sp := fun vs H Q E => ∃ (f : Addr) (b c : V) (sf : Sp), vs = [.ref f, b, c] ∧ FnR P w K mg base (L2N.CX P w) 98 f sf ∧ PySem.W.keepIn K (.ref f) = true ∧ sf [b] H Q E
def spL2 (P : Program) (w : World) (K : PySem.W.Frag) (mg : Str → Option Value) (base : Heap) : Sp := fun vs H Q E => ∃ (f : Addr) (b c : V) (sf : Sp), vs = [.ref f, b, c] ∧ FnR P w K mg base (L2N.CX P w) 98 f sf ∧ PySem.W.keepIn K (.ref f) = true ∧ sf [b, c] H Q E
def spLS (K : PySem.W.Frag) : Sp := fun vs H _ E => ∃ a b c : V, vs = [a, b, c] ∧ SmA H a ∧ isPl a 60 = false ∧ ∀ H', Ex H H' → E (.ref (He.ga K "NoLength")) none H'
/-! ### what is drawn -/
/-- no length: a plain thing, or a tuple -/
def No (H : Hp) (v : V) : Prop := (Sm v ∨ ∃ a xs, v = .ref a ∧ H a = some (.tup xs)) ∧ isPl v 60 = false
theorem No.sm {H : Hp} {v : V} (h : No H v) : SmA H v := by
  rcases h.1 with z | ⟨a, xs, rfl, z⟩
  · exact .sm z
  · exact .tup z
theorem tup_kp {H' : Hp} {a : Addr} {xs : List V} (B : Bags bs H) (k : Kp bs H H') (h : H a = some (.tup xs)) : H' a = some (.tup xs) := k _ _ (fun z => by
  obtain ⟨d, c, ds, h1, _⟩ := B a z
  rw [h] at h1
  cases h1) h
theorem sms_no {xs : List V} (h : ∀ x ∈ xs, Sm x) (d : Addr) (c : Int) : xs ≠ [.ref d, .int c] := fun z => by
  have := h (.ref d) (by rw [z]; exact List.mem_cons_self)
  cases this
theorem No.kp {H' : Hp} {v : V} (B : Bags bs H) (k : Kp bs H H') (h : No H v) : No H' v := by
  refine ⟨?_, h.2⟩
  rcases h.1 with z | ⟨a, xs, rfl, z⟩
  · exact .inl z
  · exact .inr ⟨a, xs, rfl, tup_kp B k z⟩
theorem BadSt.kp {H' : Hp} {v : V} {l : Int} (B : Bags bs H) (k : Kp bs H H') (h : BadSt H v l) : BadSt H' v l := by
  rcases h with (h | ⟨a, xs, rfl, h⟩) | ⟨a, xs, rfl, h, r⟩
  · exact .inl (.inl h)
  · exact .inl (.inr ⟨a, xs, rfl, tup_kp B k h⟩)
  · exact .inr ⟨a, xs, rfl, k _ _ (bag_not B h (sms_no r.1)) h, r⟩
theorem No.ex {H' : Hp} {v : V} (h : No H v) (e : Ex H H') : No H' v := by
  refine ⟨?_, h.2⟩
  rcases h.1 with z | ⟨a, xs, rfl, z⟩
  · exact .inl z
  · exact .inr ⟨a, xs, rfl, e _ _ z⟩
theorem none_l {b : Addr} (h1 : σ[1]? = some (some (.ref b))) (hb : b ∈ bs) (B : Bags bs H) (q : ∀ v H', Kp bs H H' → Bags bs H' → No H' v → Q v H') :
    (tOp (rIxL K) (tLst (tCons (tC .non) (tCons (tC (.int 0)) (tCons (tC (.int 61)) (tCons (tC (.bl true)) (tCons (tC (.str (Str.ofString "7"))) (tCons (tTup (tCons (tC (.int 7)) tNil)) (tCons (tUn (rU fun i => .int (-i)) (tC (.int 1))) tNil)))))))) (tCall (sp__law_take K) [] E0 (tCons (tVar 1) (tCons (tC (.int 7)) tNil)))) σ H Q := by
  refine ⟨by show 1 ≤ sizeLine; decide, fun t nt => ⟨1, rfl, by show 7 ≤ sizeLine; decide, fun m nm => ?_⟩⟩
  have e1 := Ex.new (o := .tup [.int 7]) nt
  have g1 : (upd H t (.tup [.int 7])) t = some (.tup [.int 7]) := upd_same
  generalize upd H t (.tup [.int 7]) = H1 at *
  have e2 := Ex.new (o := .lst [.non, .int 0, .int 61, .bl true, .str (Str.ofString "7"), .ref t, .int (-1)]) nm
  have g2 : (upd H1 m (.lst [.non, .int 0, .int 61, .bl true, .str (Str.ofString "7"), .ref t, .int (-1)])) m = some (.lst [.non, .int 0, .int 61, .bl true, .str (Str.ofString "7"), .ref t, .int (-1)]) := upd_same
  generalize upd H1 m (.lst [.non, .int 0, .int 61, .bl true, .str (Str.ofString "7"), .ref t, .int (-1)]) = H2 at *
  have B2 := (B.ex e1).ex e2
  refine ⟨_, h1, bs, b, 7, rfl, hb, B2, by decide, fun r H3 hr0 hr1 k3 B3 => ?_⟩
  have g3 := k3 _ _ (bag_not B2 g2 (fun d c z => by cases (List.cons.inj z).1)) g2
  have gt := tup_kp B2 k3 (e2 _ _ g1)
  have kk : Kp bs H H3 := ((Kp.ex e1).trans (Kp.ex e2)).trans k3
  have hr : r = 0 ∨ r = 1 ∨ r = 2 ∨ r = 3 ∨ r = 4 ∨ r = 5 ∨ r = 6 := by omega
  rcases hr with rfl | rfl | rfl | rfl | rfl | rfl | rfl
  · exact ⟨m, _, _, .non, rfl, rfl, SqL.of g3, rfl, q _ H3 kk B3 ⟨.inl .non, rfl⟩⟩
  · exact ⟨m, _, _, .int 0, rfl, rfl, SqL.of g3, rfl, q _ H3 kk B3 ⟨.inl (.int _), by decide⟩⟩
  · exact ⟨m, _, _, .int 61, rfl, rfl, SqL.of g3, rfl, q _ H3 kk B3 ⟨.inl (.int _), by decide⟩⟩
  · exact ⟨m, _, _, .bl true, rfl, rfl, SqL.of g3, rfl, q _ H3 kk B3 ⟨.inl (.bl _), rfl⟩⟩
  · exact ⟨m, _, _, .str (Str.ofString "7"), rfl, rfl, SqL.of g3, rfl, q _ H3 kk B3 ⟨.inl (.str _), rfl⟩⟩
  · exact ⟨m, _, _, .ref t, rfl, rfl, SqL.of g3, rfl, q _ H3 kk B3 ⟨.inr ⟨t, _, rfl, gt⟩, rfl⟩⟩
  · exact ⟨m, _, _, .int (-1), rfl, rfl, SqL.of g3, rfl, q _ H3 kk B3 ⟨.inl (.int _), by decide⟩⟩
theorem one_bad {a : Addr} {x : V} {l : Int} (h : H a = some (.lst [x])) (s : Sm x) (b : isPl x l = false) : BadSt H (.ref a) l :=
  .inr ⟨a, _, rfl, h, fun y hy => by rw [List.mem_singleton.mp hy]; exact s, by show 1 ≤ 1000; decide, .inr (by show (isPl x l && true) = false; rw [b]; rfl)⟩
theorem rep41 : (List.replicate (41 : Int).toNat [V.int 1]).flatten = List.replicate 41 (V.int 1) := by decide +kernel
theorem bads_l {l : Int} {s : Addr} {st : List Int} (h2 : σ[2]? = some (some (.int l))) (h3 : σ[3]? = some (some (.ref s))) (hs : H s = some (.lst (st.map V.int))) (q : ∀ u xs H', Ex H H' → H' u = some (.lst xs) → xs.length = 8 → (∀ x ∈ xs, BadSt H' x l) → Q (.ref u) H') :
    (tLst (tCons (tC .non) (tCons (tCB (rTupleOf K) (tCons (tVar 3) tNil)) (tCons (tLst (tCons (tC (.int 0)) tNil)) (tCons (tLst (tCons (tOp (rI0 fun i j => .int (i + j)) (tVar 2) (tC (.int 1))) tNil)) (tCons (tLst (tCons (tC (.bl true)) tNil)) (tCons (tLst (tCons (tC .non) tNil)) (tCons (tC (.str (Str.ofString "1"))) (tCons (tOp rRep (tLst (tCons (tC (.int 1)) tNil)) (tC (.int 41))) tNil))))))))) σ H Q := by
  refine ⟨_, h3, s, _, rfl, .inl ⟨SqL.of hs, fun a1 n1 => ⟨by show 1 ≤ sizeLine; decide, fun a2 n2 => ⟨_, h2, l, 1, rfl, rfl, by show 1 ≤ sizeLine; decide, fun a3 n3 => ⟨by show 1 ≤ sizeLine; decide, fun a4 n4 => ⟨by show 1 ≤ sizeLine; decide, fun a5 n5 => ⟨by show 1 ≤ sizeLine; decide, fun a6 n6 => ⟨a6, 41, _, rfl, rfl, upd_same, by decide, by decide, by show 1 * 41 ≤ sizeLine; decide, fun a7 n7 => ⟨by show 8 ≤ sizeLine; decide, fun u nu => ?_⟩⟩⟩⟩⟩⟩⟩⟩⟩
  rw [rep41] at nu ⊢
  have e1 := Ex.new (o := .tup (st.map V.int)) n1
  have g1 : (upd H a1 (.tup (st.map V.int))) a1 = some (.tup (st.map V.int)) := upd_same
  generalize upd H a1 (.tup (st.map V.int)) = H1 at *
  have e2 := Ex.new (o := .lst [.int 0]) n2
  have g2 : (upd H1 a2 (.lst [.int 0])) a2 = some (.lst [.int 0]) := upd_same
  generalize upd H1 a2 (.lst [.int 0]) = H2 at *
  have e3 := Ex.new (o := .lst [.int (l + 1)]) n3
  have g3 : (upd H2 a3 (.lst [.int (l + 1)])) a3 = some (.lst [.int (l + 1)]) := upd_same
  generalize upd H2 a3 (.lst [.int (l + 1)]) = H3 at *
  have e4 := Ex.new (o := .lst [.bl true]) n4
  have g4 : (upd H3 a4 (.lst [.bl true])) a4 = some (.lst [.bl true]) := upd_same
  generalize upd H3 a4 (.lst [.bl true]) = H4 at *
  have e5 := Ex.new (o := .lst [.non]) n5
  have g5 : (upd H4 a5 (.lst [.non])) a5 = some (.lst [.non]) := upd_same
  generalize upd H4 a5 (.lst [.non]) = H5 at *
  have e6 := Ex.new (o := .lst [.int 1]) n6
  generalize upd H5 a6 (.lst [.int 1]) = H6 at *
  have e7 := Ex.new (o := .lst (List.replicate 41 (.int 1))) n7
  have g7 : (upd H6 a7 (.lst (List.replicate 41 (.int 1)))) a7 = some (.lst (List.replicate 41 (.int 1))) := upd_same
  generalize upd H6 a7 (.lst (List.replicate 41 (.int 1))) = H7 at *
  have e8 := Ex.new (o := .lst [.non, .ref a1, .ref a2, .ref a3, .ref a4, .ref a5, .str (Str.ofString "1"), .ref a7]) nu
  refine q u _ _ (((((((e1.trans e2).trans e3).trans e4).trans e5).trans e6).trans e7).trans e8) upd_same rfl fun x hx => ?_
  simp only [List.mem_cons, List.not_mem_nil, or_false] at hx
  rcases hx with rfl | rfl | rfl | rfl | rfl | rfl | rfl | rfl
  · exact .inl (.inl .non)
  · exact .inl (.inr ⟨a1, _, rfl, e8 _ _ (e7 _ _ (e6 _ _ (e5 _ _ (e4 _ _ (e3 _ _ (e2 _ _ g1))))))⟩)
  · exact one_bad (e8 _ _ (e7 _ _ (e6 _ _ (e5 _ _ (e4 _ _ (e3 _ _ g2)))))) (.int _) (decide_eq_false (show ¬ ((1 : Int) ≤ 0 ∧ (0 : Int) ≤ l) by omega))
  · exact one_bad (e8 _ _ (e7 _ _ (e6 _ _ (e5 _ _ (e4 _ _ g3))))) (.int _) (decide_eq_false (show ¬ ((1 : Int) ≤ l + 1 ∧ l + 1 ≤ l) by omega))
  · exact one_bad (e8 _ _ (e7 _ _ (e6 _ _ (e5 _ _ g4)))) (.bl _) rfl
  · exact one_bad (e8 _ _ (e7 _ _ (e6 _ _ g5))) .non rfl
  · exact .inl (.inl (.str _))
  · refine .inr ⟨a7, _, rfl, e8 _ _ g7, fun y hy => ?_, by rw [List.length_replicate]; decide, .inl (by rw [List.length_replicate]; decide)⟩
    rw [(List.mem_replicate.mp hy).2]
    exact .int _
theorem words_l {s : Addr} {st : List Int} (h3 : σ[3]? = some (some (.ref s))) (hs : H s = some (.lst (st.map V.int))) (hl : st.length ≤ 40) (q : ∀ wd H', Ex H H' → H' wd = some (.lst ((List.replicate (st.length - 1) Wo.same).map vW)) → Q (.ref wd) H') :
    (tOp rRep (tLst (tCons (tC (.str (Str.ofString "same"))) tNil)) (tCB rMax2 (tCons (tC (.int 0)) (tCons (tOp (rI0 fun i j => .int (i - j)) (tCB (rLenQ K) (tCons (tVar 3) tNil)) (tC (.int 1))) tNil)))) σ H Q := by
  refine ⟨by show 1 ≤ sizeLine; decide, fun m nm => ⟨_, h3, s, _, rfl, .inl (SqL.of ((Ex.new nm) _ _ hs)), _, 1, rfl, rfl, 0, _, rfl, m, _, _, rfl, rfl, upd_same, ?_⟩⟩
  rw [List.length_map]
  have ek : (if ((st.length : Nat) : Int) - 1 > 0 then ((st.length : Nat) : Int) - 1 else 0) = ((st.length - 1 : Nat) : Int) := by
    split <;> omega
  rw [ek, Int.toNat_natCast]
  refine ⟨by omega, by omega, by show 1 * (st.length - 1) ≤ sizeLine; exact Nat.le_trans (show 1 * (st.length - 1) ≤ 40 by omega) (by decide), fun wd nw => ?_⟩
  refine q wd _ ((Ex.new nm).trans (Ex.new nw)) ?_
  rw [upd_same]
  have : ∀ n : Nat, (List.replicate n [V.str (Str.ofString "same")]).flatten = (List.replicate n Wo.same).map vW := fun n => by
    induction n with
    | zero => rfl
    | succ n ih =>
      rw [List.replicate_succ, List.replicate_succ, List.flatten_cons, ih]
      rfl
  rw [this]
theorem same_sm (n : Nat) : ∀ x ∈ (List.replicate n Wo.same).map vW, Sm x := fun x hx => by
  obtain ⟨y, _, rfl⟩ := List.mem_map.mp hx
  exact .str _
theorem smalls {n m : Nat} (h : n ≤ 40) (hm : m ≤ 40) : n + m ≤ sizeLine := Nat.le_trans (show n + m ≤ 80 by omega) (by decide)
theorem rows_l {wd : Addr} {n : Nat} (h7 : σ[7]? = some (some (.ref wd))) (hw : H wd = some (.lst ((List.replicate n Wo.same).map vW))) (hn : n ≤ 39) (q : ∀ u xs H', Ex H H' → H' u = some (.lst xs) → (∀ x ∈ xs, BadAn H' x n) → Q (.ref u) H') :
    (tLst (tCons (tC .non) (tCons (tCB (rTupleOf K) (tCons (tVar 7) tNil)) (tCons (tOp rCat (tVar 7) (tLst (tCons (tC (.str (Str.ofString "warm"))) tNil))) (tCons (tIf (tTest (tOp (rNeD K) (tVar 7) (tLst tNil))) (tOp rCat (tSl (rSlL K) (tVar 7) (tPart (tC (.int 1))) tNoPart) (tLst (tCons (tC .non) tNil))) (tLst (tCons (tC (.str (Str.ofString "warm"))) tNil))) tNil))))) σ H Q := by
  refine ⟨_, h7, wd, _, rfl, .inl ⟨SqL.of hw, fun a1 n1 => ⟨_, h7, by show 1 ≤ sizeLine; decide, fun a2 n2 => ?_⟩⟩⟩
  have e1 := Ex.new (o := .tup ((List.replicate n Wo.same).map vW)) n1
  have g1 : (upd H a1 (.tup ((List.replicate n Wo.same).map vW))) a1 = some (.tup ((List.replicate n Wo.same).map vW)) := upd_same
  generalize upd H a1 (.tup ((List.replicate n Wo.same).map vW)) = H1 at *
  have e2 := Ex.new (o := .lst [.str (Str.ofString "warm")]) n2
  have g2 : (upd H1 a2 (.lst [.str (Str.ofString "warm")])) a2 = some (.lst [.str (Str.ofString "warm")]) := upd_same
  generalize upd H1 a2 (.lst [.str (Str.ofString "warm")]) = H2 at *
  have hw2 := e2 _ _ (e1 _ _ hw)
  have ln : ((List.replicate n Wo.same).map vW).length = n := by rw [List.length_map, List.length_replicate]
  refine ⟨wd, a2, _, _, rfl, rfl, hw2, g2, by rw [ln]; exact smalls (by omega) (show 1 ≤ 40 by decide), fun a3 n3 => ?_⟩
  have e3 := Ex.new (o := .lst ((List.replicate n Wo.same).map vW ++ [.str (Str.ofString "warm")])) n3
  have g3 : (upd H2 a3 (.lst ((List.replicate n Wo.same).map vW ++ [.str (Str.ofString "warm")]))) a3 = some (.lst ((List.replicate n Wo.same).map vW ++ [.str (Str.ofString "warm")])) := upd_same
  generalize upd H2 a3 (.lst ((List.replicate n Wo.same).map vW ++ [.str (Str.ofString "warm")])) = H3 at *
  have hw3 := e3 _ _ hw2
  refine ⟨_, h7, Nat.zero_le _, fun a4 n4 => ?_⟩
  have e4 := Ex.new (o := .lst []) n4
  have g4 : (upd H3 a4 (.lst [])) a4 = some (.lst (([] : List Wo).map vW)) := upd_same
  generalize upd H3 a4 (.lst []) = H4 at *
  have hw4 := e4 _ _ hw3
  refine neWW (SqL.of hw4) (SqL.of g4) ⟨_, rfl, ?_⟩
  have b1 : BadAn H2 (.ref a1) n := .inl (.inr ⟨a1, _, rfl, e2 _ _ g1⟩)
  have b3 : BadAn H3 (.ref a3) n := .inr ⟨a3, _, rfl, g3, fun x hx => by
    rcases List.mem_append.mp hx with z | z
    · exact same_sm n x z
    · rw [List.mem_singleton.mp z]
      exact .str _, by rw [List.length_append, ln]; show n + 1 ≤ 1000; omega, .inl (by rw [List.length_append, ln]; show n + 1 ≠ n; omega)⟩
  have fin : ∀ a5 H5, Ex H4 H5 → BadAn H5 (.ref a5) n → ([V.non, .ref a1, .ref a3, .ref a5].length ≤ sizeLine ∧ ∀ p, H5 p = none → Q (.ref p) (upd H5 p (.lst [.non, .ref a1, .ref a3, .ref a5]))) := fun a5 H5 e5 b5 => by
    refine ⟨by show 4 ≤ sizeLine; decide, fun u nu => ?_⟩
    have e6 := Ex.new (o := .lst [.non, .ref a1, .ref a3, .ref a5]) nu
    refine q u _ _ (((((e1.trans e2).trans e3).trans e4).trans e5).trans e6) upd_same fun x hx => ?_
    simp only [List.mem_cons, List.not_mem_nil, or_false] at hx
    rcases hx with rfl | rfl | rfl | rfl
    · exact .inl (.inl .non)
    · exact b1.ex (((e3.trans e4).trans e5).trans e6)
    · exact b3.ex ((e4.trans e5).trans e6)
    · exact b5.ex e6
  by_cases hz : n = 0
  · subst hz
    refine iteF ⟨by show 1 ≤ sizeLine; decide, fun a5 n5 => ?_⟩
    exact fin a5 _ (Ex.new n5) (.inr ⟨a5, _, rfl, upd_same, fun x hx => by rw [List.mem_singleton.mp hx]; exact .str _, by show 1 ≤ 1000; decide, .inl (by show 1 ≠ 0; decide)⟩)
  · have ht : (!decide (List.replicate n Wo.same = [])) = true := by
      rw [decide_eq_false (fun z => hz (by have := congrArg List.length z; rw [List.length_replicate] at this; exact this))]
      rfl
    rw [ht]
    refine iteT ⟨_, h7, 1, rfl, wd, _, rfl, SqL.of hw4, fun a5 n5 => ?_⟩
    rw [cut1]
    have e5 := Ex.new (o := .lst (((List.replicate n Wo.same).map vW).drop 1)) n5
    have g5 : (upd H4 a5 (.lst (((List.replicate n Wo.same).map vW).drop 1))) a5 = some (.lst (((List.replicate n Wo.same).map vW).drop 1)) := upd_same
    generalize upd H4 a5 (.lst (((List.replicate n Wo.same).map vW).drop 1)) = H5 at *
    refine ⟨by show 1 ≤ sizeLine; decide, fun a6 n6 => ?_⟩
    have e6 := Ex.new (o := .lst [.non]) n6
    have g6 : (upd H5 a6 (.lst [.non])) a6 = some (.lst [.non]) := upd_same
    generalize upd H5 a6 (.lst [.non]) = H6 at *
    have ld : (((List.replicate n Wo.same).map vW).drop 1).length = n - 1 := by rw [List.length_drop, ln]
    refine ⟨a5, a6, _, _, rfl, rfl, e6 _ _ g5, g6, by rw [ld]; exact smalls (by omega) (show 1 ≤ 40 by decide), fun a7 n7 => ?_⟩
    refine fin a7 _ ((e5.trans e6).trans (Ex.new n7)) (.inr ⟨a7, _, rfl, upd_same, fun x hx => ?_, by rw [List.length_append, ld]; show n - 1 + 1 ≤ 1000; omega, .inr ?_⟩)
    · rcases List.mem_append.mp hx with z | z
      · exact same_sm n x (List.mem_of_mem_drop z)
      · rw [List.mem_singleton.mp z]
        exact .non
    · rw [List.all_append]
      show (_ && (isW .non && true)) = false
      rw [Bool.and_comm]
      rfl
/-! ### a turn -/
structure Tn (T : List (Addr × Str)) (bs : List Addr) (L0 : Addr) (l : Int) (s : Addr) (st : List Int) (no bad : V) (wd : Addr) (H : Hp) : Prop where
  bag : Bags bs H
  tb : Tabs T H
  hL : H L0 = some (.lst (bs.map V.ref))
  l1 : 1 ≤ l
  l6 : l ≤ 60
  hs : H s = some (.lst (st.map V.int))
  sl : st.length ≤ 40
  pl : Places l st
  sn : SmA H no
  bn : isPl no 60 = false
  bb : BadSt H bad l
  hw : H wd = some (.lst ((List.replicate (st.length - 1) Wo.same).map vW))
section
variable {L0 s wd : Addr} {l : Int} {st : List Int} {no bad : V} {H' : Hp}
theorem Tn.xn (t : Tn T bs L0 l s st no bad wd H) (e : ExtN H H') (tb : Tabs T H') : Tn T bs L0 l s st no bad wd H' :=
  ⟨bags_kp t.bag (KN.tab e) (fun a h => by cases h), tb, e _ _ t.hL (fun _ z => by cases z), t.l1, t.l6, e _ _ t.hs (fun _ z => by cases z), t.sl, t.pl, t.sn.xn e, t.bn, t.bb.xn e, e _ _ t.hw (fun _ z => by cases z)⟩
theorem Tn.ex (t : Tn T bs L0 l s st no bad wd H) (e : Ex H H') : Tn T bs L0 l s st no bad wd H' := t.xn (ExtN.of e) (t.tb.ext e)
end
theorem pure_law {qL : Str} {prL prL1 prL2 prL3 : Arguments} {boL boL1 boL2 boL3 : Expr} {scL scL1 scL2 scL3 : Scope} (_ : SrF K)
    (D1 : ∀ f, f = He.ga K "fewest_ahead" ∨ f = He.ga K "stands_ahead" → FnR P w K mg base (L2N.CX P w) 98 f (sp_fewest_ahead K) ∧ PySem.W.keepIn K (.ref f) = true)
    (D2 : ∀ f, f = He.ga K "how_many" ∨ f = He.ga K "alike" ∨ f = He.ga K "how_many_round" → FnR P w K mg base (L2N.CX P w) 98 f (sp_how_many K) ∧ PySem.W.keepIn K (.ref f) = true)
    (D3 : ∀ f, f = He.ga K "can_lie" ∨ f = He.ga K "fewest_wrong" ∨ f = He.ga K "can_lie_round" → FnR P w K mg base (L2N.CX P w) 100 f (DoorSp K) ∧ PySem.W.keepIn K (.ref f) = true)
    (L0 : LamR P w K mg base qL prL boL scL (spL1 P w K mg base)) (L1 : LamR P w K mg base qL prL1 boL1 scL1 (spLS K)) (L2 : LamR P w K mg base qL prL2 boL2 scL2 (spL2 P w K mg base)) (L3 : LamR P w K mg base qL prL3 boL3 scL3 (spL2 P w K mg base))
    {vs : List V} {H : Hp} {Q : VK} {E : XK} (h : sp_law K T vs H Q E) : t_law K P w mg base T qL prL boL scL prL1 boL1 scL1 prL2 boL2 scL2 prL3 boL3 scL3 { nx := fun _ H' => Q .non H', rt := Q } (start N_law vs) H := by
  obtain ⟨a, ns, rfl, hS, hlen, hT, qQ⟩ := h
  refine ⟨_, rfl, a, ns, 6, rfl, hS, by decide, by decide, fun L0' H1 bs nL e1 hL hB nb => ?_⟩
  refine ⟨L0', rfl, ⟨_, SqL.of hL⟩, ?_⟩
  refine for_list (K := K) (a := L0') (xs := bs.map V.ref) (fun i σ H' => ∃ x1 x2 x3 x4 x5 x6 x7 x8 x9 x10 : Option V, σ = [some (.ref a), x1, x2, x3, x4, x5, x6, x7, x8, x9, x10] ∧ H' L0' = some (.lst (bs.map V.ref)) ∧ Bags bs H' ∧ Tabs T H')
    ⟨none, none, none, none, none, none, none, none, none, none, rfl, hL, hB, hT.ext e1⟩ (fun i σ H' _ ⟨_, _, _, _, _, _, _, _, _, _, _, k, _⟩ => SqL.of k) ?_ ?_
  · rintro i x σ H2 hx ⟨x1, x2, x3, x4, x5, x6, x7, x8, x9, x10, rfl, hL2, B2, T2⟩
    obtain ⟨b, hb, rfl⟩ := ref_at hx
    refine ⟨_, rfl, bs, b, 60, rfl, hb, B2, by decide, fun l0 H3 hl0 hl1 k3 B3 => ⟨1, l0, rfl, rfl, ?_⟩⟩
    have hl1' : 1 ≤ 1 + l0 := by omega
    have hl2' : 1 + l0 ≤ 60 := by omega
    have T3 := tabs_kp T2 k3 (bag_lst B2)
    have hL3 := k3 _ _ (bags_list B2 hL2) hL2
    dsimp only
    generalize 1 + l0 = l at hl1' hl2' ⊢
    refine ⟨_, rfl, _, rfl, bs, b, l, 40, rfl, hb, B3, hl1', by decide, by decide, fun s H4 st ns4 k4 B4 hs4 hsl hpl => ?_⟩
    have T4 := tabs_kp T3 k4 (bag_lst B3)
    have hL4 := k4 _ _ (bags_list B3 hL3) hL3
    have hsl' : st.length ≤ 40 := by omega
    dsimp only [tSeq, tAsg, gName, List.set]
    refine none_l rfl hb B4 fun no H5 k5 B5 no5 => ?_
    have T5 := tabs_kp T4 k5 (bag_lst B4)
    have hL5 := k5 _ _ (bags_list B4 hL4) hL4
    have hs5 := k5 _ _ (bag_not B4 hs4 (ints_no _)) hs4
    refine bads_l rfl rfl hs5 fun u xs H6 e6 hu6 hxl hbad => ?_
    have B6 := B5.ex e6
    refine ⟨_, rfl, _, rfl, bs, b, 8, rfl, hb, B6, by decide, fun r H7 hr0 hr1 k7 B7 => ?_⟩
    have T7 := tabs_kp (T5.ext e6) k7 (bag_lst B6)
    have hL7 := k7 _ _ (bags_list B6 (e6 _ _ hL5)) (e6 _ _ hL5)
    have hs7 := k7 _ _ (bag_not B6 (e6 _ _ hs5) (ints_no _)) (e6 _ _ hs5)
    have hu7 := k7 _ _ (bag_not B6 hu6 (fun d c z => by rw [z] at hxl; cases hxl)) hu6
    have no7 := (no5.ex e6).kp B6 k7
    obtain ⟨j, rfl⟩ := Int.eq_ofNat_of_zero_le hr0
    have hj : j < xs.length := by omega
    have hbd := (hbad _ (List.getElem_mem hj)).kp B6 k7
    refine ⟨u, xs, _, xs[j], rfl, rfl, SqL.of hu7, atI_nat (List.getElem?_eq_getElem hj), ?_⟩
    generalize xs[j] = bad at hbd ⊢
    refine words_l rfl hs7 hsl' fun wd H8 e8 hw8 => ?_
    have t8 : Tn T bs L0' l s st no bad wd H8 := ⟨B7.ex e8, T7.ext e8, e8 _ _ hL7, hl1', hl2', e8 _ _ hs7, hsl', hpl, no7.sm.ex e8, no7.2, hbd.ex e8, hw8⟩
    clear B2 B3 B4 B5 B6 B7 T2 T3 T4 T5 T7 hL2 hL3 hL4 hL5 hL7 hs4 hs5 hs7 hu6 hu7 hbd no7 no5 hbad hw8 e6 e8 k3 k4 k5 k7
    refine ⟨by show 2 ≤ sizeLine; decide, fun u1 nu1 => ?_⟩
    have e9 : Ex H8 (upd H8 u1 (.tup [.ref (He.ga K "fewest_ahead"), .ref (He.ga K "stands_ahead")])) := Ex.new nu1
    have hu1 : (upd H8 u1 (.tup [.ref (He.ga K "fewest_ahead"), .ref (He.ga K "stands_ahead")])) u1 = some (.tup [.ref (He.ga K "fewest_ahead"), .ref (He.ga K "stands_ahead")]) := upd_same
    generalize upd H8 u1 (.tup [.ref (He.ga K "fewest_ahead"), .ref (He.ga K "stands_ahead")]) = H9 at e9 hu1 ⊢
    refine ⟨u1, rfl, ⟨_, SqT.of hu1⟩, ?_⟩
    refine for_tup (K := K) (a := u1) (xs := [.ref (He.ga K "fewest_ahead"), .ref (He.ga K "stands_ahead")]) (fun i σ H' => ∃ o8 : Option V, σ = [some (.ref a), some (.ref b), some (.int l), some (.ref s), some no, some (.ref u), some bad, some (.ref wd), o8, x9, x10] ∧ Tn T bs L0' l s st no bad wd H' ∧ H' u1 = some (.tup [.ref (He.ga K "fewest_ahead"), .ref (He.ga K "stands_ahead")])) ⟨_, rfl, t8.ex e9, hu1⟩ (fun i σ H' _ ⟨_, _, _, k⟩ => SqT.of k) ?_ ?_
    · rintro j y σ Ha hy ⟨o8, rfl, ta, hua⟩
      obtain ⟨f, rfl, hf⟩ : ∃ f, y = .ref f ∧ (f = He.ga K "fewest_ahead" ∨ f = He.ga K "stands_ahead") := by
        have hm := List.mem_of_getElem? hy
        simp only [List.mem_cons, List.not_mem_nil, or_false] at hm
        rcases hm with rfl | rfl
        · exact ⟨_, rfl, .inl rfl⟩
        · exact ⟨_, rfl, .inr rfl⟩
      obtain ⟨F, kp⟩ := D1 f hf
      dsimp only [gName, tIfS, tTest, tOp]
      refine rf_lam (nm := "NoLength") L0 (by decide) ta.tb (vrA rfl) (vrA rfl) cnA (fun H3 Q' E' x3 he => ⟨f, _, _, _, rfl, F, kp, _, rfl, ta.sn.xn x3, ta.bn, he _ (Ex.refl _)⟩) fun kin Hb xb tbb hk => ?_
      refine two_l "NoLength" _ _ _ fun m nm => ?_
      refine neRf (nm := "NoLength") (by decide) ((Ex.new nm) _ _ hk) upd_same ⟨_, rfl, iteF ?_⟩
      exact ⟨_, rfl, (ta.xn xb tbb).ex (Ex.new nm), (Ex.new nm) _ _ (xb _ _ hua (fun _ z => by cases z))⟩
    rintro σ Hc ⟨o8, rfl, tc, _⟩
    clear hu1 e9 t8
    dsimp only [tSeq, tIfS, tTest, tOp]
    refine rf_lam (nm := "NoLength") L1 (by decide) tc.tb (vrA rfl) cnA cnA (fun H3 Q' E' x3 he => ⟨_, _, _, rfl, tc.sn.xn x3, tc.bn, he⟩) fun kin Hd xd td hk => ?_
    refine two_l "NoLength" _ _ _ fun m nm => ?_
    refine neRf (nm := "NoLength") (by decide) ((Ex.new nm) _ _ hk) upd_same ⟨_, rfl, iteF ?_⟩
    have t10 := (tc.xn xd td).ex (Ex.new (o := .lst [.str "NoLength", .bl true]) nm)
    generalize upd Hd m (.lst [.str "NoLength", .bl true]) = H10 at t10 ⊢
    clear tc xd td hk nm
    refine ⟨by show 3 ≤ sizeLine; decide, fun u2 nu2 => ?_⟩
    have e11 : Ex H10 (upd H10 u2 (.tup [.ref (He.ga K "how_many"), .ref (He.ga K "alike"), .ref (He.ga K "how_many_round")])) := Ex.new nu2
    have hu2 : (upd H10 u2 (.tup [.ref (He.ga K "how_many"), .ref (He.ga K "alike"), .ref (He.ga K "how_many_round")])) u2 = some (.tup [.ref (He.ga K "how_many"), .ref (He.ga K "alike"), .ref (He.ga K "how_many_round")]) := upd_same
    generalize upd H10 u2 (.tup [.ref (He.ga K "how_many"), .ref (He.ga K "alike"), .ref (He.ga K "how_many_round")]) = H11 at e11 hu2 ⊢
    refine ⟨u2, rfl, ⟨_, SqT.of hu2⟩, ?_⟩
    refine for_tup (K := K) (a := u2) (xs := [.ref (He.ga K "how_many"), .ref (He.ga K "alike"), .ref (He.ga K "how_many_round")]) (fun i σ H' => ∃ o8 : Option V, σ = [some (.ref a), some (.ref b), some (.int l), some (.ref s), some no, some (.ref u), some bad, some (.ref wd), o8, x9, x10] ∧ Tn T bs L0' l s st no bad wd H' ∧ H' u2 = some (.tup [.ref (He.ga K "how_many"), .ref (He.ga K "alike"), .ref (He.ga K "how_many_round")])) ⟨_, rfl, t10.ex e11, hu2⟩ (fun i σ H' _ ⟨_, _, _, k⟩ => SqT.of k) ?_ ?_
    · rintro j y σ Ha hy ⟨o8, rfl, ta, hua⟩
      obtain ⟨f, rfl, hf⟩ : ∃ f, y = .ref f ∧ (f = He.ga K "how_many" ∨ f = He.ga K "alike" ∨ f = He.ga K "how_many_round") := by
        have hm := List.mem_of_getElem? hy
        simp only [List.mem_cons, List.not_mem_nil, or_false] at hm
        rcases hm with rfl | rfl | rfl
        · exact ⟨_, rfl, .inl rfl⟩
        · exact ⟨_, rfl, .inr (.inl rfl)⟩
        · exact ⟨_, rfl, .inr (.inr rfl)⟩
      obtain ⟨F, kp⟩ := D2 f hf
      dsimp only [gName, tSeq, tIfS, tTest, tOp]
      refine rf_lam (nm := "NoLength") L2 (by decide) ta.tb (vrA rfl) (vrA rfl) cnA (fun H3 Q' E' x3 he => ⟨f, _, _, _, rfl, F, kp, _, _, rfl, ta.sn.xn x3, .inl ⟨ta.bn, he _ (Ex.refl _)⟩⟩) fun kin Hb xb tbb hk => ?_
      refine two_l "NoLength" _ _ _ fun m nm => ?_
      refine neRf (nm := "NoLength") (by decide) ((Ex.new nm) _ _ hk) upd_same ⟨_, rfl, iteF ?_⟩
      have tb2 := (ta.xn xb tbb).ex (Ex.new (o := .lst [.str "NoLength", .bl true]) nm)
      have hub := (Ex.new (o := .lst [.str "NoLength", .bl true]) nm) _ _ (xb _ _ hua (fun _ z => by cases z))
      generalize upd Hb m (.lst [.str "NoLength", .bl true]) = Hd at tb2 hub ⊢
      refine rf_lam (nm := "NoStands") L3 (by decide) tb2.tb (vrA rfl) (vrA rfl) (vrA rfl) (fun H3 Q' E' x3 he => ⟨f, _, _, _, rfl, F, kp, _, _, rfl, .sm (.int l), .inr ⟨l, rfl, hl1', hl2', tb2.bb.xn x3, he⟩⟩) fun kin He xe tbe hk => ?_
      refine two_l "NoStands" _ _ _ fun m nm => ?_
      refine neRf (nm := "NoStands") (by decide) ((Ex.new nm) _ _ hk) upd_same ⟨_, rfl, iteF ?_⟩
      exact ⟨_, rfl, (tb2.xn xe tbe).ex (Ex.new nm), (Ex.new nm) _ _ (xe _ _ hub (fun _ z => by cases z))⟩
    rintro σ H12 ⟨o8, rfl, t12, _⟩
    clear hu2 e11 t10
    refine ⟨by show 3 ≤ sizeLine; decide, fun u3 nu3 => ?_⟩
    have e13 : Ex H12 (upd H12 u3 (.tup [.ref (He.ga K "can_lie"), .ref (He.ga K "fewest_wrong"), .ref (He.ga K "can_lie_round")])) := Ex.new nu3
    have hu3 : (upd H12 u3 (.tup [.ref (He.ga K "can_lie"), .ref (He.ga K "fewest_wrong"), .ref (He.ga K "can_lie_round")])) u3 = some (.tup [.ref (He.ga K "can_lie"), .ref (He.ga K "fewest_wrong"), .ref (He.ga K "can_lie_round")]) := upd_same
    generalize upd H12 u3 (.tup [.ref (He.ga K "can_lie"), .ref (He.ga K "fewest_wrong"), .ref (He.ga K "can_lie_round")]) = H13 at e13 hu3 ⊢
    refine ⟨u3, rfl, ⟨_, SqT.of hu3⟩, ?_⟩
    refine for_tup (K := K) (a := u3) (xs := [.ref (He.ga K "can_lie"), .ref (He.ga K "fewest_wrong"), .ref (He.ga K "can_lie_round")]) (fun i σ H' => ∃ o8 o9 o10 : Option V, σ = [some (.ref a), some (.ref b), some (.int l), some (.ref s), some no, some (.ref u), some bad, some (.ref wd), o8, o9, o10] ∧ Tn T bs L0' l s st no bad wd H' ∧ H' u3 = some (.tup [.ref (He.ga K "can_lie"), .ref (He.ga K "fewest_wrong"), .ref (He.ga K "can_lie_round")])) ⟨_, _, _, rfl, t12.ex e13, hu3⟩ (fun i σ H' _ ⟨_, _, _, _, _, k⟩ => SqT.of k) ?_ ?_
    · rintro j y σ Ha hy ⟨o8, o9, o10, rfl, ta, hua⟩
      obtain ⟨f, rfl, hf⟩ : ∃ f, y = .ref f ∧ (f = He.ga K "can_lie" ∨ f = He.ga K "fewest_wrong" ∨ f = He.ga K "can_lie_round") := by
        have hm := List.mem_of_getElem? hy
        simp only [List.mem_cons, List.not_mem_nil, or_false] at hm
        rcases hm with rfl | rfl | rfl
        · exact ⟨_, rfl, .inl rfl⟩
        · exact ⟨_, rfl, .inr (.inl rfl)⟩
        · exact ⟨_, rfl, .inr (.inr rfl)⟩
      obtain ⟨F, kp⟩ := D3 f hf
      dsimp only [gName, tSeq, tIfS, tTest, tOp]
      refine cl4 (vrA rfl) (vrA rfl) cnA cnA (rf_by (nm := "NoLength") (by decide) F kp (fun p Q' E' np he => ⟨_, _, _, rfl, ta.sn.ex (Ex.new np), .inl ⟨ta.bn, he _ (Ex.refl _)⟩⟩) fun kin Hb eb hk => ?_)
      refine two_l "NoLength" _ _ _ fun m nm => ?_
      refine neRf (nm := "NoLength") (by decide) ((Ex.new nm) _ _ hk) upd_same ⟨_, rfl, iteF ?_⟩
      have tb2 := (ta.ex eb).ex (Ex.new (o := .lst [.str "NoLength", .bl true]) nm)
      have hub := (Ex.new (o := .lst [.str "NoLength", .bl true]) nm) _ _ (eb _ _ hua)
      generalize upd Hb m (.lst [.str "NoLength", .bl true]) = Hc at tb2 hub ⊢
      clear ta hua eb hk nm
      refine cl4 (vrA rfl) (vrA rfl) (vrA rfl) cnA (rf_by (nm := "NoStands") (by decide) F kp (fun p Q' E' np he => ⟨_, _, _, rfl, .sm (.int l), .inr ⟨l, rfl, hl1', hl2', .inl ⟨tb2.bb.ex (Ex.new np), he⟩⟩⟩) fun kin Hd ed hk => ?_)
      refine two_l "NoStands" _ _ _ fun m nm => ?_
      refine neRf (nm := "NoStands") (by decide) ((Ex.new nm) _ _ hk) upd_same ⟨_, rfl, iteF ?_⟩
      have tc := (tb2.ex ed).ex (Ex.new (o := .lst [.str "NoStands", .bl true]) nm)
      have huc := (Ex.new (o := .lst [.str "NoStands", .bl true]) nm) _ _ (ed _ _ hub)
      generalize upd Hd m (.lst [.str "NoStands", .bl true]) = Hf at tc huc ⊢
      clear tb2 hub ed hk nm
      dsimp only [tNext, tSeq, tAsg, gName, List.set]
      refine rows_l rfl tc.hw (by omega) fun uR xR Hg eg huR hbR => ?_
      have td := tc.ex eg
      have hud := eg _ _ huc
      rw [tFor, iList]
      refine ⟨_, rfl, uR, rfl, ⟨_, SqL.of huR⟩, ?_⟩
      refine for_list (K := K) (a := uR) (xs := xR) (fun i σ H' => ∃ o10 : Option V, σ = [some (.ref a), some (.ref b), some (.int l), some (.ref s), some no, some (.ref u), some bad, some (.ref wd), some (.ref f), some (.ref uR), o10] ∧ Ex Hg H') ⟨_, rfl, Ex.refl _⟩ (fun i σ H' _ ⟨_, _, k⟩ => SqL.of (k _ _ huR)) ?_ ?_
      · rintro j z σ Hh hz ⟨p10, rfl, eh⟩
        have hbz := (hbR z (List.mem_of_getElem? hz)).ex eh
        have th := td.ex eh
        dsimp only [gName, tIfS, tTest, tOp]
        refine cl4 (vrA rfl) (vrA rfl) (vrA rfl) (vrA rfl) (rf_by (nm := "NoAnswers") (by decide) F kp (fun p Q' E' np he => ⟨_, _, _, rfl, .sm (.int l), .inr ⟨l, rfl, hl1', hl2', .inr ⟨s, st, rfl, (Ex.new np) _ _ th.hs, hsl', hpl, .inl ⟨hbz.ex (Ex.new np), he⟩⟩⟩⟩) fun kin Hi ei hk => ?_)
        refine two_l "NoAnswers" _ _ _ fun m nm => ?_
        refine neRf (nm := "NoAnswers") (by decide) ((Ex.new nm) _ _ hk) upd_same ⟨_, rfl, iteF ?_⟩
        exact ⟨_, rfl, (eh.trans ei).trans (Ex.new nm)⟩
      rintro σ Hh ⟨p10, rfl, eh⟩
      have th := td.ex eh
      have huh := eh _ _ hud
      dsimp only [tIfS, tTest, tOp]
      refine cl4 (vrA rfl) (vrA rfl) (vrA rfl) (vrA rfl) (rf_ok F kp (fun p Q' E' np hq => ⟨_, _, _, rfl, .sm (.int l), .inr ⟨l, rfl, hl1', hl2', .inr ⟨s, st, rfl, (Ex.new np) _ _ th.hs, hsl', hpl, .inr ⟨wd, _, rfl, (Ex.new np) _ _ th.hw, List.length_replicate .., hq⟩⟩⟩⟩) fun kin Hi ei hk => ?_)
      refine ⟨Nat.zero_le _, fun m nm => ?_⟩
      refine neII (ns := []) (ms := []) (SqL.of ((Ex.new nm) _ _ hk)) (SqL.of upd_same) ⟨_, rfl, iteF ?_⟩
      exact ⟨_, _, _, rfl, (th.ex ei).ex (Ex.new nm), (Ex.new nm) _ _ (ei _ _ huh)⟩
    rintro σ H14 ⟨o8, o9, o10, rfl, t14, _⟩
    clear hu3 e13 t12
    dsimp only [tSeq, tIfS, tNot, tB]
    refine ⟨_, rfl, _, rfl, _, rfl, l, no, bad, rfl, hl1', hl2', t14.sn, t14.bn, t14.bb, fun H15 e15 => ⟨true, rfl, iteF ?_⟩⟩
    have t15 := t14.ex e15
    refine ⟨_, rfl, _, rfl, l, no, rfl, hl1', hl2', t15.sn, t15.bn, t15.tb, fun H16 x16 t16 => ⟨true, rfl, iteF ?_⟩⟩
    have te := t15.xn x16 t16
    exact ⟨_, _, _, _, _, _, _, _, _, _, rfl, te.hL, te.bag, te.tb⟩
  · rintro σ H2 ⟨x1, x2, x3, x4, x5, x6, x7, x8, x9, x10, rfl, hL2, B2, T2⟩
    exact qQ H2
theorem len_law {vs : List V} {H : Hp} {Q : VK} {E : XK} (h : sp_law K T vs H Q E) : vs.length = 1 := by
  obtain ⟨a, ns, rfl, _⟩ := h
  rfl
end
def topS (i : Nat) : Stmt := PySem.Challenge.pw_warmcold_k15_who_is_refused.main.body.getD i (.Pass ⟨0, 0, 0, 0⟩)
def clsS (i j : Nat) : Stmt := match topS i with
  | .ClassDef _ _ _ b _ _ _ _ _ _ _ => b.getD j (.Pass ⟨0, 0, 0, 0⟩)
  | _ => .Pass ⟨0, 0, 0, 0⟩
abbrev s_is_whole : Stmt := topS 18
theorem sc_is_whole : FnScope N_is_whole ["value"] (defScope s_is_whole) := ⟨rfl, rfl, rfl, by decide +kernel, rfl, by decide +kernel, by decide +kernel⟩
abbrev s_is_place : Stmt := topS 19
theorem sc_is_place : FnScope N_is_place ["value", "length"] (defScope s_is_place) := ⟨rfl, rfl, rfl, by decide +kernel, rfl, by decide +kernel, by decide +kernel⟩
abbrev s_is_word : Stmt := topS 20
theorem sc_is_word : FnScope N_is_word ["value"] (defScope s_is_word) := ⟨rfl, rfl, rfl, by decide +kernel, rfl, by decide +kernel, by decide +kernel⟩
abbrev s_check_length : Stmt := topS 21
theorem sc_check_length : FnScope N_check_length ["length"] (defScope s_check_length) := ⟨rfl, rfl, rfl, by decide +kernel, rfl, by decide +kernel, by decide +kernel⟩
abbrev s_check_going_length : Stmt := topS 22
theorem sc_check_going_length : FnScope N_check_going_length ["length"] (defScope s_check_going_length) := ⟨rfl, rfl, rfl, by decide +kernel, rfl, by decide +kernel, by decide +kernel⟩
abbrev s_check_place : Stmt := topS 23
theorem sc_check_place : FnScope N_check_place ["place", "length"] (defScope s_check_place) := ⟨rfl, rfl, rfl, by decide +kernel, rfl, by decide +kernel, by decide +kernel⟩
abbrev s_check_stands : Stmt := topS 24
theorem sc_check_stands : FnScope N_check_stands ["stands", "length"] (defScope s_check_stands) := ⟨rfl, rfl, rfl, by decide +kernel, rfl, by decide +kernel, by decide +kernel⟩
abbrev s_check_answers : Stmt := topS 25
theorem sc_check_answers : FnScope N_check_answers ["answers", "stands"] (defScope s_check_answers) := ⟨rfl, rfl, rfl, by decide +kernel, rfl, by decide +kernel, by decide +kernel⟩
abbrev s_check_stretch : Stmt := topS 27
theorem sc_check_stretch : FnScope N_check_stretch ["stretch", "length"] (defScope s_check_stretch) := ⟨rfl, rfl, rfl, by decide +kernel, rfl, by decide +kernel, by decide +kernel⟩
abbrev s_word_for : Stmt := topS 29
theorem sc_word_for : FnScope N_word_for ["before", "after"] (defScope s_word_for) := ⟨rfl, rfl, rfl, by decide +kernel, rfl, by decide +kernel, by decide +kernel⟩
abbrev s_answer_to_move : Stmt := topS 30
theorem sc_answer_to_move : FnScope N_answer_to_move ["thing", "earlier", "later"] (defScope s_answer_to_move) := ⟨rfl, rfl, rfl, by decide +kernel, rfl, by decide +kernel, by decide +kernel⟩
abbrev s_row_of_answers : Stmt := topS 31
theorem sc_row_of_answers : FnScope N_row_of_answers ["thing", "stands"] (defScope s_row_of_answers) := ⟨rfl, rfl, rfl, by decide +kernel, rfl, by decide +kernel, by decide +kernel⟩
abbrev s_answers_to : Stmt := topS 32
theorem sc_answers_to : FnScope N_answers_to ["length", "thing", "stands"] (defScope s_answers_to) := ⟨rfl, rfl, rfl, by decide +kernel, rfl, by decide +kernel, by decide +kernel⟩
abbrev s_can_lie : Stmt := topS 33
theorem sc_can_lie : FnScope N_can_lie ["length", "stands", "answers"] (defScope s_can_lie) := ⟨rfl, rfl, rfl, by decide +kernel, rfl, by decide +kernel, by decide +kernel⟩
abbrev s_count_wrong : Stmt := topS 35
theorem sc_count_wrong : FnScope N_count_wrong ["thing", "stands", "answers"] (defScope s_count_wrong) := ⟨rfl, rfl, rfl, by decide +kernel, rfl, by decide +kernel, by decide +kernel⟩
abbrev s_fewest_wrong : Stmt := topS 36
theorem sc_fewest_wrong : FnScope N_fewest_wrong ["length", "stands", "answers"] (defScope s_fewest_wrong) := ⟨rfl, rfl, rfl, by decide +kernel, rfl, by decide +kernel, by decide +kernel⟩
abbrev s_rows_of_all_places : Stmt := topS 38
theorem sc_rows_of_all_places : FnScope N_rows_of_all_places ["length", "stands"] (defScope s_rows_of_all_places) := ⟨rfl, rfl, rfl, by decide +kernel, rfl, by decide +kernel, by decide +kernel⟩
abbrev s_how_many : Stmt := topS 39
theorem sc_how_many : FnScope N_how_many ["length", "stands"] (defScope s_how_many) := ⟨rfl, rfl, rfl, by decide +kernel, rfl, by decide +kernel, by decide +kernel⟩
abbrev s_alike : Stmt := topS 40
theorem sc_alike : FnScope N_alike ["length", "stands"] (defScope s_alike) := ⟨rfl, rfl, rfl, by decide +kernel, rfl, by decide +kernel, by decide +kernel⟩
abbrev s_fewest_ahead : Stmt := topS 41
theorem sc_fewest_ahead : FnScope N_fewest_ahead ["length"] (defScope s_fewest_ahead) := ⟨rfl, rfl, rfl, by decide +kernel, rfl, by decide +kernel, by decide +kernel⟩
abbrev s_stands_ahead : Stmt := topS 42
theorem sc_stands_ahead : FnScope N_stands_ahead ["length"] (defScope s_stands_ahead) := ⟨rfl, rfl, rfl, by decide +kernel, rfl, by decide +kernel, by decide +kernel⟩
abbrev s_parts_of : Stmt := topS 44
theorem sc_parts_of : FnScope N_parts_of ["stretch", "earlier", "later"] (defScope s_parts_of) := ⟨rfl, rfl, rfl, by decide +kernel, rfl, by decide +kernel, by decide +kernel⟩
abbrev s_other_places : Stmt := topS 45
theorem sc_other_places : FnScope N_other_places ["length", "place"] (defScope s_other_places) := ⟨rfl, rfl, rfl, by decide +kernel, rfl, by decide +kernel, by decide +kernel⟩
abbrev s_stands_are_enough : Stmt := topS 46
theorem sc_stands_are_enough : FnScope N_stands_are_enough ["length", "stretch", "place", "many", "known"] (defScope s_stands_are_enough) := ⟨rfl, rfl, rfl, by decide +kernel, rfl, by decide +kernel, by decide +kernel⟩
abbrev s_first_onward : Stmt := topS 47
theorem sc_first_onward : FnScope N_first_onward ["length", "stretch", "place", "many", "known"] (defScope s_first_onward) := ⟨rfl, rfl, rfl, by decide +kernel, rfl, by decide +kernel, by decide +kernel⟩
abbrev s_stands_from : Stmt := topS 48
theorem sc_stands_from : FnScope N_stands_from ["length", "stretch", "place"] (defScope s_stands_from) := ⟨rfl, rfl, rfl, by decide +kernel, rfl, by decide +kernel, by decide +kernel⟩
abbrev s_stands_at_all : Stmt := topS 49
theorem sc_stands_at_all : FnScope N_stands_at_all ["length"] (defScope s_stands_at_all) := ⟨rfl, rfl, rfl, by decide +kernel, rfl, by decide +kernel, by decide +kernel⟩
abbrev s_least_steps : Stmt := topS 50
theorem sc_least_steps : FnScope N_least_steps ["stretch", "place"] (defScope s_least_steps) := ⟨rfl, rfl, rfl, by decide +kernel, rfl, by decide +kernel, by decide +kernel⟩
abbrev s_steps_by : Stmt := topS 51
theorem sc_steps_by : FnScope N_steps_by ["stretch", "place", "onward"] (defScope s_steps_by) := ⟨rfl, rfl, rfl, by decide +kernel, rfl, by decide +kernel, by decide +kernel⟩
abbrev s_steps_from : Stmt := topS 52
theorem sc_steps_from : FnScope N_steps_from ["length", "stretch", "place"] (defScope s_steps_from) := ⟨rfl, rfl, rfl, by decide +kernel, rfl, by decide +kernel, by decide +kernel⟩
abbrev s_far_round : Stmt := topS 54
theorem sc_far_round : FnScope N_far_round ["length", "one", "other"] (defScope s_far_round) := ⟨rfl, rfl, rfl, by decide +kernel, rfl, by decide +kernel, by decide +kernel⟩
abbrev s_row_round : Stmt := topS 55
theorem sc_row_round : FnScope N_row_round ["length", "thing", "stands"] (defScope s_row_round) := ⟨rfl, rfl, rfl, by decide +kernel, rfl, by decide +kernel, by decide +kernel⟩
abbrev s_can_lie_round : Stmt := topS 56
theorem sc_can_lie_round : FnScope N_can_lie_round ["length", "stands", "answers"] (defScope s_can_lie_round) := ⟨rfl, rfl, rfl, by decide +kernel, rfl, by decide +kernel, by decide +kernel⟩
abbrev s_how_many_round : Stmt := topS 57
theorem sc_how_many_round : FnScope N_how_many_round ["length", "stands"] (defScope s_how_many_round) := ⟨rfl, rfl, rfl, by decide +kernel, rfl, by decide +kernel, by decide +kernel⟩
abbrev s_Search___init__ : Stmt := clsS 59 0
theorem sc_Search___init__ : FnScope N_Search___init__ ["self", "length"] (defScope s_Search___init__) := ⟨rfl, rfl, rfl, by decide +kernel, rfl, by decide +kernel, by decide +kernel⟩
abbrev s__law_cell_at : Stmt := topS 61
theorem sc__law_cell_at : FnScope N__law_cell_at ["script", "k"] (defScope s__law_cell_at) := ⟨rfl, rfl, rfl, by decide +kernel, rfl, by decide +kernel, by decide +kernel⟩
abbrev s__law_draws : Stmt := topS 62
theorem sc__law_draws : FnScope N__law_draws ["cell", "many", "size"] (defScope s__law_draws) := ⟨rfl, rfl, rfl, by decide +kernel, rfl, by decide +kernel, by decide +kernel⟩
abbrev s__law_bag : Stmt := topS 63
theorem sc__law_bag : FnScope N__law_bag ["script", "k"] (defScope s__law_bag) := ⟨rfl, rfl, rfl, by decide +kernel, rfl, by decide +kernel, by decide +kernel⟩
abbrev s__law_bags : Stmt := topS 64
theorem sc__law_bags : FnScope N__law_bags ["script", "limit"] (defScope s__law_bags) := ⟨rfl, rfl, rfl, by decide +kernel, rfl, by decide +kernel, by decide +kernel⟩
abbrev s__law_take : Stmt := topS 65
theorem sc__law_take : FnScope N__law_take ["bag", "many"] (defScope s__law_take) := ⟨rfl, rfl, rfl, by decide +kernel, rfl, by decide +kernel, by decide +kernel⟩
abbrev s__law_some_stands : Stmt := topS 66
theorem sc__law_some_stands : FnScope N__law_some_stands ["bag", "length", "most"] (defScope s__law_some_stands) := ⟨rfl, rfl, rfl, by decide +kernel, rfl, by decide +kernel, by decide +kernel⟩
abbrev s__law_refused : Stmt := topS 67
theorem sc__law_refused : FnScope N__law_refused ["call", "one", "two", "three"] (defScope s__law_refused) := ⟨rfl, rfl, rfl, by decide +kernel, rfl, by decide +kernel, by decide +kernel⟩
abbrev s__law_short_refused : Stmt := topS 68
theorem sc__law_short_refused : FnScope N__law_short_refused ["length", "none"] (defScope s__law_short_refused) := ⟨rfl, rfl, rfl, by decide +kernel, rfl, by decide +kernel, by decide +kernel⟩
abbrev s__law_things_refused : Stmt := topS 69
theorem sc__law_things_refused : FnScope N__law_things_refused ["length", "none", "bad"] (defScope s__law_things_refused) := ⟨rfl, rfl, rfl, by decide +kernel, rfl, by decide +kernel, by decide +kernel⟩
abbrev s_law : Stmt := topS 70
theorem sc_law : FnScope N_law ["script"] (defScope s_law) := ⟨rfl, rfl, rfl, by decide +kernel, rfl, by decide +kernel, by decide +kernel⟩
abbrev s_TL : Stmt := clsS 12 0
structure Wd (P : Program) (w : World) (K : PySem.W.Frag) (mg : Str → Option Value) (base : Heap) : Prop where
  T : SrF K
  EF : ExF K
  ET : ExT K
  XF : XfC K (He.ga K "TooLong")
  n_most : PySem.W.findIn K (.ref (He.ga K "TooLong")) "most" = some none
  TL : TlK P w K mg base
  z_ValueError : mg "ValueError" = none
  z_abs : mg "abs" = none
  z_all : mg "all" = none
  z_bool : mg "bool" = none
  z_int : mg "int" = none
  z_isinstance : mg "isinstance" = none
  z_len : mg "len" = none
  z_list : mg "list" = none
  z_max : mg "max" = none
  z_min : mg "min" = none
  z_range : mg "range" = none
  z_set : mg "set" = none
  z_str : mg "str" = none
  z_sum : mg "sum" = none
  z_super : mg "super" = none
  z_tuple : mg "tuple" = none
  z_zip : mg "zip" = none
  g_Never : mg "Never" = some (.ref (He.ga K "Never"))
  g_NoAnswer : mg "NoAnswer" = some (.ref (He.ga K "NoAnswer"))
  g_NoAnswers : mg "NoAnswers" = some (.ref (He.ga K "NoAnswers"))
  g_NoLength : mg "NoLength" = some (.ref (He.ga K "NoLength"))
  g_NoPlace : mg "NoPlace" = some (.ref (He.ga K "NoPlace"))
  g_NoStands : mg "NoStands" = some (.ref (He.ga K "NoStands"))
  g_NoStretch : mg "NoStretch" = some (.ref (He.ga K "NoStretch"))
  g_NotNow : mg "NotNow" = some (.ref (He.ga K "NotNow"))
  g_NothingLeft : mg "NothingLeft" = some (.ref (He.ga K "NothingLeft"))
  g_SeekError : mg "SeekError" = some (.ref (He.ga K "SeekError"))
  g_TooLong : mg "TooLong" = some (.ref (He.ga K "TooLong"))
  g_alike : mg "alike" = some (.ref (He.ga K "alike"))
  g_answers_to : mg "answers_to" = some (.ref (He.ga K "answers_to"))
  g_can_lie : mg "can_lie" = some (.ref (He.ga K "can_lie"))
  g_can_lie_round : mg "can_lie_round" = some (.ref (He.ga K "can_lie_round"))
  g_fewest_ahead : mg "fewest_ahead" = some (.ref (He.ga K "fewest_ahead"))
  g_fewest_wrong : mg "fewest_wrong" = some (.ref (He.ga K "fewest_wrong"))
  g_how_many : mg "how_many" = some (.ref (He.ga K "how_many"))
  g_how_many_round : mg "how_many_round" = some (.ref (He.ga K "how_many_round"))
  g_stands_ahead : mg "stands_ahead" = some (.ref (He.ga K "stands_ahead"))
  g_stands_from : mg "stands_from" = some (.ref (He.ga K "stands_from"))
  g_steps_from : mg "steps_from" = some (.ref (He.ga K "steps_from"))
  x_NoAnswers : ExK K mg "NoAnswers"
  x_NoLength : ExK K mg "NoLength"
  x_NoPlace : ExK K mg "NoPlace"
  x_NoStands : ExK K mg "NoStands"
  x_NoStretch : ExK K mg "NoStretch"
  c_LONGEST_GOING : ∃ t, mg "LONGEST_GOING" = some (.int 16 t)
  c_LONGEST_PATH : ∃ t, mg "LONGEST_PATH" = some (.int 60 t)
  c_MOST_STANDS : ∃ t, mg "MOST_STANDS" = some (.int 40 t)
  c_WORDS : mg "WORDS" = some (.ref (He.ga K "WORDS"))
  q_WORDS : ∀ H, SqT K H (He.ga K "WORDS") [.str "warm", .str "cold", .str "same"]
def forB : Stmt → List Stmt
  | .For _ _ b _ _ => b
  | _ => []
def ifT : Stmt → Expr
  | .If e _ _ _ => e
  | _ => .Constant .none 0 ⟨0, 0, 0, 0⟩
def retV : Stmt → Expr
  | .Return (some e) _ => e
  | _ => .Constant .none 0 ⟨0, 0, 0, 0⟩
def cmpL : Expr → Expr
  | .Compare e _ _ _ => e
  | e => e
def arg0 : Expr → Expr
  | .Call _ (e :: _) _ _ => e
  | e => e
def lamA : Expr → Arguments
  | .Lambda a _ _ _ => a
  | _ => defArgs s_law
def lamB : Expr → Expr
  | .Lambda _ b _ _ => b
  | e => e
def lamS : Expr → Scope
  | .Lambda _ _ s _ => s
  | _ => defScope s_law
def nthS (l : List Stmt) (i : Nat) : Stmt := l.getD i (.Pass ⟨0, 0, 0, 0⟩)
abbrev bodyL : List Stmt := forB (nthS (defBody s_law) 0)
abbrev le_law_0 : Expr := arg0 (cmpL (ifT (nthS (forB (nthS bodyL 6)) 0)))
abbrev le_law_1 : Expr := arg0 (cmpL (ifT (nthS bodyL 7)))
abbrev le_law_2 : Expr := arg0 (cmpL (ifT (nthS (forB (nthS bodyL 8)) 0)))
abbrev le_law_3 : Expr := arg0 (cmpL (ifT (nthS (forB (nthS bodyL 8)) 1)))
abbrev q_law : Str := ("law" : Str) ++ ".<locals>." ++ "<lambda>"
abbrev le__law_short_refused_0 : Expr := arg0 (cmpL (ifT (nthS (defBody s__law_short_refused) 1)))
abbrev le__law_short_refused_1 : Expr := arg0 (cmpL (retV (nthS (defBody s__law_short_refused) 2)))
abbrev q__law_short_refused : Str := ("_law_short_refused" : Str) ++ ".<locals>." ++ "<lambda>"
abbrev TT (K : PySem.W.Frag) : List (Addr × Str) := [((He.cT K ("law", none)).2, q_law), ((He.cT K ("_law_short_refused", none)).2, q__law_short_refused)]
section
variable {P : Program} {w : World} {K : PySem.W.Frag} {mg : Str → Option Value} {base : Heap}
theorem tl_of (X : TlX K) (hfile : P.main.file = PySem.Challenge.pw_warmcold_k15_who_is_refused.main.file) (htop : (P.main.scope.names.lookup ("super" : Str)).isSome = false) (hm0 : mg "super" = none) (hg : mg "TooLong" = some (.ref (He.ga K "TooLong"))) (e : fnC K ("TooLong", some "__init__") = DefC.val ⟨("TooLong", some "__init__"), "__init__", "TooLong.__init__", defArgs s_TL, defBody s_TL, defScope s_TL⟩) (h : tlFB K ("TooLong", some "__init__") "TooLong.__init__" (He.ga K "TooLong") PySem.Challenge.pw_warmcold_k15_who_is_refused.main.file = true) : TlK P w K mg base := by
  obtain ⟨oc, od, osl, kV, doc, pm, an, ct, cc, c, lk, hcd, hf, hc⟩ := tlFB_ok (dc := ⟨("TooLong", some "__init__"), "__init__", "TooLong.__init__", defArgs s_TL, defBody s_TL, defScope s_TL⟩) e h
  have TF : TlF P K (He.ga K "TooLong") (He.fAd K ("TooLong", some "__init__")) cc c := ⟨X.oex, X.most, by rw [hfile]; exact hf, hc, htop, X.opq, X.sup, X.ve, X.mro⟩
  refine ⟨hg, X.oex, _, _, tl_init (tj := tJoin [(tC (.str (Str.ofString "the path has more than "))), (tFmt (tVar 1)), (tC (.str (Str.ofString " places")))]) TF hm0 lk hcd (NdefX.nscope_by (by decide +kernel)) (by rfl) (by rfl) (by decide +kernel) (fun A outer s H E => pe_joined (.cons pe_str (.cons (pe_fmt (pv 1)) (.cons pe_str .nil)))) ?_ (fun env => by rfl) (fun env => by rfl) (fun env e => by unfold interactive; rw [e]; rfl) (fun env => ⟨_, by rfl⟩), X.ini, X.tyI, ?_⟩
  · intro σ H Q i h1 b0 b1 q
    exact tl_say h1 b0 b1 q
  · exact .all fun us hl => match us, hl with | [_, _], _ => rfl
theorem ok_is_whole {f : Addr} {fd : FuncData} (F : FunD K "is_whole" "is_whole" (defArgs s_is_whole) (defBody s_is_whole) (defScope s_is_whole) [] [] f fd) (W : Wd P w K mg base)  : FnOk P w K mg base (L2N.CX P w) 1 f fd ["value"] (sp_is_whole K) := by
  refine F.ok sc_is_whole (fun vs H Q E h => len_is_whole h) (fun cdv A outer s H vs Q E hr h => ⟨t_is_whole K, PSs.nox ?_, pure_is_whole h⟩)
  exact (pss_one (ps_ret (pe_and (pe_callB call_isi (by rfl) W.z_isinstance bb_isinstance (pa_cons (pv 0) (pa_cons (pe_bltn (v := .ty "int") (by rfl) W.z_int bt_int rfl) pa_nil))) (pe_one (pe_not (pe_callB call_isi (by rfl) W.z_isinstance bb_isinstance (pa_cons (pv 0) (pa_cons (pe_bltn (v := .ty "bool") (by rfl) W.z_bool bt_bool rfl) pa_nil))))))))
theorem ok_is_place {f : Addr} {fd : FuncData} (F : FunD K "is_place" "is_place" (defArgs s_is_place) (defBody s_is_place) (defScope s_is_place) [] [] f fd) (W : Wd P w K mg base) (O_is_whole : OwnC P w K mg base (L2N.CX P w) 1 "is_whole" ["value"] (sp_is_whole K)) : FnOk P w K mg base (L2N.CX P w) 2 f fd ["value", "length"] (sp_is_place K) := by
  refine F.ok sc_is_place (fun vs H Q E h => len_is_place h) (fun cdv A outer s H vs Q E hr h => ⟨t_is_place K, PSs.nox ?_, pure_is_place h⟩)
  exact (pss_one (ps_ret (pe_and (pe_callC O_is_whole hr (by first | decide | omega) (by rfl) passN0 (pa_cons (pv 0) pa_nil)) (pe_one (pe_chain op_le op_le pe_int (pv 0) (pv 1))))))
theorem ok_is_word {f : Addr} {fd : FuncData} (F : FunD K "is_word" "is_word" (defArgs s_is_word) (defBody s_is_word) (defScope s_is_word) [] [] f fd) (W : Wd P w K mg base)  : FnOk P w K mg base (L2N.CX P w) 1 f fd ["value"] (sp_is_word K) := by
  refine F.ok sc_is_word (fun vs H Q E h => len_is_word h) (fun cdv A outer s H vs Q E hr h => ⟨t_is_word K, PSs.nox ?_, pure_is_word W.q_WORDS h⟩)
  exact (pss_one (ps_ret (pe_and (pe_callB call_isi (by rfl) W.z_isinstance bb_isinstance (pa_cons (pv 0) (pa_cons (pe_bltn (v := .ty "str") (by rfl) W.z_str bt_str rfl) pa_nil))) (pe_one (pe_cmpR op_in_seq (pv 0) (pe_glob (by rfl) W.c_WORDS rfl) rfl)))))
theorem ok_check_length {f : Addr} {fd : FuncData} (F : FunD K "check_length" "check_length" (defArgs s_check_length) (defBody s_check_length) (defScope s_check_length) [] [] f fd) (W : Wd P w K mg base) (O_is_place : OwnC P w K mg base (L2N.CX P w) 2 "is_place" ["value", "length"] (sp_is_place K)) : FnOk P w K mg base (L2N.CX P w) 3 f fd ["length"] (sp_check_length K) := by
  refine F.ok sc_check_length (fun vs H Q E h => len_check_length h) (fun cdv A outer s H vs Q E hr h => ⟨t_check_length K E, ?_, pure_check_length h⟩)
  exact (pss_one (ps_if (pt_not (pt_val (pe_callC O_is_place hr (by first | decide | omega) (by rfl) passN0 (pa_cons (pv 0) (pa_cons (pe_glob (by rfl) W.c_LONGEST_PATH.choose_spec ⟨_, rfl⟩) pa_nil))))) (pss_one (ps_rz W.x_NoLength rfl (L2N.takes_of rfl rfl rfl rfl) (by rfl) (pe_joined (.cons pe_str (.cons (pe_fmt (pe_glob (by rfl) W.c_LONGEST_PATH.choose_spec ⟨_, rfl⟩)) .nil))))) pss_nil))
theorem ok_check_going_length {f : Addr} {fd : FuncData} (F : FunD K "check_going_length" "check_going_length" (defArgs s_check_going_length) (defBody s_check_going_length) (defScope s_check_going_length) [] [] f fd) (W : Wd P w K mg base) (O_check_length : OwnC P w K mg base (L2N.CX P w) 3 "check_length" ["length"] (sp_check_length K)) : FnOk P w K mg base (L2N.CX P w) 4 f fd ["length"] (sp_check_going_length K) := by
  refine F.ok sc_check_going_length (fun vs H Q E h => len_check_going_length h) (fun cdv A outer s H vs Q E hr h => ⟨t_check_going_length K E, ?_, pure_check_going_length h⟩)
  exact (pss_cons (ps_expr (pe_callC O_check_length hr (by first | decide | omega) (by rfl) (passNE (L2N.takes_of rfl rfl rfl rfl)) (pa_cons (pv 0) pa_nil)))   (pss_one (ps_if (pt_cmpR op_gt (pv 0) (pe_glob (by rfl) W.c_LONGEST_GOING.choose_spec ⟨_, rfl⟩) (nomark _)) (pss_one (ps_rzT W.TL rfl (L2N.takes_of rfl rfl rfl rfl) hr (by first | decide | omega) (by rfl) (pe_glob (by rfl) W.c_LONGEST_GOING.choose_spec ⟨_, rfl⟩))) pss_nil)))
theorem ok_check_place {f : Addr} {fd : FuncData} (F : FunD K "check_place" "check_place" (defArgs s_check_place) (defBody s_check_place) (defScope s_check_place) [] [] f fd) (W : Wd P w K mg base) (O_is_place : OwnC P w K mg base (L2N.CX P w) 2 "is_place" ["value", "length"] (sp_is_place K)) : FnOk P w K mg base (L2N.CX P w) 3 f fd ["place", "length"] (sp_check_place K) := by
  refine F.ok sc_check_place (fun vs H Q E h => len_check_place h) (fun cdv A outer s H vs Q E hr h => ⟨t_check_place K E, ?_, pure_check_place h⟩)
  exact (pss_one (ps_if (pt_not (pt_val (pe_callC O_is_place hr (by first | decide | omega) (by rfl) passN0 (pa_cons (pv 0) (pa_cons (pv 1) pa_nil))))) (pss_one (ps_rz W.x_NoPlace rfl (L2N.takes_of rfl rfl rfl rfl) (by rfl) (pe_joined (.cons pe_str (.cons (pe_fmt (pv 1)) .nil))))) pss_nil))
theorem ok_check_stands {f : Addr} {fd : FuncData} (F : FunD K "check_stands" "check_stands" (defArgs s_check_stands) (defBody s_check_stands) (defScope s_check_stands) [] [] f fd) (W : Wd P w K mg base) (O_is_place : OwnC P w K mg base (L2N.CX P w) 2 "is_place" ["value", "length"] (sp_is_place K)) : FnOk P w K mg base (L2N.CX P w) 3 f fd ["stands", "length"] (sp_check_stands K) := by
  refine F.ok sc_check_stands (fun vs H Q E h => len_check_stands h) (fun cdv A outer s H vs Q E hr h => ⟨t_check_stands K E, ?_, pure_check_stands h⟩)
  exact (pss_cons (ps_if (PW.pt (pw_or (pt_not (pt_val (pe_callB call_isi (by rfl) W.z_isinstance bb_isinstance (pa_cons (pv 0) (pa_cons (pe_bltn (v := .ty "list") (by rfl) W.z_list bt_list rfl) pa_nil))))) (pw_or1 (pt_cmpR op_gt (pe_callB call_len_seq (by rfl) W.z_len PySem.boot_len (pa_cons (pv 0) pa_nil)) (pe_glob (by rfl) W.c_MOST_STANDS.choose_spec ⟨_, rfl⟩) (nomark _))))) (pss_one (ps_rz W.x_NoStands rfl (L2N.takes_of rfl rfl rfl rfl) (by rfl) (pe_joined (.cons pe_str (.cons (pe_fmt (pe_glob (by rfl) W.c_MOST_STANDS.choose_spec ⟨_, rfl⟩)) (.cons pe_str .nil)))))) pss_nil)   (pss_one (ps_if (pt_not (pt_val (pe_callB (cr_all rfl) (by rfl) W.z_all bb_all (pa_cons (pe_lc (own := [("stand", 2)]) (g := (gName 2)) (tt := tYes) (by rfl) sc_check_stands.nd (pi_list (pv 0)) (blkOk_by (own := [("stand", 2)]) (N := N_check_stands) (sc := defScope s_check_stands) (by decide +kernel)) (fun _ _ _ _ _ => (pg_name (i := 2) sc_check_stands.nd rfl (Or.inl rfl))) (fun _ _ _ _ _ => pts_nil) (fun _ _ _ _ _ => (pe_callC O_is_place hr (by first | decide | omega) (by rfl) passN0 (pa_cons (pv 2) (pa_cons (pv 1) pa_nil))))) pa_nil)))) (pss_one (ps_rz W.x_NoStands rfl (L2N.takes_of rfl rfl rfl rfl) (by rfl) (pe_joined (.cons pe_str (.cons (pe_fmt (pv 1)) .nil))))) pss_nil)))
theorem ok_check_answers {f : Addr} {fd : FuncData} (F : FunD K "check_answers" "check_answers" (defArgs s_check_answers) (defBody s_check_answers) (defScope s_check_answers) [] [] f fd) (W : Wd P w K mg base) (O_is_word : OwnC P w K mg base (L2N.CX P w) 1 "is_word" ["value"] (sp_is_word K)) : FnOk P w K mg base (L2N.CX P w) 2 f fd ["answers", "stands"] (sp_check_answers K) := by
  refine F.ok sc_check_answers (fun vs H Q E h => len_check_answers h) (fun cdv A outer s H vs Q E hr h => ⟨t_check_answers K E, ?_, pure_check_answers h⟩)
  exact (pss_cons (ps_set (i := 2) sc_check_answers.nd rfl (Or.inl rfl) (pe_callB (call_max2 rfl) (by rfl) W.z_max bb_max (pa_cons pe_int (pa_cons (pe_op op_sub (pe_callB call_len_seq (by rfl) W.z_len PySem.boot_len (pa_cons (pv 1) pa_nil)) pe_int) pa_nil))))   (pss_cons (ps_if (PW.pt (pw_or (pt_not (pt_val (pe_callB call_isi (by rfl) W.z_isinstance bb_isinstance (pa_cons (pv 0) (pa_cons (pe_bltn (v := .ty "list") (by rfl) W.z_list bt_list rfl) pa_nil))))) (pw_or1 (pt_cmpR op_ne (pe_callB call_len_seq (by rfl) W.z_len PySem.boot_len (pa_cons (pv 0) pa_nil)) (pv 2) (nomark _))))) (pss_one (ps_rz W.x_NoAnswers rfl (L2N.takes_of rfl rfl rfl rfl) (by rfl) (pe_joined (.cons pe_str (.cons (pe_fmt (pv 2)) (.cons pe_str .nil)))))) pss_nil)   (pss_one (ps_if (pt_not (pt_val (pe_callB (cr_all rfl) (by rfl) W.z_all bb_all (pa_cons (pe_lc (own := [("answer", 3)]) (g := (gName 3)) (tt := tYes) (by rfl) sc_check_answers.nd (pi_list (pv 0)) (blkOk_by (own := [("answer", 3)]) (N := N_check_answers) (sc := defScope s_check_answers) (by decide +kernel)) (fun _ _ _ _ _ => (pg_name (i := 3) sc_check_answers.nd rfl (Or.inl rfl))) (fun _ _ _ _ _ => pts_nil) (fun _ _ _ _ _ => (pe_callC O_is_word hr (by first | decide | omega) (by rfl) passN0 (pa_cons (pv 3) pa_nil)))) pa_nil)))) (pss_one (ps_rz W.x_NoAnswers rfl (L2N.takes_of rfl rfl rfl rfl) (by rfl) pe_str)) pss_nil))))
theorem ok_check_stretch {f : Addr} {fd : FuncData} (F : FunD K "check_stretch" "check_stretch" (defArgs s_check_stretch) (defBody s_check_stretch) (defScope s_check_stretch) [] [] f fd) (W : Wd P w K mg base) (O_is_place : OwnC P w K mg base (L2N.CX P w) 2 "is_place" ["value", "length"] (sp_is_place K)) : FnOk P w K mg base (L2N.CX P w) 3 f fd ["stretch", "length"] (sp_check_stretch K) := by
  refine F.ok sc_check_stretch (fun vs H Q E h => len_check_stretch h) (fun cdv A outer s H vs Q E hr h => ⟨t_check_stretch K E, ?_, pure_check_stretch h⟩)
  exact (pss_cons (ps_if (PW.pt (pw_or (pt_not (pt_val (pe_callB call_isi (by rfl) W.z_isinstance bb_isinstance (pa_cons (pv 0) (pa_cons (pe_bltn (v := .ty "tuple") (by rfl) W.z_tuple bt_tuple rfl) pa_nil))))) (pw_or1 (pt_cmpR op_ne (pe_callB call_len_seq (by rfl) W.z_len PySem.boot_len (pa_cons (pv 0) pa_nil)) pe_int (nomark _))))) (pss_one (ps_rz W.x_NoStretch rfl (L2N.takes_of rfl rfl rfl rfl) (by rfl) pe_str)) pss_nil)   (pss_cons (ps_asg (pv 0) (pg_tup rfl (pgs_cons (pg_name (i := 2) sc_check_stretch.nd rfl (Or.inl rfl)) (pgs_cons (pg_name (i := 3) sc_check_stretch.nd rfl (Or.inl rfl)) pgs_nil))))   (pss_one (ps_if (PW.pt (pw_or (pt_not (pt_val (pe_callC O_is_place hr (by first | decide | omega) (by rfl) passN0 (pa_cons (pv 2) (pa_cons (pv 1) pa_nil))))) (pw_or (pt_not (pt_val (pe_callC O_is_place hr (by first | decide | omega) (by rfl) passN0 (pa_cons (pv 3) (pa_cons (pv 1) pa_nil))))) (pw_or1 (pt_cmpR op_gt (pv 2) (pv 3) (nomark _)))))) (pss_one (ps_rz W.x_NoStretch rfl (L2N.takes_of rfl rfl rfl rfl) (by rfl) (pe_joined (.cons pe_str (.cons (pe_fmt (pv 1)) .nil))))) pss_nil))))
theorem ok_word_for {f : Addr} {fd : FuncData} (F : FunD K "word_for" "word_for" (defArgs s_word_for) (defBody s_word_for) (defScope s_word_for) [] [] f fd) (W : Wd P w K mg base)  : FnOk P w K mg base (L2N.CX P w) 1 f fd ["before", "after"] (sp_word_for K) := by
  refine F.ok sc_word_for (fun vs H Q E h => len_word_for h) (fun cdv A outer s H vs Q E hr h => ⟨t_word_for K, PSs.nox ?_, pure_word_for h⟩)
  exact (pss_cons (ps_if (pt_cmpR op_lt (pv 1) (pv 0) (nomark _)) (pss_one (ps_ret pe_str)) pss_nil)   (pss_cons (ps_if (pt_cmpR op_gt (pv 1) (pv 0) (nomark _)) (pss_one (ps_ret pe_str)) pss_nil)   (pss_one (ps_ret pe_str))))
theorem ok_answer_to_move {f : Addr} {fd : FuncData} (F : FunD K "answer_to_move" "answer_to_move" (defArgs s_answer_to_move) (defBody s_answer_to_move) (defScope s_answer_to_move) [] [] f fd) (W : Wd P w K mg base) (O_word_for : OwnC P w K mg base (L2N.CX P w) 1 "word_for" ["before", "after"] (sp_word_for K)) : FnOk P w K mg base (L2N.CX P w) 2 f fd ["thing", "earlier", "later"] (sp_answer_to_move K) := by
  refine F.ok sc_answer_to_move (fun vs H Q E h => len_answer_to_move h) (fun cdv A outer s H vs Q E hr h => ⟨t_answer_to_move K, PSs.nox ?_, pure_answer_to_move h⟩)
  exact (pss_one (ps_ret (pe_callC O_word_for hr (by first | decide | omega) (by rfl) passN0 (pa_cons (pe_callB call_abs (by rfl) W.z_abs bb_abs (pa_cons (pe_op op_sub (pv 0) (pv 1)) pa_nil)) (pa_cons (pe_callB call_abs (by rfl) W.z_abs bb_abs (pa_cons (pe_op op_sub (pv 0) (pv 2)) pa_nil)) pa_nil)))))
theorem ok_row_of_answers {f : Addr} {fd : FuncData} (F : FunD K "row_of_answers" "row_of_answers" (defArgs s_row_of_answers) (defBody s_row_of_answers) (defScope s_row_of_answers) [] [] f fd) (W : Wd P w K mg base) (O_answer_to_move : OwnC P w K mg base (L2N.CX P w) 2 "answer_to_move" ["thing", "earlier", "later"] (sp_answer_to_move K)) : FnOk P w K mg base (L2N.CX P w) 3 f fd ["thing", "stands"] (sp_row_of_answers K) := by
  refine F.ok sc_row_of_answers (fun vs H Q E h => len_row_of_answers h) (fun cdv A outer s H vs Q E hr h => ⟨t_row_of_answers K, PSs.nox ?_, pure_row_of_answers h⟩)
  exact (pss_one (ps_ret (pe_lc (own := [("earlier", 2), ("later", 3)]) (g := (gTup K 2 (gCons (gName 2) (gCons (gName 3) gNil)))) (tt := tYes) (by rfl) sc_row_of_answers.nd (pi_zip (by rfl) W.z_zip (pa_cons (pv 1) (pa_cons (pe_slice sl_list (pv 1) (po_some pe_int) po_none) pa_nil))) (blkOk_by (own := [("earlier", 2), ("later", 3)]) (N := N_row_of_answers) (sc := defScope s_row_of_answers) (by decide +kernel)) (fun _ _ _ _ _ => (pg_tup rfl (pgs_cons (pg_name (i := 2) sc_row_of_answers.nd rfl (Or.inl rfl)) (pgs_cons (pg_name (i := 3) sc_row_of_answers.nd rfl (Or.inl rfl)) pgs_nil)))) (fun _ _ _ _ _ => pts_nil) (fun _ _ _ _ _ => (pe_callC O_answer_to_move hr (by first | decide | omega) (by rfl) passN0 (pa_cons (pv 0) (pa_cons (pv 2) (pa_cons (pv 3) pa_nil))))))))
theorem ok_answers_to {f : Addr} {fd : FuncData} (F : FunD K "answers_to" "answers_to" (defArgs s_answers_to) (defBody s_answers_to) (defScope s_answers_to) [] [] f fd) (W : Wd P w K mg base) (O_check_length : OwnC P w K mg base (L2N.CX P w) 3 "check_length" ["length"] (sp_check_length K)) (O_check_place : OwnC P w K mg base (L2N.CX P w) 3 "check_place" ["place", "length"] (sp_check_place K)) (O_check_stands : OwnC P w K mg base (L2N.CX P w) 3 "check_stands" ["stands", "length"] (sp_check_stands K)) (O_row_of_answers : OwnC P w K mg base (L2N.CX P w) 3 "row_of_answers" ["thing", "stands"] (sp_row_of_answers K)) : FnOk P w K mg base (L2N.CX P w) 4 f fd ["length", "thing", "stands"] (sp_answers_to K) := by
  refine F.ok sc_answers_to (fun vs H Q E h => len_answers_to h) (fun cdv A outer s H vs Q E hr h => ⟨t_answers_to K E, ?_, pure_answers_to h⟩)
  exact (pss_cons (ps_expr (pe_callC O_check_length hr (by first | decide | omega) (by rfl) (passNE (L2N.takes_of rfl rfl rfl rfl)) (pa_cons (pv 0) pa_nil)))   (pss_cons (ps_expr (pe_callC O_check_place hr (by first | decide | omega) (by rfl) (passNE (L2N.takes_of rfl rfl rfl rfl)) (pa_cons (pv 1) (pa_cons (pv 0) pa_nil))))   (pss_cons (ps_expr (pe_callC O_check_stands hr (by first | decide | omega) (by rfl) (passNE (L2N.takes_of rfl rfl rfl rfl)) (pa_cons (pv 2) (pa_cons (pv 0) pa_nil))))   (pss_one (ps_ret (pe_callC O_row_of_answers hr (by first | decide | omega) (by rfl) passN0 (pa_cons (pv 1) (pa_cons (pv 2) pa_nil))))))))
theorem ok_can_lie {f : Addr} {fd : FuncData} (F : FunD K "can_lie" "can_lie" (defArgs s_can_lie) (defBody s_can_lie) (defScope s_can_lie) [] [] f fd) (W : Wd P w K mg base) (O_check_length : OwnC P w K mg base (L2N.CX P w) 3 "check_length" ["length"] (sp_check_length K)) (O_check_stands : OwnC P w K mg base (L2N.CX P w) 3 "check_stands" ["stands", "length"] (sp_check_stands K)) (O_check_answers : OwnC P w K mg base (L2N.CX P w) 2 "check_answers" ["answers", "stands"] (sp_check_answers K)) (O_row_of_answers : OwnC P w K mg base (L2N.CX P w) 3 "row_of_answers" ["thing", "stands"] (sp_row_of_answers K)) : FnOk P w K mg base (L2N.CX P w) 4 f fd ["length", "stands", "answers"] (sp_can_lie K) := by
  refine F.ok sc_can_lie (fun vs H Q E h => len_can_lie h) (fun cdv A outer s H vs Q E hr h => ⟨t_can_lie K E, ?_, pure_can_lie h⟩)
  exact (pss_cons (ps_expr (pe_callC O_check_length hr (by first | decide | omega) (by rfl) (passNE (L2N.takes_of rfl rfl rfl rfl)) (pa_cons (pv 0) pa_nil)))   (pss_cons (ps_expr (pe_callC O_check_stands hr (by first | decide | omega) (by rfl) (passNE (L2N.takes_of rfl rfl rfl rfl)) (pa_cons (pv 1) (pa_cons (pv 0) pa_nil))))   (pss_cons (ps_expr (pe_callC O_check_answers hr (by first | decide | omega) (by rfl) (passNE (L2N.takes_of rfl rfl rfl rfl)) (pa_cons (pv 2) (pa_cons (pv 1) pa_nil))))   (pss_one (ps_ret (pe_callTy call_tuple_of (by rfl) W.z_tuple bt_tuple (pa_cons (pe_lc (own := [("place", 3)]) (g := (gName 3)) (tt := (tTest (tOp (rEqD K) (tCall (sp_row_of_answers K) [] E0 (tCons (tVar 3) (tCons (tVar 1) tNil))) (tVar 2)))) (by rfl) sc_can_lie.nd (pi_range2 (by rfl) W.z_range (pa_cons pe_int (pa_cons (pe_op op_add (pv 0) pe_int) pa_nil))) (blkOk_by (own := [("place", 3)]) (N := N_can_lie) (sc := defScope s_can_lie) (by decide +kernel)) (fun _ _ _ _ _ => (pg_name (i := 3) sc_can_lie.nd rfl (Or.inl rfl))) (fun _ _ _ _ _ => (pts_one (pt_cmpR (op_eqD hr.units) (pe_callC O_row_of_answers hr (by first | decide | omega) (by rfl) passN0 (pa_cons (pv 3) (pa_cons (pv 1) pa_nil))) (pv 2) (nomark _)))) (fun _ _ _ _ _ => (pv 3))) pa_nil)))))))
theorem ok_count_wrong {f : Addr} {fd : FuncData} (F : FunD K "count_wrong" "count_wrong" (defArgs s_count_wrong) (defBody s_count_wrong) (defScope s_count_wrong) [] [] f fd) (W : Wd P w K mg base) (O_row_of_answers : OwnC P w K mg base (L2N.CX P w) 3 "row_of_answers" ["thing", "stands"] (sp_row_of_answers K)) : FnOk P w K mg base (L2N.CX P w) 4 f fd ["thing", "stands", "answers"] (sp_count_wrong K) := by
  refine F.ok sc_count_wrong (fun vs H Q E h => len_count_wrong h) (fun cdv A outer s H vs Q E hr h => ⟨t_count_wrong K, PSs.nox ?_, pure_count_wrong h⟩)
  exact (pss_cons (ps_set (i := 3) sc_count_wrong.nd rfl (Or.inl rfl) (pe_callC O_row_of_answers hr (by first | decide | omega) (by rfl) passN0 (pa_cons (pv 0) (pa_cons (pv 1) pa_nil))))   (pss_one (ps_ret (pe_callB (cr_sum rfl) (by rfl) W.z_sum bb_sum (pa_cons (pe_lc (own := [("told", 4), ("due", 5)]) (g := (gTup K 2 (gCons (gName 4) (gCons (gName 5) gNil)))) (tt := (tTest (tOp rNe (tVar 4) (tVar 5)))) (by rfl) sc_count_wrong.nd (pi_zip (by rfl) W.z_zip (pa_cons (pv 2) (pa_cons (pv 3) pa_nil))) (blkOk_by (own := [("told", 4), ("due", 5)]) (N := N_count_wrong) (sc := defScope s_count_wrong) (by decide +kernel)) (fun _ _ _ _ _ => (pg_tup rfl (pgs_cons (pg_name (i := 4) sc_count_wrong.nd rfl (Or.inl rfl)) (pgs_cons (pg_name (i := 5) sc_count_wrong.nd rfl (Or.inl rfl)) pgs_nil)))) (fun _ _ _ _ _ => (pts_one (pt_cmpR op_ne (pv 4) (pv 5) (nomark _)))) (fun _ _ _ _ _ => pe_int)) pa_nil)))))
theorem ok_fewest_wrong {f : Addr} {fd : FuncData} (F : FunD K "fewest_wrong" "fewest_wrong" (defArgs s_fewest_wrong) (defBody s_fewest_wrong) (defScope s_fewest_wrong) [] [] f fd) (W : Wd P w K mg base) (O_check_length : OwnC P w K mg base (L2N.CX P w) 3 "check_length" ["length"] (sp_check_length K)) (O_check_stands : OwnC P w K mg base (L2N.CX P w) 3 "check_stands" ["stands", "length"] (sp_check_stands K)) (O_check_answers : OwnC P w K mg base (L2N.CX P w) 2 "check_answers" ["answers", "stands"] (sp_check_answers K)) (O_count_wrong : OwnC P w K mg base (L2N.CX P w) 4 "count_wrong" ["thing", "stands", "answers"] (sp_count_wrong K)) : FnOk P w K mg base (L2N.CX P w) 5 f fd ["length", "stands", "answers"] (sp_fewest_wrong K) := by
  refine F.ok sc_fewest_wrong (fun vs H Q E h => len_fewest_wrong h) (fun cdv A outer s H vs Q E hr h => ⟨t_fewest_wrong K E, ?_, pure_fewest_wrong h⟩)
  exact (pss_cons (ps_expr (pe_callC O_check_length hr (by first | decide | omega) (by rfl) (passNE (L2N.takes_of rfl rfl rfl rfl)) (pa_cons (pv 0) pa_nil)))   (pss_cons (ps_expr (pe_callC O_check_stands hr (by first | decide | omega) (by rfl) (passNE (L2N.takes_of rfl rfl rfl rfl)) (pa_cons (pv 1) (pa_cons (pv 0) pa_nil))))   (pss_cons (ps_expr (pe_callC O_check_answers hr (by first | decide | omega) (by rfl) (passNE (L2N.takes_of rfl rfl rfl rfl)) (pa_cons (pv 2) (pa_cons (pv 1) pa_nil))))   (pss_cons (ps_set (i := 3) sc_fewest_wrong.nd rfl (Or.inl rfl) (pe_listRg (by rfl) (by rfl) W.z_list (prg_2 (by rfl) W.z_range pe_int (pe_op op_add (pv 0) pe_int))))   (pss_cons (ps_setLc (i := 4) (own := [("place", 5)]) (g := (gName 5)) (tt := tYes) (by rfl) sc_fewest_wrong.nd rfl rfl (sw_true rfl rfl rfl (by decide +kernel)) (pi_list (pv 3)) (blkOk_by (own := [("place", 5)]) (N := N_fewest_wrong) (sc := defScope s_fewest_wrong) (by decide +kernel)) (fun _ _ _ _ _ => (pg_name (i := 5) sc_fewest_wrong.nd rfl (Or.inl rfl))) (fun _ _ _ _ _ => pts_nil) (fun _ _ _ _ _ => (pe_callC O_count_wrong hr (by first | decide | omega) (by rfl) passN0 (pa_cons (pv 5) (pa_cons (pv 1) (pa_cons (pv 2) pa_nil))))))   (pss_cons (ps_set (i := 6) sc_fewest_wrong.nd rfl (Or.inr rfl) (pe_callB (cr_min rfl) (by rfl) W.z_min bb_min (pa_cons (pv 4) pa_nil)))   (pss_one (ps_ret (pe_tup (pa_cons (pv 6) (pa_cons (pe_callTy call_tuple_of (by rfl) W.z_tuple bt_tuple (pa_cons (pe_lc (own := [("place", 5), ("count", 7)]) (g := (gTup K 2 (gCons (gName 5) (gCons (gName 7) gNil)))) (tt := (tTest (tOp rEq (tVar 7) (tVar 6)))) (by rfl) sc_fewest_wrong.nd (pi_zip (by rfl) W.z_zip (pa_cons (pv 3) (pa_cons (pv 4) pa_nil))) (blkOk_by (own := [("place", 5), ("count", 7)]) (N := N_fewest_wrong) (sc := defScope s_fewest_wrong) (by decide +kernel)) (fun _ _ _ _ _ => (pg_tup rfl (pgs_cons (pg_name (i := 5) sc_fewest_wrong.nd rfl (Or.inl rfl)) (pgs_cons (pg_name (i := 7) sc_fewest_wrong.nd rfl (Or.inl rfl)) pgs_nil)))) (fun _ _ _ _ _ => (pts_one (pt_cmpR op_eq (pv 7) (pv 6) (nomark _)))) (fun _ _ _ _ _ => (pv 5))) pa_nil)) pa_nil)))))))))))
theorem ok_rows_of_all_places {f : Addr} {fd : FuncData} (F : FunD K "rows_of_all_places" "rows_of_all_places" (defArgs s_rows_of_all_places) (defBody s_rows_of_all_places) (defScope s_rows_of_all_places) [] [] f fd) (W : Wd P w K mg base) (O_row_of_answers : OwnC P w K mg base (L2N.CX P w) 3 "row_of_answers" ["thing", "stands"] (sp_row_of_answers K)) : FnOk P w K mg base (L2N.CX P w) 4 f fd ["length", "stands"] (sp_rows_of_all_places K) := by
  refine F.ok sc_rows_of_all_places (fun vs H Q E h => len_rows_of_all_places h) (fun cdv A outer s H vs Q E hr h => ⟨t_rows_of_all_places K, PSs.nox ?_, pure_rows_of_all_places h⟩)
  exact (pss_one (ps_ret (pe_lc (own := [("place", 2)]) (g := (gName 2)) (tt := tYes) (by rfl) sc_rows_of_all_places.nd (pi_range2 (by rfl) W.z_range (pa_cons pe_int (pa_cons (pe_op op_add (pv 0) pe_int) pa_nil))) (blkOk_by (own := [("place", 2)]) (N := N_rows_of_all_places) (sc := defScope s_rows_of_all_places) (by decide +kernel)) (fun _ _ _ _ _ => (pg_name (i := 2) sc_rows_of_all_places.nd rfl (Or.inl rfl))) (fun _ _ _ _ _ => pts_nil) (fun _ _ _ _ _ => (pe_callTy call_tuple_of (by rfl) W.z_tuple bt_tuple (pa_cons (pe_callC O_row_of_answers hr (by first | decide | omega) (by rfl) passN0 (pa_cons (pv 2) (pa_cons (pv 1) pa_nil))) pa_nil))))))
theorem ok_how_many {f : Addr} {fd : FuncData} (F : FunD K "how_many" "how_many" (defArgs s_how_many) (defBody s_how_many) (defScope s_how_many) [] [] f fd) (W : Wd P w K mg base) (O_check_length : OwnC P w K mg base (L2N.CX P w) 3 "check_length" ["length"] (sp_check_length K)) (O_check_stands : OwnC P w K mg base (L2N.CX P w) 3 "check_stands" ["stands", "length"] (sp_check_stands K)) (O_rows_of_all_places : OwnC P w K mg base (L2N.CX P w) 4 "rows_of_all_places" ["length", "stands"] (sp_rows_of_all_places K)) : FnOk P w K mg base (L2N.CX P w) 5 f fd ["length", "stands"] (sp_how_many K) := by
  refine F.ok sc_how_many (fun vs H Q E h => len_how_many h) (fun cdv A outer s H vs Q E hr h => ⟨t_how_many K E, ?_, pure_how_many h⟩)
  exact (pss_cons (ps_expr (pe_callC O_check_length hr (by first | decide | omega) (by rfl) (passNE (L2N.takes_of rfl rfl rfl rfl)) (pa_cons (pv 0) pa_nil)))   (pss_cons (ps_expr (pe_callC O_check_stands hr (by first | decide | omega) (by rfl) (passNE (L2N.takes_of rfl rfl rfl rfl)) (pa_cons (pv 1) (pa_cons (pv 0) pa_nil))))   (pss_one (ps_ret (pe_lenSetW (by rfl) hr.units (by rfl) W.z_len (by rfl) W.z_set (pe_callC O_rows_of_all_places hr (by first | decide | omega) (by rfl) passN0 (pa_cons (pv 0) (pa_cons (pv 1) pa_nil))))))))
theorem ok_alike {f : Addr} {fd : FuncData} (F : FunD K "alike" "alike" (defArgs s_alike) (defBody s_alike) (defScope s_alike) [] [] f fd) (W : Wd P w K mg base) (O_check_length : OwnC P w K mg base (L2N.CX P w) 3 "check_length" ["length"] (sp_check_length K)) (O_check_stands : OwnC P w K mg base (L2N.CX P w) 3 "check_stands" ["stands", "length"] (sp_check_stands K)) (O_rows_of_all_places : OwnC P w K mg base (L2N.CX P w) 4 "rows_of_all_places" ["length", "stands"] (sp_rows_of_all_places K)) : FnOk P w K mg base (L2N.CX P w) 5 f fd ["length", "stands"] (sp_alike K) := by
  refine F.ok sc_alike (fun vs H Q E h => len_alike h) (fun cdv A outer s H vs Q E hr h => ⟨t_alike K E, ?_, pure_alike h⟩)
  exact (pss_cons (ps_expr (pe_callC O_check_length hr (by first | decide | omega) (by rfl) (passNE (L2N.takes_of rfl rfl rfl rfl)) (pa_cons (pv 0) pa_nil)))   (pss_cons (ps_expr (pe_callC O_check_stands hr (by first | decide | omega) (by rfl) (passNE (L2N.takes_of rfl rfl rfl rfl)) (pa_cons (pv 1) (pa_cons (pv 0) pa_nil))))   (pss_cons (ps_set (i := 2) sc_alike.nd rfl (Or.inl rfl) (pe_callC O_rows_of_all_places hr (by first | decide | omega) (by rfl) passN0 (pa_cons (pv 0) (pa_cons (pv 1) pa_nil))))   (pss_cons (ps_for PassesOwn.leaving rfl (pi_range2 (by rfl) W.z_range (pa_cons pe_int (pa_cons (pv 0) pa_nil))) (pg_name (i := 3) sc_alike.nd rfl (Or.inl rfl)) (pss_one (ps_if (pt_cmpR (op_eqD hr.units) (pe_ix ix_list (pv 2) (pe_op op_sub (pv 3) pe_int) (fun _ _ => rfl)) (pe_ix ix_list (pv 2) (pv 3) (fun _ _ => rfl)) (nomark _)) (pss_one (ps_ret (pe_tup (pa_cons (pv 3) (pa_cons (pe_op op_add (pv 3) pe_int) pa_nil))))) pss_nil)))   (pss_one (ps_ret pe_non))))))
theorem ok_fewest_ahead {f : Addr} {fd : FuncData} (F : FunD K "fewest_ahead" "fewest_ahead" (defArgs s_fewest_ahead) (defBody s_fewest_ahead) (defScope s_fewest_ahead) [] [] f fd) (W : Wd P w K mg base) (O_stands_ahead : OwnC P w K mg base (L2N.CX P w) 4 "stands_ahead" ["length"] (sp_stands_ahead K)) : FnOk P w K mg base (L2N.CX P w) 5 f fd ["length"] (sp_fewest_ahead K) := by
  refine F.ok sc_fewest_ahead (fun vs H Q E h => len_fewest_ahead h) (fun cdv A outer s H vs Q E hr h => ⟨t_fewest_ahead K E, ?_, pure_fewest_ahead h⟩)
  exact (pss_one (ps_ret (pe_callB call_len_seq (by rfl) W.z_len PySem.boot_len (pa_cons (pe_callC O_stands_ahead hr (by first | decide | omega) (by rfl) (passNE (L2N.takes_of rfl rfl rfl rfl)) (pa_cons (pv 0) pa_nil)) pa_nil))))
theorem ok_stands_ahead {f : Addr} {fd : FuncData} (F : FunD K "stands_ahead" "stands_ahead" (defArgs s_stands_ahead) (defBody s_stands_ahead) (defScope s_stands_ahead) [] [] f fd) (W : Wd P w K mg base) (O_check_length : OwnC P w K mg base (L2N.CX P w) 3 "check_length" ["length"] (sp_check_length K)) : FnOk P w K mg base (L2N.CX P w) 4 f fd ["length"] (sp_stands_ahead K) := by
  refine F.ok sc_stands_ahead (fun vs H Q E h => len_stands_ahead h) (fun cdv A outer s H vs Q E hr h => ⟨t_stands_ahead K E, ?_, pure_stands_ahead h⟩)
  exact (pss_cons (ps_expr (pe_callC O_check_length hr (by first | decide | omega) (by rfl) (passNE (L2N.takes_of rfl rfl rfl rfl)) (pa_cons (pv 0) pa_nil)))   (pss_cons (ps_if (pt_cmpR op_eq (pv 0) pe_int (nomark _)) (pss_one (ps_ret (pe_lst pa_nil))) pss_nil)   (pss_cons (ps_set (i := 1) sc_stands_ahead.nd rfl (Or.inl rfl) (pe_listRg3 (by rfl) (by rfl) W.z_list (by rfl) W.z_range (pa_cons pe_int (pa_cons (pe_op op_add (pv 0) pe_int) (pa_cons pe_int pa_nil)))))   (Evl.pss_cut (ps_if (pt_cmpR op_eq (pe_op op_mod (pv 0) pe_int) pe_int (nomark _)) (pss_one (ps_expr (pe_bm PySem.F.plainAttrs_list PySem.F.slot_list_append PySem.F.type_list_append mt_append (pv 1) (pa_cons (pv 0) pa_nil)))) pss_nil)   (pss_one (ps_ret (pv 1)))))))
theorem ok_parts_of {f : Addr} {fd : FuncData} (F : FunD K "parts_of" "parts_of" (defArgs s_parts_of) (defBody s_parts_of) (defScope s_parts_of) [] [] f fd) (W : Wd P w K mg base)  : FnOk P w K mg base (L2N.CX P w) 1 f fd ["stretch", "earlier", "later"] (sp_parts_of K) := by
  refine F.ok sc_parts_of (fun vs H Q E h => len_parts_of h) (fun cdv A outer s H vs Q E hr h => ⟨t_parts_of K, PSs.nox ?_, pure_parts_of h⟩)
  exact (pss_cons (ps_asg (pv 0) (pg_tup rfl (pgs_cons (pg_name (i := 3) sc_parts_of.nd rfl (Or.inl rfl)) (pgs_cons (pg_name (i := 4) sc_parts_of.nd rfl (Or.inl rfl)) pgs_nil))))   (pss_cons (ps_set (i := 5) sc_parts_of.nd rfl (Or.inl rfl) (pe_op op_add (pv 1) (pv 2)))   (pss_cons (ps_set (i := 6) sc_parts_of.nd rfl (Or.inl rfl) (pe_tup (pa_cons (pv 3) (pa_cons (pe_callB (call_min2 rfl) (by rfl) W.z_min bb_min (pa_cons (pv 4) (pa_cons (pe_op op_fdiv (pe_op op_sub (pv 5) pe_int) pe_int) pa_nil))) pa_nil))))   (pss_cons (ps_set (i := 7) sc_parts_of.nd rfl (Or.inl rfl) (pe_tup (pa_cons (pe_callB (call_max2 rfl) (by rfl) W.z_max bb_max (pa_cons (pv 3) (pa_cons (pe_op op_fdiv (pe_op op_add (pv 5) pe_int) pe_int) pa_nil))) (pa_cons (pe_callB (call_min2 rfl) (by rfl) W.z_min bb_min (pa_cons (pv 4) (pa_cons (pe_op op_fdiv (pv 5) pe_int) pa_nil))) pa_nil))))   (pss_cons (ps_set (i := 8) sc_parts_of.nd rfl (Or.inl rfl) (pe_tup (pa_cons (pe_callB (call_max2 rfl) (by rfl) W.z_max bb_max (pa_cons (pv 3) (pa_cons (pe_op op_add (pe_op op_fdiv (pv 5) pe_int) pe_int) pa_nil))) (pa_cons (pv 4) pa_nil))))   (pss_one (ps_ret (pe_lc (own := [("part", 9)]) (g := (gName 9)) (tt := (tTest (tOp (rI0 fun i j => .bl (decide (i ≤ j))) (tOp (rIxT K) (tVar 9) (tC (.int 0))) (tOp (rIxT K) (tVar 9) (tC (.int 1)))))) (by rfl) sc_parts_of.nd (pi_tup (pe_tup (pa_cons (pv 6) (pa_cons (pv 7) (pa_cons (pv 8) pa_nil))))) (blkOk_by (own := [("part", 9)]) (N := N_parts_of) (sc := defScope s_parts_of) (by decide +kernel)) (fun _ _ _ _ _ => (pg_name (i := 9) sc_parts_of.nd rfl (Or.inl rfl))) (fun _ _ _ _ _ => (pts_one (pt_cmpR op_le (pe_ix ix_tup (pv 9) pe_int (fun _ _ => rfl)) (pe_ix ix_tup (pv 9) pe_int (fun _ _ => rfl)) (nomark _)))) (fun _ _ _ _ _ => (pv 9))))))))))
theorem ok_other_places {f : Addr} {fd : FuncData} (F : FunD K "other_places" "other_places" (defArgs s_other_places) (defBody s_other_places) (defScope s_other_places) [] [] f fd) (W : Wd P w K mg base)  : FnOk P w K mg base (L2N.CX P w) 1 f fd ["length", "place"] (sp_other_places K) := by
  refine F.ok sc_other_places (fun vs H Q E h => len_other_places h) (fun cdv A outer s H vs Q E hr h => ⟨t_other_places K, PSs.nox ?_, pure_other_places h⟩)
  exact (pss_one (ps_ret (pe_lc (own := [("other", 2)]) (g := (gName 2)) (tt := (tTest (tOp rNe (tVar 2) (tVar 1)))) (by rfl) sc_other_places.nd (pi_range2 (by rfl) W.z_range (pa_cons pe_int (pa_cons (pe_op op_add (pv 0) pe_int) pa_nil))) (blkOk_by (own := [("other", 2)]) (N := N_other_places) (sc := defScope s_other_places) (by decide +kernel)) (fun _ _ _ _ _ => (pg_name (i := 2) sc_other_places.nd rfl (Or.inl rfl))) (fun _ _ _ _ _ => (pts_one (pt_cmpR op_ne (pv 2) (pv 1) (nomark _)))) (fun _ _ _ _ _ => (pv 2)))))
theorem ok_stands_are_enough {N : Nat} {f : Addr} {fd : FuncData} (F : FunD K "stands_are_enough" "stands_are_enough" (defArgs s_stands_are_enough) (defBody s_stands_are_enough) (defScope s_stands_are_enough) [] [] f fd) (W : Wd P w K mg base)  (O_first_onward : OwnC P w K mg base (L2N.CX P w) (1 + 2 + 2 * N) "first_onward" ["length", "stretch", "place", "many", "known"] (sp_first_onward K P w N)) : FnOk P w K mg base (L2N.CX P w) ((1 + 2 + 2 * N) + 1) f fd ["length", "stretch", "place", "many", "known"] (sp_stands_are_enough K P w (N + 1)) := by
  refine F.ok sc_stands_are_enough (fun vs H Q E h => len_stands_are_enough h) (fun cdv A outer s H vs Q E hr h => ⟨t_stands_are_enough K P w N, PSs.nox ?_, pure_stands_are_enough h⟩)
  exact (pss_cons (ps_asg (pv 1) (pg_tup rfl (pgs_cons (pg_name (i := 5) sc_stands_are_enough.nd rfl (Or.inl rfl)) (pgs_cons (pg_name (i := 6) sc_stands_are_enough.nd rfl (Or.inl rfl)) pgs_nil))))   (pss_cons (ps_if (pt_cmpR op_eq (pv 5) (pv 6) (nomark _)) (pss_one (ps_ret pe_bl)) pss_nil)   (pss_cons (ps_if (pt_cmpR op_ge (pe_op op_add (pe_op op_sub (pv 6) (pv 5)) pe_int) (pe_op op_shl pe_int (pv 3)) (nomark _)) (pss_one (ps_ret pe_bl)) pss_nil)   (pss_cons (ps_set (i := 7) sc_stands_are_enough.nd rfl (Or.inl rfl) (pe_tup (pa_cons (pv 5) (pa_cons (pv 6) (pa_cons (pv 2) (pa_cons (pv 3) pa_nil))))))   (Evl.pss_cut (ps_if (pt_cmpR (Fl.op_notInN (units65 hr)) (pv 7) (pv 4) rfl) (pss_one (Fl.ps_nput (units65 hr) (pv 4) (pv 7) (pe_cmpR op_notN (pe_callC O_first_onward hr (by first | decide | omega) (by rfl) passN0 (pa_cons (pv 0) (pa_cons (pv 1) (pa_cons (pv 2) (pa_cons (pv 3) (pa_cons (pv 4) pa_nil)))))) pe_non (nomark _)) (by rfl))) pss_nil)   (pss_one (ps_ret (Fl.pe_nget (units65 hr) (pv 4) (pv 7) (fun _ _ => rfl)))))))))
theorem ok0_stands_are_enough {f : Addr} {fd : FuncData} (F : FunD K "stands_are_enough" "stands_are_enough" (defArgs s_stands_are_enough) (defBody s_stands_are_enough) (defScope s_stands_are_enough) [] [] f fd) : FnOk P w K mg base (L2N.CX P w) (1 + 1) f fd ["length", "stretch", "place", "many", "known"] (sp_stands_are_enough K P w 0) := F.ok sc_stands_are_enough (fun vs H Q E h => len_stands_are_enough h) (fun cdv A outer s H vs Q E hr h => (no_stands_are_enough h).elim)
theorem ok_first_onward {N : Nat} {f : Addr} {fd : FuncData} (F : FunD K "first_onward" "first_onward" (defArgs s_first_onward) (defBody s_first_onward) (defScope s_first_onward) [] [] f fd) (W : Wd P w K mg base) (O_other_places : OwnC P w K mg base (L2N.CX P w) 1 "other_places" ["length", "place"] (sp_other_places K)) (O_parts_of : OwnC P w K mg base (L2N.CX P w) 1 "parts_of" ["stretch", "earlier", "later"] (sp_parts_of K)) (O_stands_are_enough : OwnC P w K mg base (L2N.CX P w) (1 + 1 + 2 * N) "stands_are_enough" ["length", "stretch", "place", "many", "known"] (sp_stands_are_enough K P w N)) : FnOk P w K mg base (L2N.CX P w) ((1 + 1 + 2 * N) + 1) f fd ["length", "stretch", "place", "many", "known"] (sp_first_onward K P w N) := by
  refine F.ok sc_first_onward (fun vs H Q E h => len_first_onward h) (fun cdv A outer s H vs Q E hr h => ⟨t_first_onward K P w N, PSs.nox ?_, pure_first_onward h⟩)
  exact (pss_cons (ps_for PassesOwn.never rfl (pi_list (pe_callC O_other_places hr (by first | decide | omega) (by rfl) passN0 (pa_cons (pv 0) (pa_cons (pv 2) pa_nil)))) (pg_name (i := 5) sc_first_onward.nd rfl (Or.inr rfl)) (pss_cons (ps_set (i := 6) sc_first_onward.nd rfl (Or.inl rfl) (pe_callC O_parts_of hr (by first | decide | omega) (by rfl) passN0 (pa_cons (pv 1) (pa_cons (pv 2) (pa_cons (pv 5) pa_nil)))))   (pss_one (ps_if (pt_val (pe_callB (cr_all rfl) (by rfl) W.z_all bb_all (pa_cons (pe_lc (own := [("part", 7)]) (g := (gName 7)) (tt := tYes) (by rfl) sc_first_onward.nd (pi_list (pv 6)) (blkOk_by (own := [("part", 7)]) (N := N_first_onward) (sc := defScope s_first_onward) (by decide +kernel)) (fun _ _ _ _ _ => (pg_name (i := 7) sc_first_onward.nd rfl (Or.inl rfl))) (fun _ _ _ _ _ => pts_nil) (fun _ _ _ _ _ => (pe_callC O_stands_are_enough hr (by first | decide | omega) (by rfl) passN0 (pa_cons (pv 0) (pa_cons (pv 7) (pa_cons (pv 5) (pa_cons (pe_op op_sub (pv 3) pe_int) (pa_cons (pv 4) pa_nil)))))))) pa_nil))) (pss_one (ps_ret (pv 5))) pss_nil))))   (pss_one (ps_ret pe_non)))
theorem ok_stands_from {f : Addr} {fd : FuncData} (F : FunD K "stands_from" "stands_from" (defArgs s_stands_from) (defBody s_stands_from) (defScope s_stands_from) [] [] f fd) (W : Wd P w K mg base) (O_check_going_length : OwnC P w K mg base (L2N.CX P w) 4 "check_going_length" ["length"] (sp_check_going_length K)) (O_check_stretch : OwnC P w K mg base (L2N.CX P w) 3 "check_stretch" ["stretch", "length"] (sp_check_stretch K)) (O_check_place : OwnC P w K mg base (L2N.CX P w) 3 "check_place" ["place", "length"] (sp_check_place K)) (O_stands_are_enough : OwnC P w K mg base (L2N.CX P w) 82 "stands_are_enough" ["length", "stretch", "place", "many", "known"] (sp_stands_are_enough K P w 40)) (O_first_onward : OwnC P w K mg base (L2N.CX P w) 83 "first_onward" ["length", "stretch", "place", "many", "known"] (sp_first_onward K P w 40)) : FnOk P w K mg base (L2N.CX P w) 84 f fd ["length", "stretch", "place"] (sp_stands_from K) := by
  refine F.ok sc_stands_from (fun vs H Q E h => len_stands_from h) (fun cdv A outer s H vs Q E hr h => ⟨t_stands_from K P w E, ?_, pure_stands_from h⟩)
  exact (pss_cons (ps_expr (pe_callC O_check_going_length hr (by first | decide | omega) (by rfl) (passNE (L2N.takes_of rfl rfl rfl rfl)) (pa_cons (pv 0) pa_nil)))   (pss_cons (ps_expr (pe_callC O_check_stretch hr (by first | decide | omega) (by rfl) (passNE (L2N.takes_of rfl rfl rfl rfl)) (pa_cons (pv 1) (pa_cons (pv 0) pa_nil))))   (pss_cons (ps_expr (pe_callC O_check_place hr (by first | decide | omega) (by rfl) (passNE (L2N.takes_of rfl rfl rfl rfl)) (pa_cons (pv 2) (pa_cons (pv 0) pa_nil))))   (pss_cons (ps_set (i := 3) sc_stands_from.nd rfl (Or.inl rfl) Fl.pe_nnew)   (pss_cons (ps_set (i := 4) sc_stands_from.nd rfl (Or.inl rfl) pe_int)   (pss_cons (ps_while PassesOwn.leaving (pt_not (pt_val (pe_callC O_stands_are_enough hr (by first | decide | omega) (by rfl) passN0 (pa_cons (pv 0) (pa_cons (pv 1) (pa_cons (pv 2) (pa_cons (pv 4) (pa_cons (pv 3) pa_nil)))))))) (pss_one (ps_aug (i := 4) sc_stands_from.nd rfl (Or.inl rfl) pe_int ip_add)))   (pss_cons (ps_if (pt_cmpR op_eq (pv 4) pe_int (nomark _)) (pss_one (ps_ret (pe_tup (pa_cons pe_int (pa_cons pe_non pa_nil))))) pss_nil)   (pss_one (ps_ret (pe_tup (pa_cons (pv 4) (pa_cons (pe_callC O_first_onward hr (by first | decide | omega) (by rfl) passN0 (pa_cons (pv 0) (pa_cons (pv 1) (pa_cons (pv 2) (pa_cons (pv 4) (pa_cons (pv 3) pa_nil)))))) pa_nil))))))))))))
theorem ok_stands_at_all {f : Addr} {fd : FuncData} (F : FunD K "stands_at_all" "stands_at_all" (defArgs s_stands_at_all) (defBody s_stands_at_all) (defScope s_stands_at_all) [] [] f fd) (W : Wd P w K mg base) (O_check_going_length : OwnC P w K mg base (L2N.CX P w) 4 "check_going_length" ["length"] (sp_check_going_length K)) (O_stands_are_enough : OwnC P w K mg base (L2N.CX P w) 82 "stands_are_enough" ["length", "stretch", "place", "many", "known"] (sp_stands_are_enough K P w 40)) : FnOk P w K mg base (L2N.CX P w) 83 f fd ["length"] (sp_stands_at_all K) := by
  refine F.ok sc_stands_at_all (fun vs H Q E h => len_stands_at_all h) (fun cdv A outer s H vs Q E hr h => ⟨t_stands_at_all K P w E, ?_, pure_stands_at_all h⟩)
  exact (pss_cons (ps_expr (pe_callC O_check_going_length hr (by first | decide | omega) (by rfl) (passNE (L2N.takes_of rfl rfl rfl rfl)) (pa_cons (pv 0) pa_nil)))   (pss_cons (ps_if (pt_cmpR op_eq (pv 0) pe_int (nomark _)) (pss_one (ps_ret (pe_tup (pa_cons pe_int (pa_cons pe_non pa_nil))))) pss_nil)   (pss_cons (ps_set (i := 1) sc_stands_at_all.nd rfl (Or.inl rfl) Fl.pe_nnew)   (pss_cons (ps_set (i := 2) sc_stands_at_all.nd rfl (Or.inl rfl) pe_int)   (pss_one (ps_while PassesOwn.leaving (pt_val pe_bl) (pss_cons (ps_aug (i := 2) sc_stands_at_all.nd rfl (Or.inl rfl) pe_int ip_add)   (pss_one (ps_for PassesOwn.leaving rfl (pi_range2 (by rfl) W.z_range (pa_cons pe_int (pa_cons (pe_op op_add (pv 0) pe_int) pa_nil))) (pg_name (i := 3) sc_stands_at_all.nd rfl (Or.inl rfl)) (pss_one (ps_if (pt_val (pe_callC O_stands_are_enough hr (by first | decide | omega) (by rfl) passN0 (pa_cons (pv 0) (pa_cons (pe_tup (pa_cons pe_int (pa_cons (pv 0) pa_nil))) (pa_cons (pv 3) (pa_cons (pv 2) (pa_cons (pv 1) pa_nil))))))) (pss_one (ps_ret (pe_tup (pa_cons (pe_op op_add (pv 2) pe_int) (pa_cons (pv 3) pa_nil))))) pss_nil)))))))))))
theorem ok_least_steps {f : Addr} {fd : FuncData} (F : FunD K "least_steps" "least_steps" (defArgs s_least_steps) (defBody s_least_steps) (defScope s_least_steps) [] [] f fd) (W : Wd P w K mg base)  : FnOk P w K mg base (L2N.CX P w) 1 f fd ["stretch", "place"] (sp_least_steps K) := by
  refine F.ok sc_least_steps (fun vs H Q E h => len_least_steps h) (fun cdv A outer s H vs Q E hr h => ⟨t_least_steps K, PSs.nox ?_, pure_least_steps h⟩)
  exact (pss_cons (ps_asg (pv 0) (pg_tup rfl (pgs_cons (pg_name (i := 2) sc_least_steps.nd rfl (Or.inl rfl)) (pgs_cons (pg_name (i := 3) sc_least_steps.nd rfl (Or.inl rfl)) pgs_nil))))   (pss_cons (ps_if (pt_cmpR op_eq (pv 2) (pv 3) (nomark _)) (pss_one (ps_ret pe_int)) pss_nil)   (pss_cons (ps_if (pt_cmpR op_le (pv 1) (pv 2) (nomark _)) (pss_one (ps_ret (pe_op op_sub (pv 3) (pv 1)))) pss_nil)   (pss_cons (ps_if (pt_cmpR op_ge (pv 1) (pv 3) (nomark _)) (pss_one (ps_ret (pe_op op_sub (pv 1) (pv 2)))) pss_nil)   (pss_cons (ps_set (i := 4) sc_least_steps.nd rfl (Or.inl rfl) (pe_callB (call_max2 rfl) (by rfl) W.z_max bb_max (pa_cons (pe_op op_sub (pv 3) (pv 1)) (pa_cons (pe_op op_add (pe_op op_sub (pv 1) (pv 2)) pe_int) pa_nil))))   (pss_cons (ps_set (i := 5) sc_least_steps.nd rfl (Or.inl rfl) (pe_callB (call_max2 rfl) (by rfl) W.z_max bb_max (pa_cons (pe_op op_sub (pv 1) (pv 2)) (pa_cons (pe_op op_add (pe_op op_sub (pv 3) (pv 1)) pe_int) pa_nil))))   (pss_one (ps_ret (pe_callB (call_min2 rfl) (by rfl) W.z_min bb_min (pa_cons (pv 4) (pa_cons (pv 5) pa_nil)))))))))))
theorem ok_steps_by {f : Addr} {fd : FuncData} (F : FunD K "steps_by" "steps_by" (defArgs s_steps_by) (defBody s_steps_by) (defScope s_steps_by) [] [] f fd) (W : Wd P w K mg base) (O_parts_of : OwnC P w K mg base (L2N.CX P w) 1 "parts_of" ["stretch", "earlier", "later"] (sp_parts_of K)) (O_least_steps : OwnC P w K mg base (L2N.CX P w) 1 "least_steps" ["stretch", "place"] (sp_least_steps K)) : FnOk P w K mg base (L2N.CX P w) 2 f fd ["stretch", "place", "onward"] (sp_steps_by K) := by
  refine F.ok sc_steps_by (fun vs H Q E h => len_steps_by h) (fun cdv A outer s H vs Q E hr h => ⟨t_steps_by K, PSs.nox ?_, pure_steps_by h⟩)
  exact (pss_cons (ps_set (i := 3) sc_steps_by.nd rfl (Or.inl rfl) (pe_callC O_parts_of hr (by first | decide | omega) (by rfl) passN0 (pa_cons (pv 0) (pa_cons (pv 1) (pa_cons (pv 2) pa_nil)))))   (pss_one (ps_ret (pe_op op_add (pe_callB call_abs (by rfl) W.z_abs bb_abs (pa_cons (pe_op op_sub (pv 2) (pv 1)) pa_nil)) (pe_callB (cr_max rfl) (by rfl) W.z_max bb_max (pa_cons (pe_lc (own := [("part", 4)]) (g := (gName 4)) (tt := tYes) (by rfl) sc_steps_by.nd (pi_list (pv 3)) (blkOk_by (own := [("part", 4)]) (N := N_steps_by) (sc := defScope s_steps_by) (by decide +kernel)) (fun _ _ _ _ _ => (pg_name (i := 4) sc_steps_by.nd rfl (Or.inl rfl))) (fun _ _ _ _ _ => pts_nil) (fun _ _ _ _ _ => (pe_callC O_least_steps hr (by first | decide | omega) (by rfl) passN0 (pa_cons (pv 4) (pa_cons (pv 2) pa_nil))))) pa_nil))))))
theorem ok_steps_from {f : Addr} {fd : FuncData} (F : FunD K "steps_from" "steps_from" (defArgs s_steps_from) (defBody s_steps_from) (defScope s_steps_from) [] [] f fd) (W : Wd P w K mg base) (O_check_going_length : OwnC P w K mg base (L2N.CX P w) 4 "check_going_length" ["length"] (sp_check_going_length K)) (O_check_stretch : OwnC P w K mg base (L2N.CX P w) 3 "check_stretch" ["stretch", "length"] (sp_check_stretch K)) (O_check_place : OwnC P w K mg base (L2N.CX P w) 3 "check_place" ["place", "length"] (sp_check_place K)) (O_least_steps : OwnC P w K mg base (L2N.CX P w) 1 "least_steps" ["stretch", "place"] (sp_least_steps K)) (O_other_places : OwnC P w K mg base (L2N.CX P w) 1 "other_places" ["length", "place"] (sp_other_places K)) (O_steps_by : OwnC P w K mg base (L2N.CX P w) 2 "steps_by" ["stretch", "place", "onward"] (sp_steps_by K)) : FnOk P w K mg base (L2N.CX P w) 5 f fd ["length", "stretch", "place"] (sp_steps_from K) := by
  refine F.ok sc_steps_from (fun vs H Q E h => len_steps_from h) (fun cdv A outer s H vs Q E hr h => ⟨t_steps_from K E, ?_, pure_steps_from h⟩)
  exact (pss_cons (ps_expr (pe_callC O_check_going_length hr (by first | decide | omega) (by rfl) (passNE (L2N.takes_of rfl rfl rfl rfl)) (pa_cons (pv 0) pa_nil)))   (pss_cons (ps_expr (pe_callC O_check_stretch hr (by first | decide | omega) (by rfl) (passNE (L2N.takes_of rfl rfl rfl rfl)) (pa_cons (pv 1) (pa_cons (pv 0) pa_nil))))   (pss_cons (ps_expr (pe_callC O_check_place hr (by first | decide | omega) (by rfl) (passNE (L2N.takes_of rfl rfl rfl rfl)) (pa_cons (pv 2) (pa_cons (pv 0) pa_nil))))   (pss_cons (ps_set (i := 3) sc_steps_from.nd rfl (Or.inr rfl) (pe_callC O_least_steps hr (by first | decide | omega) (by rfl) passN0 (pa_cons (pv 1) (pa_cons (pv 2) pa_nil))))   (pss_cons (ps_if (pt_cmpR op_eq (pv 3) pe_int (nomark _)) (pss_one (ps_ret (pe_tup (pa_cons pe_int (pa_cons pe_non pa_nil))))) pss_nil)   (pss_cons (ps_setLc (i := 4) (own := [("onward", 5)]) (g := (gName 5)) (tt := (tTest (tOp rEq (tCall (sp_steps_by K) [] E0 (tCons (tVar 1) (tCons (tVar 2) (tCons (tVar 5) tNil)))) (tVar 3)))) (by rfl) sc_steps_from.nd rfl rfl (sw_true rfl rfl rfl (by decide +kernel)) (pi_list (pe_callC O_other_places hr (by first | decide | omega) (by rfl) passN0 (pa_cons (pv 0) (pa_cons (pv 2) pa_nil)))) (blkOk_by (own := [("onward", 5)]) (N := N_steps_from) (sc := defScope s_steps_from) (by decide +kernel)) (fun _ _ _ _ _ => (pg_name (i := 5) sc_steps_from.nd rfl (Or.inl rfl))) (fun _ _ _ _ _ => (pts_one (pt_cmpR op_eq (pe_callC O_steps_by hr (by first | decide | omega) (by rfl) passN0 (pa_cons (pv 1) (pa_cons (pv 2) (pa_cons (pv 5) pa_nil)))) (pv 3) (nomark _)))) (fun _ _ _ _ _ => (pv 5)))   (pss_one (ps_ret (pe_tup (pa_cons (pv 3) (pa_cons (pe_ix ix_list (pv 4) pe_int (fun _ _ => rfl)) pa_nil)))))))))))
theorem ok_far_round {f : Addr} {fd : FuncData} (F : FunD K "far_round" "far_round" (defArgs s_far_round) (defBody s_far_round) (defScope s_far_round) [] [] f fd) (W : Wd P w K mg base)  : FnOk P w K mg base (L2N.CX P w) 1 f fd ["length", "one", "other"] (sp_far_round K) := by
  refine F.ok sc_far_round (fun vs H Q E h => len_far_round h) (fun cdv A outer s H vs Q E hr h => ⟨t_far_round K, PSs.nox ?_, pure_far_round h⟩)
  exact (pss_cons (ps_set (i := 3) sc_far_round.nd rfl (Or.inl rfl) (pe_callB call_abs (by rfl) W.z_abs bb_abs (pa_cons (pe_op op_sub (pv 1) (pv 2)) pa_nil)))   (pss_one (ps_ret (pe_callB (call_min2 rfl) (by rfl) W.z_min bb_min (pa_cons (pv 3) (pa_cons (pe_op op_sub (pv 0) (pv 3)) pa_nil))))))
theorem ok_row_round {f : Addr} {fd : FuncData} (F : FunD K "row_round" "row_round" (defArgs s_row_round) (defBody s_row_round) (defScope s_row_round) [] [] f fd) (W : Wd P w K mg base) (O_far_round : OwnC P w K mg base (L2N.CX P w) 1 "far_round" ["length", "one", "other"] (sp_far_round K)) (O_word_for : OwnC P w K mg base (L2N.CX P w) 1 "word_for" ["before", "after"] (sp_word_for K)) : FnOk P w K mg base (L2N.CX P w) 2 f fd ["length", "thing", "stands"] (sp_row_round K) := by
  refine F.ok sc_row_round (fun vs H Q E h => len_row_round h) (fun cdv A outer s H vs Q E hr h => ⟨t_row_round K, PSs.nox ?_, pure_row_round h⟩)
  exact (pss_cons (ps_setLc (i := 3) (own := [("stand", 4)]) (g := (gName 4)) (tt := tYes) (by rfl) sc_row_round.nd rfl rfl (sw_true rfl rfl rfl (by decide +kernel)) (pi_list (pv 2)) (blkOk_by (own := [("stand", 4)]) (N := N_row_round) (sc := defScope s_row_round) (by decide +kernel)) (fun _ _ _ _ _ => (pg_name (i := 4) sc_row_round.nd rfl (Or.inl rfl))) (fun _ _ _ _ _ => pts_nil) (fun _ _ _ _ _ => (pe_callC O_far_round hr (by first | decide | omega) (by rfl) passN0 (pa_cons (pv 0) (pa_cons (pv 1) (pa_cons (pv 4) pa_nil))))))   (pss_one (ps_ret (pe_lc (own := [("before", 5), ("after", 6)]) (g := (gTup K 2 (gCons (gName 5) (gCons (gName 6) gNil)))) (tt := tYes) (by rfl) sc_row_round.nd (pi_zip (by rfl) W.z_zip (pa_cons (pv 3) (pa_cons (pe_slice sl_list (pv 3) (po_some pe_int) po_none) pa_nil))) (blkOk_by (own := [("before", 5), ("after", 6)]) (N := N_row_round) (sc := defScope s_row_round) (by decide +kernel)) (fun _ _ _ _ _ => (pg_tup rfl (pgs_cons (pg_name (i := 5) sc_row_round.nd rfl (Or.inl rfl)) (pgs_cons (pg_name (i := 6) sc_row_round.nd rfl (Or.inl rfl)) pgs_nil)))) (fun _ _ _ _ _ => pts_nil) (fun _ _ _ _ _ => (pe_callC O_word_for hr (by first | decide | omega) (by rfl) passN0 (pa_cons (pv 5) (pa_cons (pv 6) pa_nil))))))))
theorem ok_can_lie_round {f : Addr} {fd : FuncData} (F : FunD K "can_lie_round" "can_lie_round" (defArgs s_can_lie_round) (defBody s_can_lie_round) (defScope s_can_lie_round) [] [] f fd) (W : Wd P w K mg base) (O_check_length : OwnC P w K mg base (L2N.CX P w) 3 "check_length" ["length"] (sp_check_length K)) (O_check_stands : OwnC P w K mg base (L2N.CX P w) 3 "check_stands" ["stands", "length"] (sp_check_stands K)) (O_check_answers : OwnC P w K mg base (L2N.CX P w) 2 "check_answers" ["answers", "stands"] (sp_check_answers K)) (O_row_round : OwnC P w K mg base (L2N.CX P w) 2 "row_round" ["length", "thing", "stands"] (sp_row_round K)) : FnOk P w K mg base (L2N.CX P w) 4 f fd ["length", "stands", "answers"] (sp_can_lie_round K) := by
  refine F.ok sc_can_lie_round (fun vs H Q E h => len_can_lie_round h) (fun cdv A outer s H vs Q E hr h => ⟨t_can_lie_round K E, ?_, pure_can_lie_round h⟩)
  exact (pss_cons (ps_expr (pe_callC O_check_length hr (by first | decide | omega) (by rfl) (passNE (L2N.takes_of rfl rfl rfl rfl)) (pa_cons (pv 0) pa_nil)))   (pss_cons (ps_expr (pe_callC O_check_stands hr (by first | decide | omega) (by rfl) (passNE (L2N.takes_of rfl rfl rfl rfl)) (pa_cons (pv 1) (pa_cons (pv 0) pa_nil))))   (pss_cons (ps_expr (pe_callC O_check_answers hr (by first | decide | omega) (by rfl) (passNE (L2N.takes_of rfl rfl rfl rfl)) (pa_cons (pv 2) (pa_cons (pv 1) pa_nil))))   (pss_one (ps_ret (pe_callTy call_tuple_of (by rfl) W.z_tuple bt_tuple (pa_cons (pe_lc (own := [("place", 3)]) (g := (gName 3)) (tt := (tTest (tOp (rEqD K) (tCall (sp_row_round K) [] E0 (tCons (tVar 0) (tCons (tVar 3) (tCons (tVar 1) tNil)))) (tVar 2)))) (by rfl) sc_can_lie_round.nd (pi_range2 (by rfl) W.z_range (pa_cons pe_int (pa_cons (pe_op op_add (pv 0) pe_int) pa_nil))) (blkOk_by (own := [("place", 3)]) (N := N_can_lie_round) (sc := defScope s_can_lie_round) (by decide +kernel)) (fun _ _ _ _ _ => (pg_name (i := 3) sc_can_lie_round.nd rfl (Or.inl rfl))) (fun _ _ _ _ _ => (pts_one (pt_cmpR (op_eqD hr.units) (pe_callC O_row_round hr (by first | decide | omega) (by rfl) passN0 (pa_cons (pv 0) (pa_cons (pv 3) (pa_cons (pv 1) pa_nil)))) (pv 2) (nomark _)))) (fun _ _ _ _ _ => (pv 3))) pa_nil)))))))
theorem ok_how_many_round {f : Addr} {fd : FuncData} (F : FunD K "how_many_round" "how_many_round" (defArgs s_how_many_round) (defBody s_how_many_round) (defScope s_how_many_round) [] [] f fd) (W : Wd P w K mg base) (O_check_length : OwnC P w K mg base (L2N.CX P w) 3 "check_length" ["length"] (sp_check_length K)) (O_check_stands : OwnC P w K mg base (L2N.CX P w) 3 "check_stands" ["stands", "length"] (sp_check_stands K)) (O_row_round : OwnC P w K mg base (L2N.CX P w) 2 "row_round" ["length", "thing", "stands"] (sp_row_round K)) : FnOk P w K mg base (L2N.CX P w) 4 f fd ["length", "stands"] (sp_how_many_round K) := by
  refine F.ok sc_how_many_round (fun vs H Q E h => len_how_many_round h) (fun cdv A outer s H vs Q E hr h => ⟨t_how_many_round K E, ?_, pure_how_many_round h⟩)
  exact (pss_cons (ps_expr (pe_callC O_check_length hr (by first | decide | omega) (by rfl) (passNE (L2N.takes_of rfl rfl rfl rfl)) (pa_cons (pv 0) pa_nil)))   (pss_cons (ps_expr (pe_callC O_check_stands hr (by first | decide | omega) (by rfl) (passNE (L2N.takes_of rfl rfl rfl rfl)) (pa_cons (pv 1) (pa_cons (pv 0) pa_nil))))   (pss_cons (ps_setLc (i := 2) (own := [("place", 3)]) (g := (gName 3)) (tt := tYes) (by rfl) sc_how_many_round.nd rfl rfl (sw_true rfl rfl rfl (by decide +kernel)) (pi_range2 (by rfl) W.z_range (pa_cons pe_int (pa_cons (pe_op op_add (pv 0) pe_int) pa_nil))) (blkOk_by (own := [("place", 3)]) (N := N_how_many_round) (sc := defScope s_how_many_round) (by decide +kernel)) (fun _ _ _ _ _ => (pg_name (i := 3) sc_how_many_round.nd rfl (Or.inl rfl))) (fun _ _ _ _ _ => pts_nil) (fun _ _ _ _ _ => (pe_callTy call_tuple_of (by rfl) W.z_tuple bt_tuple (pa_cons (pe_callC O_row_round hr (by first | decide | omega) (by rfl) passN0 (pa_cons (pv 0) (pa_cons (pv 3) (pa_cons (pv 1) pa_nil)))) pa_nil))))   (pss_one (ps_ret (pe_lenSetW (by rfl) hr.units (by rfl) W.z_len (by rfl) W.z_set (pv 2)))))))
theorem ok_Search___init__ {f : Addr} {fd : FuncData} (F : FunD K "__init__" "Search.__init__" (defArgs s_Search___init__) (defBody s_Search___init__) (defScope s_Search___init__) [] [] f fd) (W : Wd P w K mg base) (O_check_length : OwnC P w K mg base (L2N.CX P w) 3 "check_length" ["length"] (sp_check_length K)) : FnOk P w K mg base (L2N.CX P w) 4 f fd ["self", "length"] (sp_Search___init__ K) := by
  refine F.ok sc_Search___init__ (fun vs H Q E h => len_Search___init__ h) (fun cdv A outer s H vs Q E hr h => ⟨t_Search___init__ K E, ?_, pure_Search___init__ W.T h⟩)
  exact (pss_cons (ps_expr (pe_callC O_check_length hr (by first | decide | omega) (by rfl) (passNE (L2N.takes_of rfl rfl rfl rfl)) (pa_cons (pv 1) pa_nil)))   (pss_cons (ps_fld (pv 0) (pv 1) (by rfl))   (pss_cons (ps_fld (pv 0) (pe_lst pa_nil) (by rfl))   (pss_cons (ps_fld (pv 0) (pe_lst pa_nil) (by rfl))   (pss_one (ps_fld (pv 0) (pe_lst (pa_cons (pe_tupRg (by rfl) (by rfl) W.z_tuple (prg_2 (by rfl) W.z_range pe_int (pe_op op_add (pv 1) pe_int))) pa_nil)) (by rfl)))))))
theorem ok__law_cell_at {f : Addr} {fd : FuncData} (F : FunD K "_law_cell_at" "_law_cell_at" (defArgs s__law_cell_at) (defBody s__law_cell_at) (defScope s__law_cell_at) [] [] f fd) (W : Wd P w K mg base)  : FnOk P w K mg base (L2N.CX P w) 1 f fd ["script", "k"] (sp__law_cell_at K) := by
  refine F.ok sc__law_cell_at (fun vs H Q E h => len__law_cell_at h) (fun cdv A outer s H vs Q E hr h => ⟨t__law_cell_at K, PSs.nox ?_, pure__law_cell_at h⟩)
  exact (pss_cons (ps_if (pt_cmpR op_lt (pv 1) (pe_callB call_len_seq (by rfl) W.z_len PySem.boot_len (pa_cons (pv 0) pa_nil)) (nomark _)) (pss_one (ps_ret (pe_ix ix_list (pv 0) (pv 1) (fun _ _ => rfl)))) pss_nil)   (pss_one (ps_ret pe_int)))
theorem ok__law_draws {f : Addr} {fd : FuncData} (F : FunD K "_law_draws" "_law_draws" (defArgs s__law_draws) (defBody s__law_draws) (defScope s__law_draws) [] [] f fd) (W : Wd P w K mg base)  : FnOk P w K mg base (L2N.CX P w) 1 f fd ["cell", "many", "size"] (sp__law_draws K) := by
  refine F.ok sc__law_draws (fun vs H Q E h => len__law_draws h) (fun cdv A outer s H vs Q E hr h => ⟨t__law_draws K, PSs.nox ?_, pure__law_draws h⟩)
  exact (pss_cons (ps_set (i := 3) sc__law_draws.nd rfl (Or.inl rfl) (pe_lst pa_nil))   (pss_cons (ps_set (i := 4) sc__law_draws.nd rfl (Or.inl rfl) (pe_op op_mul (pv 0) (pe_callTy call_int1 (by rfl) W.z_int bt_int (pa_cons (pe_cmpR op_ge (pv 0) (pe_op op_pow pe_int pe_int) (nomark _)) pa_nil))))   (pss_cons (ps_set (i := 5) sc__law_draws.nd rfl (Or.inl rfl) (pe_op op_mod (pv 0) pe_int))   (pss_cons (ps_for PassesOwn.never rfl (pi_range1 (by rfl) W.z_range (pa_cons (pe_op op_add (pv 1) pe_int) pa_nil)) (pg_name (i := 6) sc__law_draws.nd rfl (Or.inl rfl)) (pss_cons (ps_set (i := 5) sc__law_draws.nd rfl (Or.inl rfl) (pe_op op_mod (pe_op op_add (pe_op op_add (pe_op op_add (pe_op op_mul (pv 5) (pv 5)) (pe_op op_mul pe_int (pv 5))) (pv 6)) pe_int) pe_int))   (pss_one (ps_if (PW.pt (pw_and (pt_cmpR op_gt (pv 6) pe_int (nomark _)) (pw_and1 (pt_cmpR op_gt (pv 4) pe_int (nomark _))))) (pss_cons (ps_expr (pe_bm PySem.F.plainAttrs_list PySem.F.slot_list_append PySem.F.type_list_append mt_append (pv 3) (pa_cons (pe_op op_mod (pv 4) (pv 2)) pa_nil)))   (pss_one (ps_set (i := 4) sc__law_draws.nd rfl (Or.inl rfl) (pe_op op_fdiv (pv 4) (pv 2))))) (pss_one (ps_if (pt_cmpR op_gt (pv 6) pe_int (nomark _)) (pss_one (ps_expr (pe_bm PySem.F.plainAttrs_list PySem.F.slot_list_append PySem.F.type_list_append mt_append (pv 3) (pa_cons (pe_op op_mod (pe_op op_fdiv (pv 5) pe_int) (pv 2)) pa_nil)))) pss_nil))))))   (pss_one (ps_ret (pv 3)))))))
theorem ok__law_bag {f : Addr} {fd : FuncData} (F : FunD K "_law_bag" "_law_bag" (defArgs s__law_bag) (defBody s__law_bag) (defScope s__law_bag) [] [] f fd) (W : Wd P w K mg base) (O__law_draws : OwnC P w K mg base (L2N.CX P w) 1 "_law_draws" ["cell", "many", "size"] (sp__law_draws K)) (O__law_cell_at : OwnC P w K mg base (L2N.CX P w) 1 "_law_cell_at" ["script", "k"] (sp__law_cell_at K)) : FnOk P w K mg base (L2N.CX P w) 2 f fd ["script", "k"] (sp__law_bag K) := by
  refine F.ok sc__law_bag (fun vs H Q E h => len__law_bag h) (fun cdv A outer s H vs Q E hr h => ⟨t__law_bag K, PSs.nox ?_, pure__law_bag h⟩)
  exact (pss_one (ps_ret (pe_lst (pa_cons (pe_callC O__law_draws hr (by first | decide | omega) (by rfl) passN0 (pa_cons (pe_callC O__law_cell_at hr (by first | decide | omega) (by rfl) passN0 (pa_cons (pv 0) (pa_cons (pv 1) pa_nil))) (pa_cons pe_int (pa_cons pe_int pa_nil)))) (pa_cons pe_int pa_nil)))))
theorem ok__law_bags {f : Addr} {fd : FuncData} (F : FunD K "_law_bags" "_law_bags" (defArgs s__law_bags) (defBody s__law_bags) (defScope s__law_bags) [] [] f fd) (W : Wd P w K mg base) (O__law_bag : OwnC P w K mg base (L2N.CX P w) 2 "_law_bag" ["script", "k"] (sp__law_bag K)) : FnOk P w K mg base (L2N.CX P w) 3 f fd ["script", "limit"] (sp__law_bags K) := by
  refine F.ok sc__law_bags (fun vs H Q E h => len__law_bags h) (fun cdv A outer s H vs Q E hr h => ⟨t__law_bags K, PSs.nox ?_, pure__law_bags h⟩)
  exact (pss_one (ps_ret (pe_lc (own := [("k", 2)]) (g := (gName 2)) (tt := tYes) (by rfl) sc__law_bags.nd (pi_range1 (by rfl) W.z_range (pa_cons (pe_callB (call_max2 rfl) (by rfl) W.z_max bb_max (pa_cons pe_int (pa_cons (pe_callB (call_min2 rfl) (by rfl) W.z_min bb_min (pa_cons (pv 1) (pa_cons (pe_callB call_len_seq (by rfl) W.z_len PySem.boot_len (pa_cons (pv 0) pa_nil)) pa_nil))) pa_nil))) pa_nil)) (blkOk_by (own := [("k", 2)]) (N := N__law_bags) (sc := defScope s__law_bags) (by decide +kernel)) (fun _ _ _ _ _ => (pg_name (i := 2) sc__law_bags.nd rfl (Or.inl rfl))) (fun _ _ _ _ _ => pts_nil) (fun _ _ _ _ _ => (pe_callC O__law_bag hr (by first | decide | omega) (by rfl) passN0 (pa_cons (pv 0) (pa_cons (pv 2) pa_nil)))))))
theorem ok__law_take {f : Addr} {fd : FuncData} (F : FunD K "_law_take" "_law_take" (defArgs s__law_take) (defBody s__law_take) (defScope s__law_take) [] [] f fd) (W : Wd P w K mg base)  : FnOk P w K mg base (L2N.CX P w) 1 f fd ["bag", "many"] (sp__law_take K) := by
  refine F.ok sc__law_take (fun vs H Q E h => len__law_take h) (fun cdv A outer s H vs Q E hr h => ⟨t__law_take K, PSs.nox ?_, pure__law_take h⟩)
  exact (pss_cons (ps_asg (pe_op op_add (pe_ix ix_list (pv 0) pe_int (fun _ _ => rfl)) pe_int) (pg_sub (pv 0) pe_int set_list))   (pss_one (ps_ret (pe_op op_mod (pe_ix ix_list (pe_ix ix_list (pv 0) pe_int (fun _ _ => rfl)) (pe_op op_mod (pe_ix ix_list (pv 0) pe_int (fun _ _ => rfl)) (pe_callB call_len_seq (by rfl) W.z_len PySem.boot_len (pa_cons (pe_ix ix_list (pv 0) pe_int (fun _ _ => rfl)) pa_nil))) (fun _ _ => rfl)) (pv 1)))))
theorem ok__law_some_stands {f : Addr} {fd : FuncData} (F : FunD K "_law_some_stands" "_law_some_stands" (defArgs s__law_some_stands) (defBody s__law_some_stands) (defScope s__law_some_stands) [] [] f fd) (W : Wd P w K mg base) (O__law_take : OwnC P w K mg base (L2N.CX P w) 1 "_law_take" ["bag", "many"] (sp__law_take K)) : FnOk P w K mg base (L2N.CX P w) 2 f fd ["bag", "length", "most"] (sp__law_some_stands K) := by
  refine F.ok sc__law_some_stands (fun vs H Q E h => len__law_some_stands h) (fun cdv A outer s H vs Q E hr h => ⟨t__law_some_stands K, PSs.nox ?_, pure__law_some_stands h⟩)
  exact (pss_cons (ps_set (i := 3) sc__law_some_stands.nd rfl (Or.inl rfl) (pe_lst pa_nil))   (pss_cons (ps_for PassesOwn.never rfl (pi_range1 (by rfl) W.z_range (pa_cons (pe_callC O__law_take hr (by first | decide | omega) (by rfl) passN0 (pa_cons (pv 0) (pa_cons (pe_op op_add (pv 2) pe_int) pa_nil))) pa_nil)) (pg_name (i := 4) sc__law_some_stands.nd rfl (Or.inl rfl)) (pss_cons (ps_set (i := 5) sc__law_some_stands.nd rfl (Or.inl rfl) (pe_op op_add pe_int (pe_callC O__law_take hr (by first | decide | omega) (by rfl) passN0 (pa_cons (pv 0) (pa_cons (pv 1) pa_nil)))))   (pss_cons (ps_if (PW.pt (pw_and (pt_cmpR (op_neD hr.units) (pv 3) (pe_lst pa_nil) (nomark _)) (pw_and1 (pt_cmpR op_eq (pe_callC O__law_take hr (by first | decide | omega) (by rfl) passN0 (pa_cons (pv 0) (pa_cons pe_int pa_nil))) pe_int (nomark _))))) (pss_one (ps_set (i := 5) sc__law_some_stands.nd rfl (Or.inl rfl) (pe_callB (call_max2 rfl) (by rfl) W.z_max bb_max (pa_cons pe_int (pa_cons (pe_callB (call_min2 rfl) (by rfl) W.z_min bb_min (pa_cons (pv 1) (pa_cons (pe_op op_sub (pe_op op_add (pe_ix ix_list (pv 3) (pe_un un_neg pe_int) (fun _ _ => rfl)) (pe_callC O__law_take hr (by first | decide | omega) (by rfl) passN0 (pa_cons (pv 0) (pa_cons pe_int pa_nil)))) pe_int) pa_nil))) pa_nil))))) pss_nil)   (pss_one (ps_expr (pe_bm PySem.F.plainAttrs_list PySem.F.slot_list_append PySem.F.type_list_append mt_append (pv 3) (pa_cons (pv 5) pa_nil)))))))   (pss_one (ps_ret (pv 3)))))
theorem ok__law_refused {f : Addr} {fd : FuncData} (F : FunD K "_law_refused" "_law_refused" (defArgs s__law_refused) (defBody s__law_refused) (defScope s__law_refused) [] [] f fd) (W : Wd P w K mg base)  : FnOk P w K mg base (L2N.CX P w) 101 f fd ["call", "one", "two", "three"] (sp__law_refused K P w mg base) := by
  refine F.ok sc__law_refused (fun vs H Q E h => len__law_refused h) (fun cdv A outer s H vs Q E hr h => ⟨t__law_refused K P w mg base, PSs.nox ?_, pure__law_refused W.EF W.ET h⟩)
  exact (pss_cons (ps_set (i := 4) sc__law_refused.nd rfl (Or.inl rfl) (pe_lst pa_nil))   (pss_cons (ps_try_nam (tb := fun WW => (tDrop (tCallW P w K mg base (L2N.CX P w) 100 0 (fun σ cls d H => WW cls d σ H) (tCons (tVar 1) (tCons (tVar 2) (tCons (tVar 3) tNil)))))) rfl rfl sc__law_refused.nd takesN0 (fun W0 pn xe tk _ => (pss_one (ps_expr (pe_callW (fun σ => L2N.passAt tk σ) hr (by first | decide | omega) rfl (.inl rfl) (pa_cons (pv 1) (pa_cons (pv 2) (pa_cons (pv 3) pa_nil))))))) (.cons ⟨by rfl, by decide, .inl W.g_TooLong⟩ rfl rfl (fun a oe cls d pn hz hf => (pss_one (ps_set (i := 4) sc__law_refused.nd rfl (Or.inl rfl) (pe_lst (pa_cons pe_str (pa_cons (pe_xf W.XF W.n_most hz.zc hf (pv 5)) (pa_cons (pe_callB (call_isD hz hf) (by rfl) W.z_isinstance bb_isinstance (pa_cons (pv 5) (pa_cons (pe_bltn (v := .ty "ValueError") (by rfl) W.z_ValueError bt_ValueError rfl) pa_nil))) pa_nil))))))) (.cons ⟨by rfl, by decide, .inl W.g_SeekError⟩ rfl rfl (fun a oe cls d pn hz hf => (pss_cons (ps_set (i := 6) sc__law_refused.nd rfl (Or.inl rfl) (pe_lst (pa_cons (pe_tup (pa_cons pe_str (pa_cons (pe_callB (call_isN hz hf) (by rfl) W.z_isinstance bb_isinstance (pa_cons (pv 5) (pa_cons (pe_glob (by rfl) W.g_NoLength rfl) pa_nil))) pa_nil))) (pa_cons (pe_tup (pa_cons pe_str (pa_cons (pe_callB (call_isN hz hf) (by rfl) W.z_isinstance bb_isinstance (pa_cons (pv 5) (pa_cons (pe_glob (by rfl) W.g_NoPlace rfl) pa_nil))) pa_nil))) pa_nil))))   (pss_cons (ps_set (i := 6) sc__law_refused.nd rfl (Or.inl rfl) (pe_op op_cat (pv 6) (pe_lst (pa_cons (pe_tup (pa_cons pe_str (pa_cons (pe_callB (call_isN hz hf) (by rfl) W.z_isinstance bb_isinstance (pa_cons (pv 5) (pa_cons (pe_glob (by rfl) W.g_NotNow rfl) pa_nil))) pa_nil))) pa_nil))))   (pss_cons (ps_set (i := 6) sc__law_refused.nd rfl (Or.inl rfl) (pe_op op_cat (pv 6) (pe_lst (pa_cons (pe_tup (pa_cons pe_str (pa_cons (pe_callB (call_isN hz hf) (by rfl) W.z_isinstance bb_isinstance (pa_cons (pv 5) (pa_cons (pe_glob (by rfl) W.g_NoStands rfl) pa_nil))) pa_nil))) (pa_cons (pe_tup (pa_cons pe_str (pa_cons (pe_callB (call_isN hz hf) (by rfl) W.z_isinstance bb_isinstance (pa_cons (pv 5) (pa_cons (pe_glob (by rfl) W.g_NoAnswers rfl) pa_nil))) pa_nil))) pa_nil)))))   (pss_cons (ps_set (i := 6) sc__law_refused.nd rfl (Or.inl rfl) (pe_op op_cat (pv 6) (pe_lst (pa_cons (pe_tup (pa_cons pe_str (pa_cons (pe_callB (call_isN hz hf) (by rfl) W.z_isinstance bb_isinstance (pa_cons (pv 5) (pa_cons (pe_glob (by rfl) W.g_NoStretch rfl) pa_nil))) pa_nil))) (pa_cons (pe_tup (pa_cons pe_str (pa_cons (pe_callB (call_isN hz hf) (by rfl) W.z_isinstance bb_isinstance (pa_cons (pv 5) (pa_cons (pe_glob (by rfl) W.g_NoAnswer rfl) pa_nil))) pa_nil))) pa_nil)))))   (pss_cons (ps_set (i := 6) sc__law_refused.nd rfl (Or.inl rfl) (pe_op op_cat (pv 6) (pe_lst (pa_cons (pe_tup (pa_cons pe_str (pa_cons (pe_callB (call_isN hz hf) (by rfl) W.z_isinstance bb_isinstance (pa_cons (pv 5) (pa_cons (pe_glob (by rfl) W.g_Never rfl) pa_nil))) pa_nil))) (pa_cons (pe_tup (pa_cons pe_str (pa_cons (pe_callB (call_isN hz hf) (by rfl) W.z_isinstance bb_isinstance (pa_cons (pv 5) (pa_cons (pe_glob (by rfl) W.g_NothingLeft rfl) pa_nil))) pa_nil))) pa_nil)))))   (pss_one (ps_set (i := 4) sc__law_refused.nd rfl (Or.inl rfl) (pe_op op_cat (pe_lcH (own := [("word", 7), ("there", 8)]) (g := (gTup K 2 (gCons (gName 7) (gCons (gName 8) gNil)))) (tt := (tB (tVar 8))) (hot_suite rfl rfl hz hf) sc__law_refused.nd (pv 6) (blkOk_by (own := [("word", 7), ("there", 8)]) (N := N__law_refused) (sc := defScope s__law_refused) (by decide +kernel)) (fun _ _ _ _ _ hot => (pg_tupH hot (pgs_cons (pg_name (i := 7) sc__law_refused.nd rfl (Or.inl rfl)) (pgs_cons (pg_name (i := 8) sc__law_refused.nd rfl (Or.inl rfl)) pgs_nil)))) (fun _ _ _ _ _ => (pts_one (pt_val (pv 8)))) (fun _ _ _ _ _ => (pv 7))) (pe_lst (pa_cons (pe_callB (call_isN hz hf) (by rfl) W.z_isinstance bb_isinstance (pa_cons (pv 5) (pa_cons (pe_bltn (v := .ty "ValueError") (by rfl) W.z_ValueError bt_ValueError rfl) pa_nil))) pa_nil))))))))))) .nil)))   (pss_one (ps_ret (pv 4)))))
theorem ls__law_short_refused_0 : NdefX.NScope ["a", "b", "c"] ["a", "b", "c"] [] (lamS le__law_short_refused_0) := NdefX.nscope_by (by decide +kernel)
theorem lr__law_short_refused_0 (O_stands_at_all : OwnC P w K mg base (L2N.CX P w) 83 "stands_at_all" ["length"] (sp_stands_at_all K)) : LamR P w K mg base q__law_short_refused (lamA le__law_short_refused_0) (lamB le__law_short_refused_0) (lamS le__law_short_refused_0) (spAll K) := fun f0 c' =>
  lam_ok (F := ⟨"<lambda>", q__law_short_refused, lamA le__law_short_refused_0, [], lamS le__law_short_refused_0, [], c'⟩) (N := ["a", "b", "c"]) (ps := ["a", "b", "c"]) (k := 99) (sp := spAll K) ls__law_short_refused_0 rfl (fun pm ctv us hl => match us, hl with | [_, _, _], _ => rfl) (fun vs H Q E ⟨a, b, c, e, _⟩ => by rw [e]; rfl)
    (fun A outer s H vs Q E hr ⟨a, b, c, e, h⟩ => ⟨tCall (sp_stands_at_all K) [] E (tCons (tVar 0) tNil), pe_callC O_stands_at_all hr (by decide) (by rfl) (passNE (L2N.takes_of rfl rfl rfl rfl)) (pa_cons (pv 0) pa_nil), by subst e; exact ⟨_, rfl, h⟩⟩)
theorem ls__law_short_refused_1 : NdefX.NScope ["a", "b", "c"] ["a", "b", "c"] [] (lamS le__law_short_refused_1) := NdefX.nscope_by (by decide +kernel)
theorem lr__law_short_refused_1 (O_stands_at_all : OwnC P w K mg base (L2N.CX P w) 83 "stands_at_all" ["length"] (sp_stands_at_all K)) : LamR P w K mg base q__law_short_refused (lamA le__law_short_refused_1) (lamB le__law_short_refused_1) (lamS le__law_short_refused_1) (spAll K) := fun f0 c' =>
  lam_ok (F := ⟨"<lambda>", q__law_short_refused, lamA le__law_short_refused_1, [], lamS le__law_short_refused_1, [], c'⟩) (N := ["a", "b", "c"]) (ps := ["a", "b", "c"]) (k := 99) (sp := spAll K) ls__law_short_refused_1 rfl (fun pm ctv us hl => match us, hl with | [_, _, _], _ => rfl) (fun vs H Q E ⟨a, b, c, e, _⟩ => by rw [e]; rfl)
    (fun A outer s H vs Q E hr ⟨a, b, c, e, h⟩ => ⟨tCall (sp_stands_at_all K) [] E (tCons (tVar 0) tNil), pe_callC O_stands_at_all hr (by decide) (by rfl) (passNE (L2N.takes_of rfl rfl rfl rfl)) (pa_cons (pv 0) pa_nil), by subst e; exact ⟨_, rfl, h⟩⟩)
theorem ok__law_short_refused {fd : FuncData} (F : FunD K "_law_short_refused" "_law_short_refused" (defArgs s__law_short_refused) (defBody s__law_short_refused) (defScope s__law_short_refused) [] [] (He.fAd K ("_law_short_refused", none)) fd) (W : Wd P w K mg base) (O_stands_from : OwnC P w K mg base (L2N.CX P w) 84 "stands_from" ["length", "stretch", "place"] (sp_stands_from K)) (O_steps_from : OwnC P w K mg base (L2N.CX P w) 5 "steps_from" ["length", "stretch", "place"] (sp_steps_from K)) (O__law_refused : OwnC P w K mg base (L2N.CX P w) 101 "_law_refused" ["call", "one", "two", "three"] (sp__law_refused K P w mg base)) (O_stands_at_all : OwnC P w K mg base (L2N.CX P w) 83 "stands_at_all" ["length"] (sp_stands_at_all K)) (TB0 : LamX.TabB base mg (He.cT K ("_law_short_refused", none)).1 (He.cT K ("_law_short_refused", none)).2) (neT : (He.cT K ("law", none)).2 ≠ (He.cT K ("_law_short_refused", none)).2) : FnOk P w K mg base (L2N.CX P w) 102 (He.fAd K ("_law_short_refused", none)) fd ["length", "none"] (sp__law_short_refused K P w mg base (TT K)) := by
  obtain ⟨oc, od, dV, kV, doc, pm, an, cdv, ct, osl, rfl, lk, hcd, _, _⟩ := F.ex
  obtain ⟨c, rfl⟩ := He.codeIn_ref hcd
  have ec : He.codeOf K ("_law_short_refused", none) = c := He.codeOf_eq lk rfl
  have TB : LamX.TabB base mg c (He.cT K ("_law_short_refused", none)).2 := by
    have z := TB0
    rw [show (He.cT K ("_law_short_refused", none)).1 = c from ec] at z
    exact z
  have hmT : ((He.cT K ("_law_short_refused", none)).2, q__law_short_refused) ∈ TT K := List.mem_cons_of_mem _ List.mem_cons_self
  have huT : ∀ p ∈ TT K, p.1 = (He.cT K ("_law_short_refused", none)).2 → p.2 = q__law_short_refused := fun p hp hb => by
    rcases List.mem_cons.mp hp with hp | hp
    · exact absurd hb (by rw [hp]; exact neT)
    · have hp := List.mem_singleton.mp hp
      rw [hp]
  have FD : ∀ f, f = He.ga K "stands_from" ∨ f = He.ga K "steps_from" → FnR P w K mg base (L2N.CX P w) 100 f (GoSp K) ∧ PySem.W.keepIn K (.ref f) = true := fun f hf => by
    rcases hf with rfl | rfl
    · exact O_stands_from.door W.g_stands_from 100 (by decide)
    · exact O_steps_from.door W.g_steps_from 100 (by decide)
  refine fn_of lk hcd sc__law_short_refused (fun vs H Q E h => len__law_short_refused h) (fun A outer s H vs Q E hr h => ⟨t__law_short_refused K P w mg base (TT K) q__law_short_refused (lamA le__law_short_refused_0) (lamB le__law_short_refused_0) (lamS le__law_short_refused_0) (lamA le__law_short_refused_1) (lamB le__law_short_refused_1) (lamS le__law_short_refused_1), PSs.nox ?_, pure__law_short_refused FD (lr__law_short_refused_0 O_stands_at_all) (lr__law_short_refused_1 O_stands_at_all) h⟩)
  exact (pss_cons (ps_for PassesOwn.never rfl (pi_tup (pe_tup (pa_cons (pe_glob (by rfl) W.g_stands_from rfl) (pa_cons (pe_glob (by rfl) W.g_steps_from rfl) pa_nil)))) (pg_name (i := 2) sc__law_short_refused.nd rfl (Or.inl rfl)) (pss_cons (ps_if (pt_cmpR (op_neD hr.units) (pe_callC O__law_refused hr (by first | decide | omega) (by rfl) passN0 (pa_cons (pv 2) (pa_cons (pv 1) (pa_cons pe_non (pa_cons pe_non pa_nil))))) (pe_lst (pa_cons pe_str (pa_cons pe_bl pa_nil))) (nomark _)) (pss_one (ps_ret pe_bl)) pss_nil)   (pss_cons (ps_if (pt_cmpR (op_neD hr.units) (pe_callC O__law_refused hr (by first | decide | omega) (by rfl) passN0 (pa_cons (pv 2) (pa_cons pe_int (pa_cons pe_non (pa_cons pe_non pa_nil))))) (pe_lst (pa_cons pe_str (pa_cons pe_int (pa_cons pe_bl pa_nil)))) (nomark _)) (pss_one (ps_ret pe_bl)) pss_nil)   (pss_cons (ps_set (i := 3) sc__law_short_refused.nd rfl (Or.inl rfl) (pe_op op_add pe_int (pe_op op_mod (pv 0) pe_int)))   (pss_cons (ps_for PassesOwn.never rfl (pi_tup (pe_tup (pa_cons pe_non (pa_cons (pe_lst (pa_cons pe_int (pa_cons pe_int pa_nil))) (pa_cons (pe_tup (pa_cons pe_int pa_nil)) (pa_cons (pe_tup (pa_cons pe_int (pa_cons pe_int pa_nil))) (pa_cons (pe_tup (pa_cons pe_int (pa_cons (pe_op op_add (pv 3) pe_int) pa_nil))) (pa_cons (pe_tup (pa_cons pe_int (pa_cons pe_int pa_nil))) (pa_cons (pe_tup (pa_cons pe_bl (pa_cons pe_int pa_nil))) (pa_cons (pe_tup (pa_cons pe_int (pa_cons pe_int (pa_cons pe_int pa_nil)))) (pa_cons pe_int pa_nil))))))))))) (pg_name (i := 4) sc__law_short_refused.nd rfl (Or.inl rfl)) (pss_one (ps_if (pt_cmpR (op_neD hr.units) (pe_callC O__law_refused hr (by first | decide | omega) (by rfl) passN0 (pa_cons (pv 2) (pa_cons (pv 3) (pa_cons (pv 4) (pa_cons pe_non pa_nil))))) (pe_lst (pa_cons pe_str (pa_cons pe_bl pa_nil))) (nomark _)) (pss_one (ps_ret pe_bl)) pss_nil)))   (pss_cons (ps_for PassesOwn.never rfl (pi_tup (pe_tup (pa_cons pe_int (pa_cons (pe_op op_add (pv 3) pe_int) (pa_cons pe_bl (pa_cons pe_non (pa_cons pe_str pa_nil))))))) (pg_name (i := 5) sc__law_short_refused.nd rfl (Or.inl rfl)) (pss_one (ps_if (pt_cmpR (op_neD hr.units) (pe_callC O__law_refused hr (by first | decide | omega) (by rfl) passN0 (pa_cons (pv 2) (pa_cons (pv 3) (pa_cons (pe_tup (pa_cons pe_int (pa_cons (pv 3) pa_nil))) (pa_cons (pv 5) pa_nil))))) (pe_lst (pa_cons pe_str (pa_cons pe_bl pa_nil))) (nomark _)) (pss_one (ps_ret pe_bl)) pss_nil)))   (pss_one (ps_if (pt_cmpR (op_neD hr.units) (pe_callC O__law_refused hr (by first | decide | omega) (by rfl) passN0 (pa_cons (pv 2) (pa_cons (pv 3) (pa_cons (pe_tup (pa_cons pe_int (pa_cons (pv 3) pa_nil))) (pa_cons (pv 3) pa_nil))))) (pe_lst pa_nil) (nomark _)) (pss_one (ps_ret pe_bl)) pss_nil))))))))   (pss_cons (ps_if (pt_cmpR (op_neD hr.units) (pe_callC O__law_refused hr (by first | decide | omega) (by rfl) passN0 (pa_cons (pe_lam TB rfl hmT huT) (pa_cons pe_int (pa_cons pe_int (pa_cons pe_int pa_nil))))) (pe_lst (pa_cons pe_str (pa_cons pe_int (pa_cons pe_bl pa_nil)))) (nomark _)) (pss_one (ps_ret pe_bl)) pss_nil)   (pss_one (ps_ret (pe_cmpR (op_eqD hr.units) (pe_callC O__law_refused hr (by first | decide | omega) (by rfl) passN0 (pa_cons (pe_lam TB rfl hmT huT) (pa_cons (pv 1) (pa_cons pe_int (pa_cons pe_int pa_nil))))) (pe_lst (pa_cons pe_str (pa_cons pe_bl pa_nil))) (nomark _))))))
theorem ok__law_things_refused {f : Addr} {fd : FuncData} (F : FunD K "_law_things_refused" "_law_things_refused" (defArgs s__law_things_refused) (defBody s__law_things_refused) (defScope s__law_things_refused) [] [] f fd) (W : Wd P w K mg base) (O__law_refused : OwnC P w K mg base (L2N.CX P w) 101 "_law_refused" ["call", "one", "two", "three"] (sp__law_refused K P w mg base)) (O_answers_to : OwnC P w K mg base (L2N.CX P w) 4 "answers_to" ["length", "thing", "stands"] (sp_answers_to K)) : FnOk P w K mg base (L2N.CX P w) 102 f fd ["length", "none", "bad"] (sp__law_things_refused K P w mg base) := by
  refine F.ok sc__law_things_refused (fun vs H Q E h => len__law_things_refused h) (fun cdv A outer s H vs Q E hr h => ⟨t__law_things_refused K P w mg base, PSs.nox ?_, pure__law_things_refused (O_answers_to.door W.g_answers_to 100 (by decide)).1 (O_answers_to.door W.g_answers_to 100 (by decide)).2 h⟩)
  exact (pss_cons (ps_for PassesOwn.never rfl (pi_tup (pe_tup (pa_cons pe_int (pa_cons (pe_op op_add (pv 0) pe_int) (pa_cons pe_bl (pa_cons pe_non (pa_cons pe_str pa_nil))))))) (pg_name (i := 3) sc__law_things_refused.nd rfl (Or.inl rfl)) (pss_one (ps_if (pt_cmpR (op_neD hr.units) (pe_callC O__law_refused hr (by first | decide | omega) (by rfl) passN0 (pa_cons (pe_glob (by rfl) W.g_answers_to rfl) (pa_cons (pv 0) (pa_cons (pv 3) (pa_cons pe_non pa_nil))))) (pe_lst (pa_cons pe_str (pa_cons pe_bl pa_nil))) (nomark _)) (pss_one (ps_ret pe_bl)) pss_nil)))   (pss_cons (ps_if (pt_cmpR (op_neD hr.units) (pe_callC O__law_refused hr (by first | decide | omega) (by rfl) passN0 (pa_cons (pe_glob (by rfl) W.g_answers_to rfl) (pa_cons (pv 0) (pa_cons pe_int (pa_cons (pv 2) pa_nil))))) (pe_lst (pa_cons pe_str (pa_cons pe_bl pa_nil))) (nomark _)) (pss_one (ps_ret pe_bl)) pss_nil)   (pss_one (ps_ret (pe_cmpR (op_eqD hr.units) (pe_callC O__law_refused hr (by first | decide | omega) (by rfl) passN0 (pa_cons (pe_glob (by rfl) W.g_answers_to rfl) (pa_cons (pv 1) (pa_cons pe_int (pa_cons pe_non pa_nil))))) (pe_lst (pa_cons pe_str (pa_cons pe_bl pa_nil))) (nomark _))))))
theorem ls_law_0 : NdefX.NScope ["a", "b", "c"] ["a", "b", "c"] [] (lamS le_law_0) := NdefX.nscope_by (by decide +kernel)
theorem lr_law_0 : LamR P w K mg base q_law (lamA le_law_0) (lamB le_law_0) (lamS le_law_0) (spL1 P w K mg base) := fun f0 c' =>
  lam_ok (F := ⟨"<lambda>", q_law, lamA le_law_0, [], lamS le_law_0, [], c'⟩) (N := ["a", "b", "c"]) (ps := ["a", "b", "c"]) (k := 99) (sp := spL1 P w K mg base) ls_law_0 rfl (fun pm ctv us hl => match us, hl with | [_, _, _], _ => rfl) (fun vs H Q E ⟨f, b, c, sf, e, _⟩ => by rw [e]; rfl)
    (fun A outer s H vs Q E hr ⟨f, b, c, sf, e, F, kp, h⟩ => ⟨tCallW P w K mg base (L2N.CX P w) 98 0 (fun _ => E) (tCons (tVar 1) tNil), pe_callW (fun σ => L2N.passAt (L2N.takes_of rfl rfl rfl rfl) σ) hr (by decide) rfl (.inl rfl) (pa_cons (pv 1) pa_nil), by subst e; exact ⟨f, sf, rfl, F, .inl ⟨kp, _, rfl, h⟩⟩⟩)
theorem ls_law_1 : NdefX.NScope ["a", "b", "c"] ["a", "b", "c"] [] (lamS le_law_1) := NdefX.nscope_by (by decide +kernel)
theorem lr_law_1 (O_Search___init__ : OwnI P w K mg base (L2N.CX P w) 4 (He.ga K "Search") "Search" ["self", "length"] (sp_Search___init__ K)) : LamR P w K mg base q_law (lamA le_law_1) (lamB le_law_1) (lamS le_law_1) (spLS K) := fun f0 c' =>
  lam_ok (F := ⟨"<lambda>", q_law, lamA le_law_1, [], lamS le_law_1, [], c'⟩) (N := ["a", "b", "c"]) (ps := ["a", "b", "c"]) (k := 99) (sp := spLS K) ls_law_1 rfl (fun pm ctv us hl => match us, hl with | [_, _, _], _ => rfl) (fun vs H Q E ⟨a, b, c, e, _⟩ => by rw [e]; rfl)
    (fun A outer s H vs Q E hr ⟨a, b, c, e, s1, b1, h⟩ => ⟨tMake (He.ga K "Search") (sp_Search___init__ K) [] E (tCons (tVar 0) tNil), pe_makeO O_Search___init__ hr (by decide) (by rfl) (passNE (L2N.takes_of rfl rfl rfl rfl)) (pa_cons (pv 0) pa_nil), by subst e; exact ⟨_, rfl, fun x dx nx ndx ne => ⟨x, a, rfl, s1.ex (mk_ex nx ndx), b1, h _ (mk_ex nx ndx)⟩⟩⟩)
theorem ls_law_2 : NdefX.NScope ["a", "b", "c"] ["a", "b", "c"] [] (lamS le_law_2) := NdefX.nscope_by (by decide +kernel)
theorem lr_law_2 : LamR P w K mg base q_law (lamA le_law_2) (lamB le_law_2) (lamS le_law_2) (spL2 P w K mg base) := fun f0 c' =>
  lam_ok (F := ⟨"<lambda>", q_law, lamA le_law_2, [], lamS le_law_2, [], c'⟩) (N := ["a", "b", "c"]) (ps := ["a", "b", "c"]) (k := 99) (sp := spL2 P w K mg base) ls_law_2 rfl (fun pm ctv us hl => match us, hl with | [_, _, _], _ => rfl) (fun vs H Q E ⟨f, b, c, sf, e, _⟩ => by rw [e]; rfl)
    (fun A outer s H vs Q E hr ⟨f, b, c, sf, e, F, kp, h⟩ => ⟨tCallW P w K mg base (L2N.CX P w) 98 0 (fun _ => E) (tCons (tVar 1) (tCons (tVar 2) tNil)), pe_callW (fun σ => L2N.passAt (L2N.takes_of rfl rfl rfl rfl) σ) hr (by decide) rfl (.inl rfl) (pa_cons (pv 1) (pa_cons (pv 2) pa_nil)), by subst e; exact ⟨f, sf, rfl, F, .inl ⟨kp, _, rfl, _, rfl, h⟩⟩⟩)
theorem ls_law_3 : NdefX.NScope ["a", "b", "c"] ["a", "b", "c"] [] (lamS le_law_3) := NdefX.nscope_by (by decide +kernel)
theorem lr_law_3 : LamR P w K mg base q_law (lamA le_law_3) (lamB le_law_3) (lamS le_law_3) (spL2 P w K mg base) := fun f0 c' =>
  lam_ok (F := ⟨"<lambda>", q_law, lamA le_law_3, [], lamS le_law_3, [], c'⟩) (N := ["a", "b", "c"]) (ps := ["a", "b", "c"]) (k := 99) (sp := spL2 P w K mg base) ls_law_3 rfl (fun pm ctv us hl => match us, hl with | [_, _, _], _ => rfl) (fun vs H Q E ⟨f, b, c, sf, e, _⟩ => by rw [e]; rfl)
    (fun A outer s H vs Q E hr ⟨f, b, c, sf, e, F, kp, h⟩ => ⟨tCallW P w K mg base (L2N.CX P w) 98 0 (fun _ => E) (tCons (tVar 1) (tCons (tVar 2) tNil)), pe_callW (fun σ => L2N.passAt (L2N.takes_of rfl rfl rfl rfl) σ) hr (by decide) rfl (.inl rfl) (pa_cons (pv 1) (pa_cons (pv 2) pa_nil)), by subst e; exact ⟨f, sf, rfl, F, .inl ⟨kp, _, rfl, _, rfl, h⟩⟩⟩)
theorem ok_law {fd : FuncData} (F : FunD K "law" "law" (defArgs s_law) (defBody s_law) (defScope s_law) [] [] (He.fAd K ("law", none)) fd) (W : Wd P w K mg base) (O__law_bags : OwnC P w K mg base (L2N.CX P w) 3 "_law_bags" ["script", "limit"] (sp__law_bags K)) (O__law_take : OwnC P w K mg base (L2N.CX P w) 1 "_law_take" ["bag", "many"] (sp__law_take K)) (O__law_some_stands : OwnC P w K mg base (L2N.CX P w) 2 "_law_some_stands" ["bag", "length", "most"] (sp__law_some_stands K)) (O_fewest_ahead : OwnC P w K mg base (L2N.CX P w) 5 "fewest_ahead" ["length"] (sp_fewest_ahead K)) (O_stands_ahead : OwnC P w K mg base (L2N.CX P w) 4 "stands_ahead" ["length"] (sp_stands_ahead K)) (O__law_refused : OwnC P w K mg base (L2N.CX P w) 101 "_law_refused" ["call", "one", "two", "three"] (sp__law_refused K P w mg base)) (O_Search___init__ : OwnI P w K mg base (L2N.CX P w) 4 (He.ga K "Search") "Search" ["self", "length"] (sp_Search___init__ K)) (O_how_many : OwnC P w K mg base (L2N.CX P w) 5 "how_many" ["length", "stands"] (sp_how_many K)) (O_alike : OwnC P w K mg base (L2N.CX P w) 5 "alike" ["length", "stands"] (sp_alike K)) (O_how_many_round : OwnC P w K mg base (L2N.CX P w) 4 "how_many_round" ["length", "stands"] (sp_how_many_round K)) (O_can_lie : OwnC P w K mg base (L2N.CX P w) 4 "can_lie" ["length", "stands", "answers"] (sp_can_lie K)) (O_fewest_wrong : OwnC P w K mg base (L2N.CX P w) 5 "fewest_wrong" ["length", "stands", "answers"] (sp_fewest_wrong K)) (O_can_lie_round : OwnC P w K mg base (L2N.CX P w) 4 "can_lie_round" ["length", "stands", "answers"] (sp_can_lie_round K)) (O__law_things_refused : OwnC P w K mg base (L2N.CX P w) 102 "_law_things_refused" ["length", "none", "bad"] (sp__law_things_refused K P w mg base)) (O__law_short_refused : OwnC P w K mg base (L2N.CX P w) 102 "_law_short_refused" ["length", "none"] (sp__law_short_refused K P w mg base (TT K))) (TB0 : LamX.TabB base mg (He.cT K ("law", none)).1 (He.cT K ("law", none)).2) (neT : (He.cT K ("_law_short_refused", none)).2 ≠ (He.cT K ("law", none)).2) : FnOk P w K mg base (L2N.CX P w) 103 (He.fAd K ("law", none)) fd ["script"] (sp_law K (TT K)) := by
  obtain ⟨oc, od, dV, kV, doc, pm, an, cdv, ct, osl, rfl, lk, hcd, _, _⟩ := F.ex
  obtain ⟨c, rfl⟩ := He.codeIn_ref hcd
  have ec : He.codeOf K ("law", none) = c := He.codeOf_eq lk rfl
  have TB : LamX.TabB base mg c (He.cT K ("law", none)).2 := by
    have z := TB0
    rw [show (He.cT K ("law", none)).1 = c from ec] at z
    exact z
  have hmT : ((He.cT K ("law", none)).2, q_law) ∈ TT K := List.mem_cons_self
  have huT : ∀ p ∈ TT K, p.1 = (He.cT K ("law", none)).2 → p.2 = q_law := fun p hp hb => by
    rcases List.mem_cons.mp hp with hp | hp
    · rw [hp]
    · have hp := List.mem_singleton.mp hp
      exact absurd hb (by rw [hp]; exact neT)
  have D1 : ∀ f, f = He.ga K "fewest_ahead" ∨ f = He.ga K "stands_ahead" → FnR P w K mg base (L2N.CX P w) 98 f (sp_fewest_ahead K) ∧ PySem.W.keepIn K (.ref f) = true := (fun f hf => by
    rcases hf with rfl | rfl
    · exact O_fewest_ahead.door W.g_fewest_ahead 98 (by decide)
    · exact O_stands_ahead.door W.g_stands_ahead 98 (by decide))
  have D2 : ∀ f, f = He.ga K "how_many" ∨ f = He.ga K "alike" ∨ f = He.ga K "how_many_round" → FnR P w K mg base (L2N.CX P w) 98 f (sp_how_many K) ∧ PySem.W.keepIn K (.ref f) = true := (fun f hf => by
    rcases hf with rfl | rfl | rfl
    · exact O_how_many.door W.g_how_many 98 (by decide)
    · exact O_alike.door W.g_alike 98 (by decide)
    · exact O_how_many_round.door W.g_how_many_round 98 (by decide))
  have D3 : ∀ f, f = He.ga K "can_lie" ∨ f = He.ga K "fewest_wrong" ∨ f = He.ga K "can_lie_round" → FnR P w K mg base (L2N.CX P w) 100 f (DoorSp K) ∧ PySem.W.keepIn K (.ref f) = true := (fun f hf => by
    rcases hf with rfl | rfl | rfl
    · exact O_can_lie.door W.g_can_lie 100 (by decide)
    · exact O_fewest_wrong.door W.g_fewest_wrong 100 (by decide)
    · exact O_can_lie_round.door W.g_can_lie_round 100 (by decide))
  refine fn_of lk hcd sc_law (fun vs H Q E h => len_law h) (fun A outer s H vs Q E hr h => ⟨t_law K P w mg base (TT K) q_law (lamA le_law_0) (lamB le_law_0) (lamS le_law_0) (lamA le_law_1) (lamB le_law_1) (lamS le_law_1) (lamA le_law_2) (lamB le_law_2) (lamS le_law_2) (lamA le_law_3) (lamB le_law_3) (lamS le_law_3), PSs.nox ?_, pure_law W.T D1 D2 D3 lr_law_0 (lr_law_1 O_Search___init__) lr_law_2 lr_law_3 h⟩)
  exact (pss_cons (ps_for PassesOwn.never rfl (pi_list (pe_callC O__law_bags hr (by first | decide | omega) (by rfl) passN0 (pa_cons (pv 0) (pa_cons pe_int pa_nil)))) (pg_name (i := 1) sc_law.nd rfl (Or.inl rfl)) (pss_cons (ps_set (i := 2) sc_law.nd rfl (Or.inl rfl) (pe_op op_add pe_int (pe_callC O__law_take hr (by first | decide | omega) (by rfl) passN0 (pa_cons (pv 1) (pa_cons pe_int pa_nil)))))   (pss_cons (ps_set (i := 3) sc_law.nd rfl (Or.inl rfl) (pe_callC O__law_some_stands hr (by first | decide | omega) (by rfl) passN0 (pa_cons (pv 1) (pa_cons (pv 2) (pa_cons pe_int pa_nil)))))   (pss_cons (ps_set (i := 4) sc_law.nd rfl (Or.inl rfl) (pe_ix ix_list (pe_lst (pa_cons pe_non (pa_cons pe_int (pa_cons pe_int (pa_cons pe_bl (pa_cons pe_str (pa_cons (pe_tup (pa_cons pe_int pa_nil)) (pa_cons (pe_un un_neg pe_int) pa_nil)))))))) (pe_callC O__law_take hr (by first | decide | omega) (by rfl) passN0 (pa_cons (pv 1) (pa_cons pe_int pa_nil))) (fun _ _ => rfl)))   (pss_cons (ps_set (i := 5) sc_law.nd rfl (Or.inl rfl) (pe_lst (pa_cons pe_non (pa_cons (pe_callTy call_tuple_of (by rfl) W.z_tuple bt_tuple (pa_cons (pv 3) pa_nil)) (pa_cons (pe_lst (pa_cons pe_int pa_nil)) (pa_cons (pe_lst (pa_cons (pe_op op_add (pv 2) pe_int) pa_nil)) (pa_cons (pe_lst (pa_cons pe_bl pa_nil)) (pa_cons (pe_lst (pa_cons pe_non pa_nil)) (pa_cons pe_str (pa_cons (pe_op op_rep (pe_lst (pa_cons pe_int pa_nil)) pe_int) pa_nil))))))))))   (pss_cons (ps_set (i := 6) sc_law.nd rfl (Or.inl rfl) (pe_ix ix_list (pv 5) (pe_callC O__law_take hr (by first | decide | omega) (by rfl) passN0 (pa_cons (pv 1) (pa_cons pe_int pa_nil))) (fun _ _ => rfl)))   (pss_cons (ps_set (i := 7) sc_law.nd rfl (Or.inl rfl) (pe_op op_rep (pe_lst (pa_cons pe_str pa_nil)) (pe_callB (call_max2 rfl) (by rfl) W.z_max bb_max (pa_cons pe_int (pa_cons (pe_op op_sub (pe_callB call_len_seq (by rfl) W.z_len PySem.boot_len (pa_cons (pv 3) pa_nil)) pe_int) pa_nil)))))   (pss_cons (ps_for PassesOwn.never rfl (pi_tup (pe_tup (pa_cons (pe_glob (by rfl) W.g_fewest_ahead rfl) (pa_cons (pe_glob (by rfl) W.g_stands_ahead rfl) pa_nil)))) (pg_name (i := 8) sc_law.nd rfl (Or.inl rfl)) (pss_one (ps_if (pt_cmpR (op_neD hr.units) (pe_callC O__law_refused hr (by first | decide | omega) (by rfl) passN0 (pa_cons (pe_lam TB rfl hmT huT) (pa_cons (pv 8) (pa_cons (pv 4) (pa_cons pe_int pa_nil))))) (pe_lst (pa_cons pe_str (pa_cons pe_bl pa_nil))) (nomark _)) (pss_one (ps_ret pe_bl)) pss_nil)))   (pss_cons (ps_if (pt_cmpR (op_neD hr.units) (pe_callC O__law_refused hr (by first | decide | omega) (by rfl) passN0 (pa_cons (pe_lam TB rfl hmT huT) (pa_cons (pv 4) (pa_cons pe_int (pa_cons pe_int pa_nil))))) (pe_lst (pa_cons pe_str (pa_cons pe_bl pa_nil))) (nomark _)) (pss_one (ps_ret pe_bl)) pss_nil)   (pss_cons (ps_for PassesOwn.never rfl (pi_tup (pe_tup (pa_cons (pe_glob (by rfl) W.g_how_many rfl) (pa_cons (pe_glob (by rfl) W.g_alike rfl) (pa_cons (pe_glob (by rfl) W.g_how_many_round rfl) pa_nil))))) (pg_name (i := 8) sc_law.nd rfl (Or.inl rfl)) (pss_cons (ps_if (pt_cmpR (op_neD hr.units) (pe_callC O__law_refused hr (by first | decide | omega) (by rfl) passN0 (pa_cons (pe_lam TB rfl hmT huT) (pa_cons (pv 8) (pa_cons (pv 4) (pa_cons pe_non pa_nil))))) (pe_lst (pa_cons pe_str (pa_cons pe_bl pa_nil))) (nomark _)) (pss_one (ps_ret pe_bl)) pss_nil)   (pss_one (ps_if (pt_cmpR (op_neD hr.units) (pe_callC O__law_refused hr (by first | decide | omega) (by rfl) passN0 (pa_cons (pe_lam TB rfl hmT huT) (pa_cons (pv 8) (pa_cons (pv 2) (pa_cons (pv 6) pa_nil))))) (pe_lst (pa_cons pe_str (pa_cons pe_bl pa_nil))) (nomark _)) (pss_one (ps_ret pe_bl)) pss_nil))))   (pss_cons (ps_for PassesOwn.never rfl (pi_tup (pe_tup (pa_cons (pe_glob (by rfl) W.g_can_lie rfl) (pa_cons (pe_glob (by rfl) W.g_fewest_wrong rfl) (pa_cons (pe_glob (by rfl) W.g_can_lie_round rfl) pa_nil))))) (pg_name (i := 8) sc_law.nd rfl (Or.inl rfl)) (pss_cons (ps_if (pt_cmpR (op_neD hr.units) (pe_callC O__law_refused hr (by first | decide | omega) (by rfl) passN0 (pa_cons (pv 8) (pa_cons (pv 4) (pa_cons pe_non (pa_cons pe_non pa_nil))))) (pe_lst (pa_cons pe_str (pa_cons pe_bl pa_nil))) (nomark _)) (pss_one (ps_ret pe_bl)) pss_nil)   (pss_cons (ps_if (pt_cmpR (op_neD hr.units) (pe_callC O__law_refused hr (by first | decide | omega) (by rfl) passN0 (pa_cons (pv 8) (pa_cons (pv 2) (pa_cons (pv 6) (pa_cons pe_non pa_nil))))) (pe_lst (pa_cons pe_str (pa_cons pe_bl pa_nil))) (nomark _)) (pss_one (ps_ret pe_bl)) pss_nil)   (pss_cons (ps_set (i := 9) sc_law.nd rfl (Or.inl rfl) (pe_lst (pa_cons pe_non (pa_cons (pe_callTy call_tuple_of (by rfl) W.z_tuple bt_tuple (pa_cons (pv 7) pa_nil)) (pa_cons (pe_op op_cat (pv 7) (pe_lst (pa_cons pe_str pa_nil))) (pa_cons (pe_ifExp (pt_cmpR (op_neD hr.units) (pv 7) (pe_lst pa_nil) (nomark _)) (pe_op op_cat (pe_slice sl_list (pv 7) (po_some pe_int) po_none) (pe_lst (pa_cons pe_non pa_nil))) (pe_lst (pa_cons pe_str pa_nil))) pa_nil))))))   (pss_cons (ps_for PassesOwn.never rfl (pi_list (pv 9)) (pg_name (i := 10) sc_law.nd rfl (Or.inl rfl)) (pss_one (ps_if (pt_cmpR (op_neD hr.units) (pe_callC O__law_refused hr (by first | decide | omega) (by rfl) passN0 (pa_cons (pv 8) (pa_cons (pv 2) (pa_cons (pv 3) (pa_cons (pv 10) pa_nil))))) (pe_lst (pa_cons pe_str (pa_cons pe_bl pa_nil))) (nomark _)) (pss_one (ps_ret pe_bl)) pss_nil)))   (pss_one (ps_if (pt_cmpR (op_neD hr.units) (pe_callC O__law_refused hr (by first | decide | omega) (by rfl) passN0 (pa_cons (pv 8) (pa_cons (pv 2) (pa_cons (pv 3) (pa_cons (pv 7) pa_nil))))) (pe_lst pa_nil) (nomark _)) (pss_one (ps_ret pe_bl)) pss_nil)))))))   (pss_cons (ps_if (pt_not (pt_val (pe_callC O__law_things_refused hr (by first | decide | omega) (by rfl) passN0 (pa_cons (pv 2) (pa_cons (pv 4) (pa_cons (pv 6) pa_nil)))))) (pss_one (ps_ret pe_bl)) pss_nil)   (pss_one (ps_if (pt_not (pt_val (pe_callC O__law_short_refused hr (by first | decide | omega) (by rfl) passN0 (pa_cons (pv 2) (pa_cons (pv 4) pa_nil))))) (pss_one (ps_ret pe_bl)) pss_nil))))))))))))))   (pss_one (ps_ret pe_bl)))
end
def d_is_whole : He.DefD := ⟨("is_whole", none), "is_whole", "is_whole", defArgs s_is_whole, defBody s_is_whole, defScope s_is_whole, [], []⟩
def d_is_place : He.DefD := ⟨("is_place", none), "is_place", "is_place", defArgs s_is_place, defBody s_is_place, defScope s_is_place, [], []⟩
def d_is_word : He.DefD := ⟨("is_word", none), "is_word", "is_word", defArgs s_is_word, defBody s_is_word, defScope s_is_word, [], []⟩
def d_check_length : He.DefD := ⟨("check_length", none), "check_length", "check_length", defArgs s_check_length, defBody s_check_length, defScope s_check_length, [], []⟩
def d_check_going_length : He.DefD := ⟨("check_going_length", none), "check_going_length", "check_going_length", defArgs s_check_going_length, defBody s_check_going_length, defScope s_check_going_length, [], []⟩
def d_check_place : He.DefD := ⟨("check_place", none), "check_place", "check_place", defArgs s_check_place, defBody s_check_place, defScope s_check_place, [], []⟩
def d_check_stands : He.DefD := ⟨("check_stands", none), "check_stands", "check_stands", defArgs s_check_stands, defBody s_check_stands, defScope s_check_stands, [], []⟩
def d_check_answers : He.DefD := ⟨("check_answers", none), "check_answers", "check_answers", defArgs s_check_answers, defBody s_check_answers, defScope s_check_answers, [], []⟩
def d_check_stretch : He.DefD := ⟨("check_stretch", none), "check_stretch", "check_stretch", defArgs s_check_stretch, defBody s_check_stretch, defScope s_check_stretch, [], []⟩
def d_word_for : He.DefD := ⟨("word_for", none), "word_for", "word_for", defArgs s_word_for, defBody s_word_for, defScope s_word_for, [], []⟩
def d_answer_to_move : He.DefD := ⟨("answer_to_move", none), "answer_to_move", "answer_to_move", defArgs s_answer_to_move, defBody s_answer_to_move, defScope s_answer_to_move, [], []⟩
def d_row_of_answers : He.DefD := ⟨("row_of_answers", none), "row_of_answers", "row_of_answers", defArgs s_row_of_answers, defBody s_row_of_answers, defScope s_row_of_answers, [], []⟩
def d_answers_to : He.DefD := ⟨("answers_to", none), "answers_to", "answers_to", defArgs s_answers_to, defBody s_answers_to, defScope s_answers_to, [], []⟩
def d_can_lie : He.DefD := ⟨("can_lie", none), "can_lie", "can_lie", defArgs s_can_lie, defBody s_can_lie, defScope s_can_lie, [], []⟩
def d_count_wrong : He.DefD := ⟨("count_wrong", none), "count_wrong", "count_wrong", defArgs s_count_wrong, defBody s_count_wrong, defScope s_count_wrong, [], []⟩
def d_fewest_wrong : He.DefD := ⟨("fewest_wrong", none), "fewest_wrong", "fewest_wrong", defArgs s_fewest_wrong, defBody s_fewest_wrong, defScope s_fewest_wrong, [], []⟩
def d_rows_of_all_places : He.DefD := ⟨("rows_of_all_places", none), "rows_of_all_places", "rows_of_all_places", defArgs s_rows_of_all_places, defBody s_rows_of_all_places, defScope s_rows_of_all_places, [], []⟩
def d_how_many : He.DefD := ⟨("how_many", none), "how_many", "how_many", defArgs s_how_many, defBody s_how_many, defScope s_how_many, [], []⟩
def d_alike : He.DefD := ⟨("alike", none), "alike", "alike", defArgs s_alike, defBody s_alike, defScope s_alike, [], []⟩
def d_fewest_ahead : He.DefD := ⟨("fewest_ahead", none), "fewest_ahead", "fewest_ahead", defArgs s_fewest_ahead, defBody s_fewest_ahead, defScope s_fewest_ahead, [], []⟩
def d_stands_ahead : He.DefD := ⟨("stands_ahead", none), "stands_ahead", "stands_ahead", defArgs s_stands_ahead, defBody s_stands_ahead, defScope s_stands_ahead, [], []⟩
def d_parts_of : He.DefD := ⟨("parts_of", none), "parts_of", "parts_of", defArgs s_parts_of, defBody s_parts_of, defScope s_parts_of, [], []⟩
def d_other_places : He.DefD := ⟨("other_places", none), "other_places", "other_places", defArgs s_other_places, defBody s_other_places, defScope s_other_places, [], []⟩
def d_stands_are_enough : He.DefD := ⟨("stands_are_enough", none), "stands_are_enough", "stands_are_enough", defArgs s_stands_are_enough, defBody s_stands_are_enough, defScope s_stands_are_enough, [], []⟩
def d_first_onward : He.DefD := ⟨("first_onward", none), "first_onward", "first_onward", defArgs s_first_onward, defBody s_first_onward, defScope s_first_onward, [], []⟩
def d_stands_from : He.DefD := ⟨("stands_from", none), "stands_from", "stands_from", defArgs s_stands_from, defBody s_stands_from, defScope s_stands_from, [], []⟩
def d_stands_at_all : He.DefD := ⟨("stands_at_all", none), "stands_at_all", "stands_at_all", defArgs s_stands_at_all, defBody s_stands_at_all, defScope s_stands_at_all, [], []⟩
def d_least_steps : He.DefD := ⟨("least_steps", none), "least_steps", "least_steps", defArgs s_least_steps, defBody s_least_steps, defScope s_least_steps, [], []⟩
def d_steps_by : He.DefD := ⟨("steps_by", none), "steps_by", "steps_by", defArgs s_steps_by, defBody s_steps_by, defScope s_steps_by, [], []⟩
def d_steps_from : He.DefD := ⟨("steps_from", none), "steps_from", "steps_from", defArgs s_steps_from, defBody s_steps_from, defScope s_steps_from, [], []⟩
def d_far_round : He.DefD := ⟨("far_round", none), "far_round", "far_round", defArgs s_far_round, defBody s_far_round, defScope s_far_round, [], []⟩
def d_row_round : He.DefD := ⟨("row_round", none), "row_round", "row_round", defArgs s_row_round, defBody s_row_round, defScope s_row_round, [], []⟩
def d_can_lie_round : He.DefD := ⟨("can_lie_round", none), "can_lie_round", "can_lie_round", defArgs s_can_lie_round, defBody s_can_lie_round, defScope s_can_lie_round, [], []⟩
def d_how_many_round : He.DefD := ⟨("how_many_round", none), "how_many_round", "how_many_round", defArgs s_how_many_round, defBody s_how_many_round, defScope s_how_many_round, [], []⟩
def d_Search___init__ : He.DefD := ⟨("Search", some "__init__"), "__init__", "Search.__init__", defArgs s_Search___init__, defBody s_Search___init__, defScope s_Search___init__, [], []⟩
def d__law_cell_at : He.DefD := ⟨("_law_cell_at", none), "_law_cell_at", "_law_cell_at", defArgs s__law_cell_at, defBody s__law_cell_at, defScope s__law_cell_at, [], []⟩
def d__law_draws : He.DefD := ⟨("_law_draws", none), "_law_draws", "_law_draws", defArgs s__law_draws, defBody s__law_draws, defScope s__law_draws, [], []⟩
def d__law_bag : He.DefD := ⟨("_law_bag", none), "_law_bag", "_law_bag", defArgs s__law_bag, defBody s__law_bag, defScope s__law_bag, [], []⟩
def d__law_bags : He.DefD := ⟨("_law_bags", none), "_law_bags", "_law_bags", defArgs s__law_bags, defBody s__law_bags, defScope s__law_bags, [], []⟩
def d__law_take : He.DefD := ⟨("_law_take", none), "_law_take", "_law_take", defArgs s__law_take, defBody s__law_take, defScope s__law_take, [], []⟩
def d__law_some_stands : He.DefD := ⟨("_law_some_stands", none), "_law_some_stands", "_law_some_stands", defArgs s__law_some_stands, defBody s__law_some_stands, defScope s__law_some_stands, [], []⟩
def d__law_refused : He.DefD := ⟨("_law_refused", none), "_law_refused", "_law_refused", defArgs s__law_refused, defBody s__law_refused, defScope s__law_refused, [], []⟩
def d__law_short_refused : He.DefD := ⟨("_law_short_refused", none), "_law_short_refused", "_law_short_refused", defArgs s__law_short_refused, defBody s__law_short_refused, defScope s__law_short_refused, [], []⟩
def d__law_things_refused : He.DefD := ⟨("_law_things_refused", none), "_law_things_refused", "_law_things_refused", defArgs s__law_things_refused, defBody s__law_things_refused, defScope s__law_things_refused, [], []⟩
def d_law : He.DefD := ⟨("law", none), "law", "law", defArgs s_law, defBody s_law, defScope s_law, [], []⟩
def d_TL : DefC := ⟨("TooLong", some "__init__"), "__init__", "TooLong.__init__", defArgs s_TL, defBody s_TL, defScope s_TL⟩
def fn : List He.DefD := (([d_is_whole, d_is_place, d_is_word, d_check_length, d_check_going_length, d_check_place, d_check_stands, d_check_answers, d_check_stretch, d_word_for, d_answer_to_move, d_row_of_answers, d_answers_to, d_can_lie, d_count_wrong, d_fewest_wrong, d_rows_of_all_places, d_how_many, d_alike, d_fewest_ahead] : List He.DefD) ++ ([d_stands_ahead, d_parts_of, d_other_places, d_stands_are_enough, d_first_onward, d_stands_from, d_stands_at_all, d_least_steps, d_steps_by, d_steps_from, d_far_round, d_row_round, d_can_lie_round, d_how_many_round, d_Search___init__, d__law_cell_at, d__law_draws, d__law_bag, d__law_bags, d__law_take] : List He.DefD) ++ ([d__law_some_stands, d__law_refused, d__law_short_refused, d__law_things_refused, d_law] : List He.DefD))
def fa : List He.Fa := (([.glo "is_whole", .glo "is_place", .glo "is_word", .glo "check_length", .glo "check_going_length", .glo "check_place", .glo "check_stands", .glo "check_answers", .glo "check_stretch", .glo "word_for", .glo "answer_to_move", .glo "row_of_answers", .glo "answers_to", .glo "can_lie", .glo "count_wrong", .glo "fewest_wrong", .glo "rows_of_all_places", .glo "how_many", .glo "alike", .glo "fewest_ahead"] : List He.Fa) ++ ([.glo "stands_ahead", .glo "parts_of", .glo "other_places", .glo "stands_are_enough", .glo "first_onward", .glo "stands_from", .glo "stands_at_all", .glo "least_steps", .glo "steps_by", .glo "steps_from", .glo "far_round", .glo "row_round", .glo "can_lie_round", .glo "how_many_round", .mkr "Search", .glo "_law_cell_at", .glo "_law_draws", .glo "_law_bag", .glo "_law_bags", .glo "_law_take"] : List He.Fa) ++ ([.glo "_law_some_stands", .glo "_law_refused", .glo "_law_short_refused", .glo "_law_things_refused", .glo "law", .free "ValueError", .free "abs", .free "all", .free "bool", .free "int", .free "isinstance", .free "len", .free "list", .free "max", .free "min", .free "range", .free "set", .free "str", .free "sum", .free "super"] : List He.Fa) ++ ([.free "tuple", .free "zip", .int "LONGEST_GOING" 16, .int "LONGEST_PATH" 60, .int "MOST_STANDS" 40, .glo "WORDS", .glo "Never", .glo "NoAnswer", .glo "NoAnswers", .glo "NoLength", .glo "NoPlace", .glo "NoStands", .glo "NoStretch", .glo "NotNow", .glo "NothingLeft", .glo "Search", .glo "SeekError", .glo "TooLong", .glo "alike", .glo "answers_to"] : List He.Fa) ++ ([.glo "can_lie", .glo "can_lie_round", .glo "fewest_ahead", .glo "fewest_wrong", .glo "how_many", .glo "how_many_round", .glo "stands_ahead", .glo "stands_from", .glo "steps_from", .exc "NoAnswers", .exc "NoLength", .exc "NoPlace", .exc "NoStands", .exc "NoStretch", .cls "Search", .noat "Search" "length", .noat "Search" "stood", .noat "Search" "words", .noat "Search" "left"] : List He.Fa))
def loose : List PySem.Str := ((["SeekError", "NoLength", "NoPlace", "NoStands", "NoAnswers", "NoStretch", "NoAnswer", "NotNow", "Never", "NothingLeft", "TooLong", "Search", "LONGEST_PATH", "LONGEST_GOING", "MOST_STANDS", "WORDS", "_wall", "is_whole", "is_place", "is_word"] : List PySem.Str) ++ (["check_length", "check_going_length", "check_place", "check_stands", "check_answers", "check_answer", "check_stretch", "word_for", "answer_to_move", "row_of_answers", "answers_to", "can_lie", "count_wrong", "fewest_wrong", "rows_of_all_places", "how_many", "alike", "fewest_ahead", "stands_ahead", "parts_of"] : List PySem.Str) ++ (["other_places", "stands_are_enough", "first_onward", "stands_from", "stands_at_all", "least_steps", "steps_by", "steps_from", "far_round", "row_round", "can_lie_round", "how_many_round", "_law_cell_at", "_law_draws", "_law_bag", "_law_bags", "_law_take", "_law_some_stands", "_law_refused", "_law_short_refused"] : List PySem.Str) ++ (["_law_things_refused"] : List PySem.Str))
abbrev R : PySem.W.OpenRow := PySem.W.OpenLaw.row PySem.Challenge.rw_warmcold_k15_who_is_refused
def exB (K : PySem.W.Frag) : Bool := He.tupB K "WORDS" [.str "warm", .str "cold", .str "same"] && (exFB K && (exTB K && (tlXB K && (tlFB K ("TooLong", some "__init__") "TooLong.__init__" (He.ga K "TooLong") PySem.Challenge.pw_warmcold_k15_who_is_refused.main.file && !(decide ((He.cT K ("law", none)).2 = (He.cT K ("_law_short_refused", none)).2))))))
def tf : List He.Defn := [("law", none), ("_law_short_refused", none)]
abbrev hk : PySem.W.Hook := hookC 4 fa fn tf exB d_TL
def ob (s : PySem.W.SharedT) : AlC := obsC 4 fa fn tf exB d_TL (HandSHeadRun.getT s)
theorem ob_eq (s : PySem.W.SharedT) : ob s = hk.obs s.abs := obsC_eq (HandSHeadRun.getT_eq s)
theorem run (w : World) : HandSHeadRun.RunEq R (PySem.W.view R.prog [70]) hk ob 12000 loose w := by
  intro os
  kernel_rfl
theorem facts {P : Program} {w : World} {K : PySem.W.Frag} {h : Heap} {mg : Str → Option Value} {f : Addr} (hfile : P.main.file = PySem.Challenge.pw_warmcold_k15_who_is_refused.main.file) (htop : (P.main.scope.names.lookup ("super" : Str)).isSome = false) (X : K.In h) (G : h.Ns mainGlobals mg) (hfa : mg ("law" : Str) = some (.ref f)) (c3 : SaysC fa fn tf exB d_TL w h K) :
    ∃ fd : FuncData, (∀ (s : Shared) (v : Value), BindsTo s fd ⟨[v], []⟩ [("script", v)]) ∧ ∀ base : Heap, K.In base → base.Ns mainGlobals mg → LamX.TabB base mg (He.cT K ("law", none)).1 (He.cT K ("law", none)).2 → LamX.TabB base mg (He.cT K ("_law_short_refused", none)).1 (He.cT K ("_law_short_refused", none)).2 → FnOk P w K mg base (L2N.CX P w) 103 f fd ["script"] (sp_law K (TT K)) := by
  obtain ⟨c2, cF⟩ := c3
  have c := c2.t.d
  obtain ⟨cT, cM⟩ := He.ba c2.more
  obtain ⟨cE, cM⟩ := He.ba cM
  obtain ⟨cTl, cM⟩ := He.ba cM
  obtain ⟨cX, cM⟩ := He.ba cM
  obtain ⟨cB, cN⟩ := He.ba cM
  have neT : (He.cT K ("law", none)).2 ≠ (He.cT K ("_law_short_refused", none)).2 := fun z => by
    rw [decide_eq_true z] at cN
    cases cN
  obtain ⟨fd_is_whole, F_is_whole⟩ := c.def_ 0 (d := d_is_whole) rfl
  obtain ⟨fd_is_place, F_is_place⟩ := c.def_ 1 (d := d_is_place) rfl
  obtain ⟨fd_is_word, F_is_word⟩ := c.def_ 2 (d := d_is_word) rfl
  obtain ⟨fd_check_length, F_check_length⟩ := c.def_ 3 (d := d_check_length) rfl
  obtain ⟨fd_check_going_length, F_check_going_length⟩ := c.def_ 4 (d := d_check_going_length) rfl
  obtain ⟨fd_check_place, F_check_place⟩ := c.def_ 5 (d := d_check_place) rfl
  obtain ⟨fd_check_stands, F_check_stands⟩ := c.def_ 6 (d := d_check_stands) rfl
  obtain ⟨fd_check_answers, F_check_answers⟩ := c.def_ 7 (d := d_check_answers) rfl
  obtain ⟨fd_check_stretch, F_check_stretch⟩ := c.def_ 8 (d := d_check_stretch) rfl
  obtain ⟨fd_word_for, F_word_for⟩ := c.def_ 9 (d := d_word_for) rfl
  obtain ⟨fd_answer_to_move, F_answer_to_move⟩ := c.def_ 10 (d := d_answer_to_move) rfl
  obtain ⟨fd_row_of_answers, F_row_of_answers⟩ := c.def_ 11 (d := d_row_of_answers) rfl
  obtain ⟨fd_answers_to, F_answers_to⟩ := c.def_ 12 (d := d_answers_to) rfl
  obtain ⟨fd_can_lie, F_can_lie⟩ := c.def_ 13 (d := d_can_lie) rfl
  obtain ⟨fd_count_wrong, F_count_wrong⟩ := c.def_ 14 (d := d_count_wrong) rfl
  obtain ⟨fd_fewest_wrong, F_fewest_wrong⟩ := c.def_ 15 (d := d_fewest_wrong) rfl
  obtain ⟨fd_rows_of_all_places, F_rows_of_all_places⟩ := c.def_ 16 (d := d_rows_of_all_places) rfl
  obtain ⟨fd_how_many, F_how_many⟩ := c.def_ 17 (d := d_how_many) rfl
  obtain ⟨fd_alike, F_alike⟩ := c.def_ 18 (d := d_alike) rfl
  obtain ⟨fd_fewest_ahead, F_fewest_ahead⟩ := c.def_ 19 (d := d_fewest_ahead) rfl
  obtain ⟨fd_stands_ahead, F_stands_ahead⟩ := c.def_ 20 (d := d_stands_ahead) rfl
  obtain ⟨fd_parts_of, F_parts_of⟩ := c.def_ 21 (d := d_parts_of) rfl
  obtain ⟨fd_other_places, F_other_places⟩ := c.def_ 22 (d := d_other_places) rfl
  obtain ⟨fd_stands_are_enough, F_stands_are_enough⟩ := c.def_ 23 (d := d_stands_are_enough) rfl
  obtain ⟨fd_first_onward, F_first_onward⟩ := c.def_ 24 (d := d_first_onward) rfl
  obtain ⟨fd_stands_from, F_stands_from⟩ := c.def_ 25 (d := d_stands_from) rfl
  obtain ⟨fd_stands_at_all, F_stands_at_all⟩ := c.def_ 26 (d := d_stands_at_all) rfl
  obtain ⟨fd_least_steps, F_least_steps⟩ := c.def_ 27 (d := d_least_steps) rfl
  obtain ⟨fd_steps_by, F_steps_by⟩ := c.def_ 28 (d := d_steps_by) rfl
  obtain ⟨fd_steps_from, F_steps_from⟩ := c.def_ 29 (d := d_steps_from) rfl
  obtain ⟨fd_far_round, F_far_round⟩ := c.def_ 30 (d := d_far_round) rfl
  obtain ⟨fd_row_round, F_row_round⟩ := c.def_ 31 (d := d_row_round) rfl
  obtain ⟨fd_can_lie_round, F_can_lie_round⟩ := c.def_ 32 (d := d_can_lie_round) rfl
  obtain ⟨fd_how_many_round, F_how_many_round⟩ := c.def_ 33 (d := d_how_many_round) rfl
  obtain ⟨fd_Search___init__, F_Search___init__⟩ := c.def_ 34 (d := d_Search___init__) rfl
  obtain ⟨fd__law_cell_at, F__law_cell_at⟩ := c.def_ 35 (d := d__law_cell_at) rfl
  obtain ⟨fd__law_draws, F__law_draws⟩ := c.def_ 36 (d := d__law_draws) rfl
  obtain ⟨fd__law_bag, F__law_bag⟩ := c.def_ 37 (d := d__law_bag) rfl
  obtain ⟨fd__law_bags, F__law_bags⟩ := c.def_ 38 (d := d__law_bags) rfl
  obtain ⟨fd__law_take, F__law_take⟩ := c.def_ 39 (d := d__law_take) rfl
  obtain ⟨fd__law_some_stands, F__law_some_stands⟩ := c.def_ 40 (d := d__law_some_stands) rfl
  obtain ⟨fd__law_refused, F__law_refused⟩ := c.def_ 41 (d := d__law_refused) rfl
  obtain ⟨fd__law_short_refused, F__law_short_refused⟩ := c.def_ 42 (d := d__law_short_refused) rfl
  obtain ⟨fd__law_things_refused, F__law_things_refused⟩ := c.def_ 43 (d := d__law_things_refused) rfl
  obtain ⟨fd_law, F_law⟩ := c.def_ 44 (d := d_law) rfl
  have e := hfa.symm.trans (He.glo_ok X G (c.fact 44 (f := .glo "law") rfl))
  cases e
  have bL := FunD.bindsA (ps := ["script"]) F_law fun _ _ _ _ _ _ us hl => match us, hl with | [_], _ => rfl
  refine ⟨fd_law, fun s v => bL s [v] rfl, fun base _ _ TB0 TB1 => ?_⟩
  have W : Wd P w K mg base := {
    T := ⟨He.cls_ok (c.fact 94 (f := .cls "Search") rfl), He.noat_ok (c.fact 95 (f := .noat "Search" "length") rfl), He.noat_ok (c.fact 96 (f := .noat "Search" "stood") rfl), He.noat_ok (c.fact 97 (f := .noat "Search" "words") rfl), He.noat_ok (c.fact 98 (f := .noat "Search" "left") rfl)⟩
    EF := exFB_ok cE
    ET := exTB_ok cTl
    XF := (tlXB_ok cX).xf
    n_most := (tlXB_ok cX).most
    TL := tl_of (tlXB_ok cX) hfile htop (He.free_ok X G (c.fact 59 (f := .free "super") rfl)) (He.glo_ok X G (c.fact 77 (f := .glo "TooLong") rfl)) cF cB
    z_ValueError := He.free_ok X G (c.fact 45 (f := .free "ValueError") rfl)
    z_abs := He.free_ok X G (c.fact 46 (f := .free "abs") rfl)
    z_all := He.free_ok X G (c.fact 47 (f := .free "all") rfl)
    z_bool := He.free_ok X G (c.fact 48 (f := .free "bool") rfl)
    z_int := He.free_ok X G (c.fact 49 (f := .free "int") rfl)
    z_isinstance := He.free_ok X G (c.fact 50 (f := .free "isinstance") rfl)
    z_len := He.free_ok X G (c.fact 51 (f := .free "len") rfl)
    z_list := He.free_ok X G (c.fact 52 (f := .free "list") rfl)
    z_max := He.free_ok X G (c.fact 53 (f := .free "max") rfl)
    z_min := He.free_ok X G (c.fact 54 (f := .free "min") rfl)
    z_range := He.free_ok X G (c.fact 55 (f := .free "range") rfl)
    z_set := He.free_ok X G (c.fact 56 (f := .free "set") rfl)
    z_str := He.free_ok X G (c.fact 57 (f := .free "str") rfl)
    z_sum := He.free_ok X G (c.fact 58 (f := .free "sum") rfl)
    z_super := He.free_ok X G (c.fact 59 (f := .free "super") rfl)
    z_tuple := He.free_ok X G (c.fact 60 (f := .free "tuple") rfl)
    z_zip := He.free_ok X G (c.fact 61 (f := .free "zip") rfl)
    g_Never := He.glo_ok X G (c.fact 66 (f := .glo "Never") rfl)
    g_NoAnswer := He.glo_ok X G (c.fact 67 (f := .glo "NoAnswer") rfl)
    g_NoAnswers := He.glo_ok X G (c.fact 68 (f := .glo "NoAnswers") rfl)
    g_NoLength := He.glo_ok X G (c.fact 69 (f := .glo "NoLength") rfl)
    g_NoPlace := He.glo_ok X G (c.fact 70 (f := .glo "NoPlace") rfl)
    g_NoStands := He.glo_ok X G (c.fact 71 (f := .glo "NoStands") rfl)
    g_NoStretch := He.glo_ok X G (c.fact 72 (f := .glo "NoStretch") rfl)
    g_NotNow := He.glo_ok X G (c.fact 73 (f := .glo "NotNow") rfl)
    g_NothingLeft := He.glo_ok X G (c.fact 74 (f := .glo "NothingLeft") rfl)
    g_SeekError := He.glo_ok X G (c.fact 76 (f := .glo "SeekError") rfl)
    g_TooLong := He.glo_ok X G (c.fact 77 (f := .glo "TooLong") rfl)
    g_alike := He.glo_ok X G (c.fact 78 (f := .glo "alike") rfl)
    g_answers_to := He.glo_ok X G (c.fact 79 (f := .glo "answers_to") rfl)
    g_can_lie := He.glo_ok X G (c.fact 80 (f := .glo "can_lie") rfl)
    g_can_lie_round := He.glo_ok X G (c.fact 81 (f := .glo "can_lie_round") rfl)
    g_fewest_ahead := He.glo_ok X G (c.fact 82 (f := .glo "fewest_ahead") rfl)
    g_fewest_wrong := He.glo_ok X G (c.fact 83 (f := .glo "fewest_wrong") rfl)
    g_how_many := He.glo_ok X G (c.fact 84 (f := .glo "how_many") rfl)
    g_how_many_round := He.glo_ok X G (c.fact 85 (f := .glo "how_many_round") rfl)
    g_stands_ahead := He.glo_ok X G (c.fact 86 (f := .glo "stands_ahead") rfl)
    g_stands_from := He.glo_ok X G (c.fact 87 (f := .glo "stands_from") rfl)
    g_steps_from := He.glo_ok X G (c.fact 88 (f := .glo "steps_from") rfl)
    x_NoAnswers := have z := He.exc_ok (c.fact 89 (f := .exc "NoAnswers") rfl); ⟨He.glo_ok X G (c.fact 68 (f := .glo "NoAnswers") rfl), z.1, z.2.1, z.2.2.1, z.2.2.2⟩
    x_NoLength := have z := He.exc_ok (c.fact 90 (f := .exc "NoLength") rfl); ⟨He.glo_ok X G (c.fact 69 (f := .glo "NoLength") rfl), z.1, z.2.1, z.2.2.1, z.2.2.2⟩
    x_NoPlace := have z := He.exc_ok (c.fact 91 (f := .exc "NoPlace") rfl); ⟨He.glo_ok X G (c.fact 70 (f := .glo "NoPlace") rfl), z.1, z.2.1, z.2.2.1, z.2.2.2⟩
    x_NoStands := have z := He.exc_ok (c.fact 92 (f := .exc "NoStands") rfl); ⟨He.glo_ok X G (c.fact 71 (f := .glo "NoStands") rfl), z.1, z.2.1, z.2.2.1, z.2.2.2⟩
    x_NoStretch := have z := He.exc_ok (c.fact 93 (f := .exc "NoStretch") rfl); ⟨He.glo_ok X G (c.fact 72 (f := .glo "NoStretch") rfl), z.1, z.2.1, z.2.2.1, z.2.2.2⟩
    c_LONGEST_GOING := He.int_ok X G (c.fact 62 (f := .int "LONGEST_GOING" 16) rfl)
    c_LONGEST_PATH := He.int_ok X G (c.fact 63 (f := .int "LONGEST_PATH" 60) rfl)
    c_MOST_STANDS := He.int_ok X G (c.fact 64 (f := .int "MOST_STANDS" 40) rfl)
    c_WORDS := He.glo_ok X G (c.fact 65 (f := .glo "WORDS") rfl)
    q_WORDS := fun H => He.tupB_ok cT H
  }
  have O_is_whole : OwnC P w K mg base (L2N.CX P w) 1 "is_whole" ["value"] (sp_is_whole K) := ⟨_, fd_is_whole, ok_is_whole F_is_whole W , He.glo_ok X G (c.fact 0 (f := .glo "is_whole") rfl), F_is_whole.kp, FunD.bindsN F_is_whole fun _ _ _ _ _ _ us hl => match us, hl with | [_], _ => rfl⟩
  have O_is_place : OwnC P w K mg base (L2N.CX P w) 2 "is_place" ["value", "length"] (sp_is_place K) := ⟨_, fd_is_place, ok_is_place F_is_place W O_is_whole, He.glo_ok X G (c.fact 1 (f := .glo "is_place") rfl), F_is_place.kp, FunD.bindsN F_is_place fun _ _ _ _ _ _ us hl => match us, hl with | [_, _], _ => rfl⟩
  have O_is_word : OwnC P w K mg base (L2N.CX P w) 1 "is_word" ["value"] (sp_is_word K) := ⟨_, fd_is_word, ok_is_word F_is_word W , He.glo_ok X G (c.fact 2 (f := .glo "is_word") rfl), F_is_word.kp, FunD.bindsN F_is_word fun _ _ _ _ _ _ us hl => match us, hl with | [_], _ => rfl⟩
  have O_check_length : OwnC P w K mg base (L2N.CX P w) 3 "check_length" ["length"] (sp_check_length K) := ⟨_, fd_check_length, ok_check_length F_check_length W O_is_place, He.glo_ok X G (c.fact 3 (f := .glo "check_length") rfl), F_check_length.kp, FunD.bindsN F_check_length fun _ _ _ _ _ _ us hl => match us, hl with | [_], _ => rfl⟩
  have O_check_going_length : OwnC P w K mg base (L2N.CX P w) 4 "check_going_length" ["length"] (sp_check_going_length K) := ⟨_, fd_check_going_length, ok_check_going_length F_check_going_length W O_check_length, He.glo_ok X G (c.fact 4 (f := .glo "check_going_length") rfl), F_check_going_length.kp, FunD.bindsN F_check_going_length fun _ _ _ _ _ _ us hl => match us, hl with | [_], _ => rfl⟩
  have O_check_place : OwnC P w K mg base (L2N.CX P w) 3 "check_place" ["place", "length"] (sp_check_place K) := ⟨_, fd_check_place, ok_check_place F_check_place W O_is_place, He.glo_ok X G (c.fact 5 (f := .glo "check_place") rfl), F_check_place.kp, FunD.bindsN F_check_place fun _ _ _ _ _ _ us hl => match us, hl with | [_, _], _ => rfl⟩
  have O_check_stands : OwnC P w K mg base (L2N.CX P w) 3 "check_stands" ["stands", "length"] (sp_check_stands K) := ⟨_, fd_check_stands, ok_check_stands F_check_stands W O_is_place, He.glo_ok X G (c.fact 6 (f := .glo "check_stands") rfl), F_check_stands.kp, FunD.bindsN F_check_stands fun _ _ _ _ _ _ us hl => match us, hl with | [_, _], _ => rfl⟩
  have O_check_answers : OwnC P w K mg base (L2N.CX P w) 2 "check_answers" ["answers", "stands"] (sp_check_answers K) := ⟨_, fd_check_answers, ok_check_answers F_check_answers W O_is_word, He.glo_ok X G (c.fact 7 (f := .glo "check_answers") rfl), F_check_answers.kp, FunD.bindsN F_check_answers fun _ _ _ _ _ _ us hl => match us, hl with | [_, _], _ => rfl⟩
  have O_check_stretch : OwnC P w K mg base (L2N.CX P w) 3 "check_stretch" ["stretch", "length"] (sp_check_stretch K) := ⟨_, fd_check_stretch, ok_check_stretch F_check_stretch W O_is_place, He.glo_ok X G (c.fact 8 (f := .glo "check_stretch") rfl), F_check_stretch.kp, FunD.bindsN F_check_stretch fun _ _ _ _ _ _ us hl => match us, hl with | [_, _], _ => rfl⟩
  have O_word_for : OwnC P w K mg base (L2N.CX P w) 1 "word_for" ["before", "after"] (sp_word_for K) := ⟨_, fd_word_for, ok_word_for F_word_for W , He.glo_ok X G (c.fact 9 (f := .glo "word_for") rfl), F_word_for.kp, FunD.bindsN F_word_for fun _ _ _ _ _ _ us hl => match us, hl with | [_, _], _ => rfl⟩
  have O_answer_to_move : OwnC P w K mg base (L2N.CX P w) 2 "answer_to_move" ["thing", "earlier", "later"] (sp_answer_to_move K) := ⟨_, fd_answer_to_move, ok_answer_to_move F_answer_to_move W O_word_for, He.glo_ok X G (c.fact 10 (f := .glo "answer_to_move") rfl), F_answer_to_move.kp, FunD.bindsN F_answer_to_move fun _ _ _ _ _ _ us hl => match us, hl with | [_, _, _], _ => rfl⟩
  have O_row_of_answers : OwnC P w K mg base (L2N.CX P w) 3 "row_of_answers" ["thing", "stands"] (sp_row_of_answers K) := ⟨_, fd_row_of_answers, ok_row_of_answers F_row_of_answers W O_answer_to_move, He.glo_ok X G (c.fact 11 (f := .glo "row_of_answers") rfl), F_row_of_answers.kp, FunD.bindsN F_row_of_answers fun _ _ _ _ _ _ us hl => match us, hl with | [_, _], _ => rfl⟩
  have O_answers_to : OwnC P w K mg base (L2N.CX P w) 4 "answers_to" ["length", "thing", "stands"] (sp_answers_to K) := ⟨_, fd_answers_to, ok_answers_to F_answers_to W O_check_length O_check_place O_check_stands O_row_of_answers, He.glo_ok X G (c.fact 12 (f := .glo "answers_to") rfl), F_answers_to.kp, FunD.bindsN F_answers_to fun _ _ _ _ _ _ us hl => match us, hl with | [_, _, _], _ => rfl⟩
  have O_can_lie : OwnC P w K mg base (L2N.CX P w) 4 "can_lie" ["length", "stands", "answers"] (sp_can_lie K) := ⟨_, fd_can_lie, ok_can_lie F_can_lie W O_check_length O_check_stands O_check_answers O_row_of_answers, He.glo_ok X G (c.fact 13 (f := .glo "can_lie") rfl), F_can_lie.kp, FunD.bindsN F_can_lie fun _ _ _ _ _ _ us hl => match us, hl with | [_, _, _], _ => rfl⟩
  have O_count_wrong : OwnC P w K mg base (L2N.CX P w) 4 "count_wrong" ["thing", "stands", "answers"] (sp_count_wrong K) := ⟨_, fd_count_wrong, ok_count_wrong F_count_wrong W O_row_of_answers, He.glo_ok X G (c.fact 14 (f := .glo "count_wrong") rfl), F_count_wrong.kp, FunD.bindsN F_count_wrong fun _ _ _ _ _ _ us hl => match us, hl with | [_, _, _], _ => rfl⟩
  have O_fewest_wrong : OwnC P w K mg base (L2N.CX P w) 5 "fewest_wrong" ["length", "stands", "answers"] (sp_fewest_wrong K) := ⟨_, fd_fewest_wrong, ok_fewest_wrong F_fewest_wrong W O_check_length O_check_stands O_check_answers O_count_wrong, He.glo_ok X G (c.fact 15 (f := .glo "fewest_wrong") rfl), F_fewest_wrong.kp, FunD.bindsN F_fewest_wrong fun _ _ _ _ _ _ us hl => match us, hl with | [_, _, _], _ => rfl⟩
  have O_rows_of_all_places : OwnC P w K mg base (L2N.CX P w) 4 "rows_of_all_places" ["length", "stands"] (sp_rows_of_all_places K) := ⟨_, fd_rows_of_all_places, ok_rows_of_all_places F_rows_of_all_places W O_row_of_answers, He.glo_ok X G (c.fact 16 (f := .glo "rows_of_all_places") rfl), F_rows_of_all_places.kp, FunD.bindsN F_rows_of_all_places fun _ _ _ _ _ _ us hl => match us, hl with | [_, _], _ => rfl⟩
  have O_how_many : OwnC P w K mg base (L2N.CX P w) 5 "how_many" ["length", "stands"] (sp_how_many K) := ⟨_, fd_how_many, ok_how_many F_how_many W O_check_length O_check_stands O_rows_of_all_places, He.glo_ok X G (c.fact 17 (f := .glo "how_many") rfl), F_how_many.kp, FunD.bindsN F_how_many fun _ _ _ _ _ _ us hl => match us, hl with | [_, _], _ => rfl⟩
  have O_alike : OwnC P w K mg base (L2N.CX P w) 5 "alike" ["length", "stands"] (sp_alike K) := ⟨_, fd_alike, ok_alike F_alike W O_check_length O_check_stands O_rows_of_all_places, He.glo_ok X G (c.fact 18 (f := .glo "alike") rfl), F_alike.kp, FunD.bindsN F_alike fun _ _ _ _ _ _ us hl => match us, hl with | [_, _], _ => rfl⟩
  have O_stands_ahead : OwnC P w K mg base (L2N.CX P w) 4 "stands_ahead" ["length"] (sp_stands_ahead K) := ⟨_, fd_stands_ahead, ok_stands_ahead F_stands_ahead W O_check_length, He.glo_ok X G (c.fact 20 (f := .glo "stands_ahead") rfl), F_stands_ahead.kp, FunD.bindsN F_stands_ahead fun _ _ _ _ _ _ us hl => match us, hl with | [_], _ => rfl⟩
  have O_fewest_ahead : OwnC P w K mg base (L2N.CX P w) 5 "fewest_ahead" ["length"] (sp_fewest_ahead K) := ⟨_, fd_fewest_ahead, ok_fewest_ahead F_fewest_ahead W O_stands_ahead, He.glo_ok X G (c.fact 19 (f := .glo "fewest_ahead") rfl), F_fewest_ahead.kp, FunD.bindsN F_fewest_ahead fun _ _ _ _ _ _ us hl => match us, hl with | [_], _ => rfl⟩
  have O_parts_of : OwnC P w K mg base (L2N.CX P w) 1 "parts_of" ["stretch", "earlier", "later"] (sp_parts_of K) := ⟨_, fd_parts_of, ok_parts_of F_parts_of W , He.glo_ok X G (c.fact 21 (f := .glo "parts_of") rfl), F_parts_of.kp, FunD.bindsN F_parts_of fun _ _ _ _ _ _ us hl => match us, hl with | [_, _, _], _ => rfl⟩
  have O_other_places : OwnC P w K mg base (L2N.CX P w) 1 "other_places" ["length", "place"] (sp_other_places K) := ⟨_, fd_other_places, ok_other_places F_other_places W , He.glo_ok X G (c.fact 22 (f := .glo "other_places") rfl), F_other_places.kp, FunD.bindsN F_other_places fun _ _ _ _ _ _ us hl => match us, hl with | [_, _], _ => rfl⟩
  have rec_stands_are_enough : ∀ N : Nat, OwnC P w K mg base (L2N.CX P w) (1 + 1 + 2 * N) "stands_are_enough" ["length", "stretch", "place", "many", "known"] (sp_stands_are_enough K P w N) ∧ OwnC P w K mg base (L2N.CX P w) (1 + 2 + 2 * N) "first_onward" ["length", "stretch", "place", "many", "known"] (sp_first_onward K P w N) := by
    have stepB : ∀ N : Nat, OwnC P w K mg base (L2N.CX P w) (1 + 1 + 2 * N) "stands_are_enough" ["length", "stretch", "place", "many", "known"] (sp_stands_are_enough K P w N) → OwnC P w K mg base (L2N.CX P w) (1 + 2 + 2 * N) "first_onward" ["length", "stretch", "place", "many", "known"] (sp_first_onward K P w N) := fun N oA => by
      have e : 1 + 2 + 2 * N = (1 + 1 + 2 * N) + 1 := by omega
      rw [e]
      exact ⟨_, fd_first_onward, ok_first_onward F_first_onward W O_other_places O_parts_of oA, He.glo_ok X G (c.fact 24 (f := .glo "first_onward") rfl), F_first_onward.kp, FunD.bindsN F_first_onward fun _ _ _ _ _ _ us hl => match us, hl with | [_, _, _, _, _], _ => rfl⟩
    intro N
    induction N with
    | zero =>
      have oA : OwnC P w K mg base (L2N.CX P w) (1 + 1 + 2 * 0) "stands_are_enough" ["length", "stretch", "place", "many", "known"] (sp_stands_are_enough K P w 0) := ⟨_, fd_stands_are_enough, ok0_stands_are_enough F_stands_are_enough, He.glo_ok X G (c.fact 23 (f := .glo "stands_are_enough") rfl), F_stands_are_enough.kp, FunD.bindsN F_stands_are_enough fun _ _ _ _ _ _ us hl => match us, hl with | [_, _, _, _, _], _ => rfl⟩
      exact ⟨oA, stepB 0 oA⟩
    | succ N ih =>
      have oA : OwnC P w K mg base (L2N.CX P w) (1 + 1 + 2 * (N + 1)) "stands_are_enough" ["length", "stretch", "place", "many", "known"] (sp_stands_are_enough K P w (N + 1)) := by
        have e : 1 + 1 + 2 * (N + 1) = (1 + 2 + 2 * N) + 1 := by omega
        rw [e]
        exact ⟨_, fd_stands_are_enough, ok_stands_are_enough F_stands_are_enough W  ih.2, He.glo_ok X G (c.fact 23 (f := .glo "stands_are_enough") rfl), F_stands_are_enough.kp, FunD.bindsN F_stands_are_enough fun _ _ _ _ _ _ us hl => match us, hl with | [_, _, _, _, _], _ => rfl⟩
      exact ⟨oA, stepB (N + 1) oA⟩
  have O_stands_are_enough : OwnC P w K mg base (L2N.CX P w) 82 "stands_are_enough" ["length", "stretch", "place", "many", "known"] (sp_stands_are_enough K P w 40) := (rec_stands_are_enough 40).1
  have O_first_onward : OwnC P w K mg base (L2N.CX P w) 83 "first_onward" ["length", "stretch", "place", "many", "known"] (sp_first_onward K P w 40) := (rec_stands_are_enough 40).2
  have O_stands_from : OwnC P w K mg base (L2N.CX P w) 84 "stands_from" ["length", "stretch", "place"] (sp_stands_from K) := ⟨_, fd_stands_from, ok_stands_from F_stands_from W O_check_going_length O_check_stretch O_check_place O_stands_are_enough O_first_onward, He.glo_ok X G (c.fact 25 (f := .glo "stands_from") rfl), F_stands_from.kp, FunD.bindsN F_stands_from fun _ _ _ _ _ _ us hl => match us, hl with | [_, _, _], _ => rfl⟩
  have O_stands_at_all : OwnC P w K mg base (L2N.CX P w) 83 "stands_at_all" ["length"] (sp_stands_at_all K) := ⟨_, fd_stands_at_all, ok_stands_at_all F_stands_at_all W O_check_going_length O_stands_are_enough, He.glo_ok X G (c.fact 26 (f := .glo "stands_at_all") rfl), F_stands_at_all.kp, FunD.bindsN F_stands_at_all fun _ _ _ _ _ _ us hl => match us, hl with | [_], _ => rfl⟩
  have O_least_steps : OwnC P w K mg base (L2N.CX P w) 1 "least_steps" ["stretch", "place"] (sp_least_steps K) := ⟨_, fd_least_steps, ok_least_steps F_least_steps W , He.glo_ok X G (c.fact 27 (f := .glo "least_steps") rfl), F_least_steps.kp, FunD.bindsN F_least_steps fun _ _ _ _ _ _ us hl => match us, hl with | [_, _], _ => rfl⟩
  have O_steps_by : OwnC P w K mg base (L2N.CX P w) 2 "steps_by" ["stretch", "place", "onward"] (sp_steps_by K) := ⟨_, fd_steps_by, ok_steps_by F_steps_by W O_parts_of O_least_steps, He.glo_ok X G (c.fact 28 (f := .glo "steps_by") rfl), F_steps_by.kp, FunD.bindsN F_steps_by fun _ _ _ _ _ _ us hl => match us, hl with | [_, _, _], _ => rfl⟩
  have O_steps_from : OwnC P w K mg base (L2N.CX P w) 5 "steps_from" ["length", "stretch", "place"] (sp_steps_from K) := ⟨_, fd_steps_from, ok_steps_from F_steps_from W O_check_going_length O_check_stretch O_check_place O_least_steps O_other_places O_steps_by, He.glo_ok X G (c.fact 29 (f := .glo "steps_from") rfl), F_steps_from.kp, FunD.bindsN F_steps_from fun _ _ _ _ _ _ us hl => match us, hl with | [_, _, _], _ => rfl⟩
  have O_far_round : OwnC P w K mg base (L2N.CX P w) 1 "far_round" ["length", "one", "other"] (sp_far_round K) := ⟨_, fd_far_round, ok_far_round F_far_round W , He.glo_ok X G (c.fact 30 (f := .glo "far_round") rfl), F_far_round.kp, FunD.bindsN F_far_round fun _ _ _ _ _ _ us hl => match us, hl with | [_, _, _], _ => rfl⟩
  have O_row_round : OwnC P w K mg base (L2N.CX P w) 2 "row_round" ["length", "thing", "stands"] (sp_row_round K) := ⟨_, fd_row_round, ok_row_round F_row_round W O_far_round O_word_for, He.glo_ok X G (c.fact 31 (f := .glo "row_round") rfl), F_row_round.kp, FunD.bindsN F_row_round fun _ _ _ _ _ _ us hl => match us, hl with | [_, _, _], _ => rfl⟩
  have O_can_lie_round : OwnC P w K mg base (L2N.CX P w) 4 "can_lie_round" ["length", "stands", "answers"] (sp_can_lie_round K) := ⟨_, fd_can_lie_round, ok_can_lie_round F_can_lie_round W O_check_length O_check_stands O_check_answers O_row_round, He.glo_ok X G (c.fact 32 (f := .glo "can_lie_round") rfl), F_can_lie_round.kp, FunD.bindsN F_can_lie_round fun _ _ _ _ _ _ us hl => match us, hl with | [_, _, _], _ => rfl⟩
  have O_how_many_round : OwnC P w K mg base (L2N.CX P w) 4 "how_many_round" ["length", "stands"] (sp_how_many_round K) := ⟨_, fd_how_many_round, ok_how_many_round F_how_many_round W O_check_length O_check_stands O_row_round, He.glo_ok X G (c.fact 33 (f := .glo "how_many_round") rfl), F_how_many_round.kp, FunD.bindsN F_how_many_round fun _ _ _ _ _ _ us hl => match us, hl with | [_, _], _ => rfl⟩
  have O_Search___init__ : OwnI P w K mg base (L2N.CX P w) 4 (He.ga K "Search") "Search" ["self", "length"] (sp_Search___init__ K) := ⟨_, fd_Search___init__, ok_Search___init__ F_Search___init__ W O_check_length, He.mkr_ok (c.fact 34 (f := .mkr "Search") rfl), FunD.bindsN F_Search___init__ fun _ _ _ _ _ _ us hl => match us, hl with | [_, _], _ => rfl, He.glo_ok X G (c.fact 75 (f := .glo "Search") rfl)⟩
  have O__law_cell_at : OwnC P w K mg base (L2N.CX P w) 1 "_law_cell_at" ["script", "k"] (sp__law_cell_at K) := ⟨_, fd__law_cell_at, ok__law_cell_at F__law_cell_at W , He.glo_ok X G (c.fact 35 (f := .glo "_law_cell_at") rfl), F__law_cell_at.kp, FunD.bindsN F__law_cell_at fun _ _ _ _ _ _ us hl => match us, hl with | [_, _], _ => rfl⟩
  have O__law_draws : OwnC P w K mg base (L2N.CX P w) 1 "_law_draws" ["cell", "many", "size"] (sp__law_draws K) := ⟨_, fd__law_draws, ok__law_draws F__law_draws W , He.glo_ok X G (c.fact 36 (f := .glo "_law_draws") rfl), F__law_draws.kp, FunD.bindsN F__law_draws fun _ _ _ _ _ _ us hl => match us, hl with | [_, _, _], _ => rfl⟩
  have O__law_bag : OwnC P w K mg base (L2N.CX P w) 2 "_law_bag" ["script", "k"] (sp__law_bag K) := ⟨_, fd__law_bag, ok__law_bag F__law_bag W O__law_draws O__law_cell_at, He.glo_ok X G (c.fact 37 (f := .glo "_law_bag") rfl), F__law_bag.kp, FunD.bindsN F__law_bag fun _ _ _ _ _ _ us hl => match us, hl with | [_, _], _ => rfl⟩
  have O__law_bags : OwnC P w K mg base (L2N.CX P w) 3 "_law_bags" ["script", "limit"] (sp__law_bags K) := ⟨_, fd__law_bags, ok__law_bags F__law_bags W O__law_bag, He.glo_ok X G (c.fact 38 (f := .glo "_law_bags") rfl), F__law_bags.kp, FunD.bindsN F__law_bags fun _ _ _ _ _ _ us hl => match us, hl with | [_, _], _ => rfl⟩
  have O__law_take : OwnC P w K mg base (L2N.CX P w) 1 "_law_take" ["bag", "many"] (sp__law_take K) := ⟨_, fd__law_take, ok__law_take F__law_take W , He.glo_ok X G (c.fact 39 (f := .glo "_law_take") rfl), F__law_take.kp, FunD.bindsN F__law_take fun _ _ _ _ _ _ us hl => match us, hl with | [_, _], _ => rfl⟩
  have O__law_some_stands : OwnC P w K mg base (L2N.CX P w) 2 "_law_some_stands" ["bag", "length", "most"] (sp__law_some_stands K) := ⟨_, fd__law_some_stands, ok__law_some_stands F__law_some_stands W O__law_take, He.glo_ok X G (c.fact 40 (f := .glo "_law_some_stands") rfl), F__law_some_stands.kp, FunD.bindsN F__law_some_stands fun _ _ _ _ _ _ us hl => match us, hl with | [_, _, _], _ => rfl⟩
  have O__law_refused : OwnC P w K mg base (L2N.CX P w) 101 "_law_refused" ["call", "one", "two", "three"] (sp__law_refused K P w mg base) := ⟨_, fd__law_refused, ok__law_refused F__law_refused W , He.glo_ok X G (c.fact 41 (f := .glo "_law_refused") rfl), F__law_refused.kp, FunD.bindsN F__law_refused fun _ _ _ _ _ _ us hl => match us, hl with | [_, _, _, _], _ => rfl⟩
  have O__law_short_refused : OwnC P w K mg base (L2N.CX P w) 102 "_law_short_refused" ["length", "none"] (sp__law_short_refused K P w mg base (TT K)) := ⟨_, fd__law_short_refused, ok__law_short_refused F__law_short_refused W O_stands_from O_steps_from O__law_refused O_stands_at_all TB1 neT, He.glo_ok X G (c.fact 42 (f := .glo "_law_short_refused") rfl), F__law_short_refused.kp, FunD.bindsN F__law_short_refused fun _ _ _ _ _ _ us hl => match us, hl with | [_, _], _ => rfl⟩
  have O__law_things_refused : OwnC P w K mg base (L2N.CX P w) 102 "_law_things_refused" ["length", "none", "bad"] (sp__law_things_refused K P w mg base) := ⟨_, fd__law_things_refused, ok__law_things_refused F__law_things_refused W O__law_refused O_answers_to, He.glo_ok X G (c.fact 43 (f := .glo "_law_things_refused") rfl), F__law_things_refused.kp, FunD.bindsN F__law_things_refused fun _ _ _ _ _ _ us hl => match us, hl with | [_, _, _], _ => rfl⟩
  exact ok_law F_law W O__law_bags O__law_take O__law_some_stands O_fewest_ahead O_stands_ahead O__law_refused O_Search___init__ O_how_many O_alike O_how_many_round O_can_lie O_fewest_wrong O_can_lie_round O__law_things_refused O__law_short_refused TB0 (Ne.symm neT)
theorem tab2 {H : Hp} {A B : Addr} {q r : Str} (h : H A = some (.tbl #[])) (h2 : H B = some (.tbl #[])) : LamX.Tabs [(A, q), (B, r)] H := fun p hp => by
  rcases List.mem_cons.mp hp with hp | hp
  · rw [hp]
    exact ⟨#[], h, trivial, fun pos cv e => by cases e⟩
  · rw [List.mem_singleton.mp hp]
    exact ⟨#[], h2, trivial, fun pos cv e => by cases e⟩
end Wc
open PySem PySem.W PySem.Calls PyProof.Rows
set_option maxRecDepth 100000 in
set_option maxHeartbeats 0 in
theorem PySem.Challenge.cw_warmcold_k15_who_is_refused_holds : PySem.Challenge.rw_warmcold_k15_who_is_refused.Holds := by
  w_on; o_law
  refine HandSHeadRun.head_any (r := OpenLaw.row PySem.Challenge.rw_warmcold_k15_who_is_refused) (q := view (OpenLaw.row PySem.Challenge.rw_warmcold_k15_who_is_refused).prog [70]) (H := Wc.hk) (ob := Wc.ob) (M := 12000) (loose := Wc.loose) (d := HandSHeadRun.topDef (OpenLaw.row PySem.Challenge.rw_warmcold_k15_who_is_refused).prog 70) (kwd := []) Wc.ob_eq (by kernel_rfl) (fun s => by kernel_rfl) Wc.run (by kernel_rfl) (by kernel_rfl) (by kernel_rfl) (by rfl) (by first | assumption | decide +kernel) (by decide +kernel) ⟨rfl, rfl, rfl, rfl, rfl, by decide +kernel⟩ ?hw ?hc
  case hw => w_witness2
  case hc =>
    refine LamX.walk_ofTsE (l := PySem.Challenge.rw_warmcold_k15_who_is_refused) (n := 63) (k := 103) (x := "script") (CX := fun w => L2N.CX (PySem.Challenge.rw_warmcold_k15_who_is_refused).prog w) rfl (by decide) (by kernel_rfl) ⟨rfl, by decide, by decide⟩ ?F (fun _ _ _ _ _ ⟨_, _, _, _, _, _, _, _, _, _, _, _, z⟩ => z)
    intro w mg fa h Y G hmg0
    obtain ⟨K, KX, c, cF⟩ := Y
    have hmg : mg ("law" : PySem.Str) = some (.ref fa) := by
      have e : (HandSHeadRun.topDef (OpenLaw.row PySem.Challenge.rw_warmcold_k15_who_is_refused).prog 70).name = ("law" : PySem.Str) := by kernel_rfl
      rw [← e]
      exact hmg0
    obtain ⟨fd, hb, hF⟩ := Wc.facts (P := (PySem.Challenge.rw_warmcold_k15_who_is_refused).prog) (w := w) (by rfl) (by decide +kernel) KX G hmg ⟨c, cF⟩
    have m1 : (("law", none) : He.Defn) ∈ Wc.tf := List.mem_cons_self
    have m2 : (("_law_short_refused", none) : He.Defn) ∈ Wc.tf := List.mem_cons_of_mem _ List.mem_cons_self
    have two : ∀ {Pr : Addr × Addr → Prop}, Pr (He.cT K ("law", none)) → Pr (He.cT K ("_law_short_refused", none)) → ∀ p ∈ [He.cT K ("law", none), He.cT K ("_law_short_refused", none)], Pr p := fun {Pr} a b p hp => by
      rcases List.mem_cons.mp hp with z | z
      · rw [z]; exact a
      · rw [List.mem_singleton.mp z]; exact b
    refine ⟨K, KX, fd, [He.cT K ("law", none), He.cT K ("_law_short_refused", none)], Wc.sp_law K (Wc.TT K), two (c.empty _ m1) (c.empty _ m2), two (c.out _ m1) (c.out _ m2), two (PySem.W.codeHd_of_K KX (c.hd _ m1)) (PySem.W.codeHd_of_K KX (c.hd _ m2)), hb, fun H a ns hl _ hT hS => ⟨a, ns, rfl, hS, hl, Wc.tab2 (hT _ List.mem_cons_self) (hT _ (List.mem_cons_of_mem _ List.mem_cons_self)), fun _ => rfl⟩, fun base hK hN hTB => hF base hK hN (hTB _ List.mem_cons_self) (hTB _ (List.mem_cons_of_mem _ List.mem_cons_self))⟩
