import PyProof.Rows.All
import Wide.All
import OpenK.AllK
import Wide.FinOn
import KE.KStateDown
import HandS.ForMost
import HandS.Defaults
import HandS.IsInst
import HandS.Conv
import HandS.Style
import HandS.Evl
import HandS.Head0
import HandS.Head1
import HandS.Head2
import HandS.HeadEnd
import HandS.HeadHook1
import HandS.HeadHook2
import HandS.HotCalls
import HandS.ExcCtx
import HandS.ExcIs
import HandS.SlotsOwn
import HandS.WordsExc
import HandS.Nested
import HandS.Lambda
import HandS.EndTab
import HandS.HeadHook3
import HandS.HeadHook4
import HandS.HeadWalk
import HandS.FStr
import HandS.RaiseMore
import HandS.ExcOwn
import KE.KRevSl
import HandS.TupSets
import HandS.Deep
import HandS.TupAny
import KE.DatumOrd
import PyProof.Rows.RowBridgeK
import HandS.Walk
import KE.KeyNested
import PySem.Challenge.RW_warmcold_k13_whole_a_search_deed_by_deed
set_option Elab.async false
set_option linter.all false
set_option maxRecDepth 100000
set_option maxHeartbeats 2000000
namespace Wc
open PySem PySem.Spec PyProof.Rows L2
open Evl (Ex ex_l ex_t fresh_back)
/-! ### own defs by their promises -/
structure Own (P : Program) (w : World) (K : PySem.W.Frag) (mg : Str → Option Value) (base : Heap) (k : Nat) (x : Str) (ps : List Str) (sp : Sp) : Prop where
  ex : ∃ (f : Addr) (fd : FuncData), FnOk P w K mg base CX0 k f fd ps sp ∧ mg x = some (.ref f) ∧ PySem.W.keepIn K (.ref f) = true ∧ Binds K fd ps []
theorem pe_callO {X : Cx} {k k' : Nat} {x : Str} {ps : List Str} {sp : Sp} {p pos : Pos} {e : Expr} {es : List Expr} {t : TA}
    (O : Own X.prog X.w X.K X.mg X.base k x ps sp) (hr : Room k' X.A) (hk : k ≤ k') (hg : Gl X x) (ha : PA X (e :: es) t)
    (hdb : (x == ("__debug__" : Str)) = false := by decide) (he : starEach (e :: es) X.env = (false, eval e X.env) :: starEach es X.env := by rfl) (hpl : (backTo pos (starEach es X.env)).any (·.1) = false := by rfl) :
    PE X (.Call (.Name x p) (e :: es) [] pos) (tCall sp [] E0 t) := by
  obtain ⟨f, fd, F, hm, hkp, hb⟩ := O.ex
  exact pe_call F (hr.mono hk) hg hm hkp hb .nil pass0 ha hdb he hpl
theorem units65 {k : Nat} {A : Around} (hr : Room k A) : A.units + 65 < cLine := by
  have := hr.un
  omega
abbrev FnP (K : PySem.W.Frag) (x : Str) (st : Stmt) (f : Addr) (fd : FuncData) : Prop := FunD K x x (defArgs st) (defBody st) (defScope st) [] [] f fd
/-! ### the head's facts, with one Bool more -/
def obsY (fa : List He.Fa) (fn : List He.DefD) (ex : PySem.W.Frag → Bool) (K : PySem.W.Frag) : He.AlD × Bool := (He.obsD fa fn K, ex K)
def obsYG (n : Nat) (fa : List He.Fa) (fn : List He.DefD) (ex : PySem.W.Frag → Bool) (g : Addr → Option Obj) : He.AlD × Bool := obsY fa fn ex (He.frG g (He.asD g n))
def SaysY (fa : List He.Fa) (fn : List He.DefD) (ex : PySem.W.Frag → Bool) (K : PySem.W.Frag) : Prop := He.SaysD fa fn K ∧ ex K = true
def hookY (n : Nat) (fa : List He.Fa) (fn : List He.DefD) (ex : PySem.W.Frag → Bool) : PySem.W.Hook where
  α := He.AlD × Bool
  obs := fun s => obsYG n fa fn ex s.heap.get?
  val := fun _ => (He.valD fn, true)
  says := fun _ h => ∃ K : PySem.W.Frag, K.In h ∧ SaysY fa fn ex K
  of := fun _ _ e => ⟨_, He.frG_in, congrArg Prod.fst e, congrArg Prod.snd e⟩
  keeps := fun _ _ _ ⟨K, hK, c⟩ k => ⟨K, PySem.W.Frag.In.keeps hK k, c⟩
theorem obsYG_eq {n : Nat} {fa : List He.Fa} {fn : List He.DefD} {ex : PySem.W.Frag → Bool} {g : Addr → Option Obj} {s : Shared} (h : ∀ a, g a = s.heap.get? a) : obsYG n fa fn ex g = (hookY n fa fn ex).obs s := by
  have e : g = s.heap.get? := funext h
  rw [e]
  rfl
/-! ### built-ins -/
theorem bb_abs : bootBuiltins "abs" = some (.builtin "abs") := by decide +kernel
theorem bb_max : bootBuiltins "max" = some (.builtin "max") := by decide +kernel
theorem bb_min : bootBuiltins "min" = some (.builtin "min") := by decide +kernel
theorem bb_all : bootBuiltins "all" = some (.builtin "all") := by decide +kernel
theorem bb_sum : bootBuiltins "sum" = some (.builtin "sum") := by decide +kernel
theorem bb_sorted : bootBuiltins "sorted" = some (.builtin "sorted") := by decide +kernel
theorem bb_isinstance : bootBuiltins "isinstance" = some (.builtin "isinstance") := by decide +kernel
theorem bt_int : bootBuiltins "int" = some (.type "int") := by decide +kernel
theorem bt_bool : bootBuiltins "bool" = some (.type "bool") := by decide +kernel
theorem bt_str : bootBuiltins "str" = some (.type "str") := by decide +kernel
theorem bt_list : bootBuiltins "list" = some (.type "list") := by decide +kernel
theorem bt_tuple : bootBuiltins "tuple" = some (.type "tuple") := by decide +kernel
abbrev rAbs : List V → Hp → VK → Prop := fun xs H Q => ∃ i, xs = [.int i] ∧ Q (.int (if i < 0 then -i else i)) H
abbrev rMax2 : List V → Hp → VK → Prop := fun xs H Q => ∃ i j, xs = [.int i, .int j] ∧ Q (.int (if j > i then j else i)) H
abbrev rMin2 : List V → Hp → VK → Prop := fun xs H Q => ∃ i j, xs = [.int i, .int j] ∧ Q (.int (if j < i then j else i)) H
abbrev rInt1 : List V → Hp → VK → Prop := fun xs H Q => (∃ i, xs = [.int i] ∧ Q (.int i) H) ∨ ∃ k, xs = [.bl k] ∧ Q (.int (if k then 1 else 0)) H
abbrev rLenQ (K : PySem.W.Frag) : List V → Hp → VK → Prop := fun xs H Q => ∃ p ys, xs = [.ref p] ∧ (SqL K H p ys ∨ SqT K H p ys) ∧ Q (.int ys.length) H
abbrev rListOf (K : PySem.W.Frag) : List V → Hp → VK → Prop := fun xs H Q => ∃ p ys, xs = [.ref p] ∧ (SqL K H p ys ∨ SqT K H p ys) ∧ ∀ l, H l = none → Q (.ref l) (upd H l (.lst ys))
abbrev rTupleOf (K : PySem.W.Frag) : List V → Hp → VK → Prop := fun xs H Q => ∃ p ys, xs = [.ref p] ∧ ((SqL K H p ys ∧ ∀ l, H l = none → Q (.ref l) (upd H l (.tup ys))) ∨ (SqT K H p ys ∧ Q (.ref p) H))
/-! ### words -/
inductive Wo where
  | warm | cold | same
  deriving DecidableEq
def Wo.str : Wo → Str
  | .warm => "warm"
  | .cold => "cold"
  | .same => "same"
def vW (x : Wo) : V := .str x.str
theorem Wo.str_inj {x y : Wo} (h : x.str = y.str) : x = y := by
  revert h
  cases x <;> cases y <;> first | (intro _; rfl) | (intro h; exact absurd h (by decide +kernel))
theorem vW_inj {x y : Wo} (h : vW x = vW y) : x = y := Wo.str_inj (V.str.inj h)
def ab (i : Int) : Int := if i < 0 then -i else i
def word (far near : Int) : Wo := if near < far then .warm else if far < near then .cold else .same
def mv (t e l : Int) : Wo := word (ab (t - e)) (ab (t - l))
def wordsOf (t : Int) : List Int → List Wo
  | e :: l :: r => mv t e l :: wordsOf t (l :: r)
  | _ => []
theorem wordsOf_len (t : Int) : ∀ ns : List Int, (wordsOf t ns).length = ns.length - 1
  | [] => rfl
  | [_] => rfl
  | x :: y :: r => by
    show (wordsOf t (y :: r)).length + 1 = (y :: r).length + 1 - 1
    rw [wordsOf_len t (y :: r)]
    simp
theorem wordsOf_get (t : Int) : ∀ (ns : List Int) (i : Nat) (x y : Int), ns[i]? = some x → ns[i + 1]? = some y → (wordsOf t ns)[i]? = some (mv t x y)
  | [], _, _, _, h, _ => by simp at h
  | [_], 0, _, _, _, h => by simp at h
  | [_], i + 1, _, _, h, _ => by simp at h
  | a :: b :: r, 0, x, y, h, h2 => by
    have e1 : a = x := Option.some.inj h
    have e2 : b = y := Option.some.inj h2
    rw [← e1, ← e2]
    rfl
  | a :: b :: r, i + 1, x, y, h, h2 => wordsOf_get t (b :: r) i x y h h2
/-! ### data -/
theorem dpI {K : PySem.W.Frag} {H : Hp} : ∀ ns : List Int, DpAll K H (ns.map V.int) (ns.map PyData.int)
  | [] => .nil
  | n :: r => .cons (.int n) (dpI r)
theorem dpW {K : PySem.W.Frag} {H : Hp} : ∀ ws : List Wo, DpAll K H (ws.map vW) (ws.map fun x => PyData.str x.str)
  | [] => .nil
  | x :: r => .cons (.str x.str) (dpW r)
theorem shI : ∀ ns : List Int, PyData.canLayAll0 (ns.map PyData.int) = true ∧ PyData.depthAll (ns.map PyData.int) = 0
  | [] => ⟨rfl, rfl⟩
  | n :: r => by
    obtain ⟨h1, h2⟩ := shI r
    constructor
    · show (PyData.canLay0 (PyData.int n) && PyData.canLayAll0 (r.map PyData.int)) = true
      rw [h1] <;> rfl
    · show max (PyData.depth (PyData.int n)) (PyData.depthAll (r.map PyData.int)) = 0
      rw [h2] <;> rfl
theorem strOk_w (x : Wo) : PyData.canLay0 (PyData.str x.str) = true := by
  cases x <;> decide +kernel
theorem shW : ∀ ws : List Wo, PyData.canLayAll0 (ws.map fun x => PyData.str x.str) = true ∧ PyData.depthAll (ws.map fun x => PyData.str x.str) = 0
  | [] => ⟨rfl, rfl⟩
  | x :: r => by
    obtain ⟨h1, h2⟩ := shW r
    constructor
    · show (PyData.canLay0 (PyData.str x.str) && PyData.canLayAll0 (r.map fun x => PyData.str x.str)) = true
      rw [h1, strOk_w] <;> rfl
    · show max (PyData.depth (PyData.str x.str)) (PyData.depthAll (r.map fun x => PyData.str x.str)) = 0
      rw [h2] <;> rfl
theorem shaped_l {ds : List PyData} (h : PyData.canLayAll0 ds = true ∧ PyData.depthAll ds = 0) : SeqAt.shaped (.list ds) = true := by
  unfold SeqAt.shaped
  have e1 : PyData.canLay0 (.list ds) = true := h.1
  have e2 : PyData.depth (.list ds) = 1 := by
    show PyData.depthAll ds + 1 = 1
    rw [h.2]
  rw [e1, e2] <;> rfl
theorem shaped_t {ds : List PyData} (h : PyData.canLayAll0 ds = true ∧ PyData.depthAll ds = 0) : SeqAt.shaped (.tuple ds) = true := by
  unfold SeqAt.shaped
  have e1 : PyData.canLay0 (.tuple ds) = true := h.1
  have e2 : PyData.depth (.tuple ds) = 1 := by
    show PyData.depthAll ds + 1 = 1
    rw [h.2]
  rw [e1, e2] <;> rfl
theorem eqvI : ∀ ns ms : List Int, PyData.eqvAll (ns.map PyData.int) (ms.map PyData.int) = decide (ns = ms)
  | [], [] => rfl
  | [], _ :: _ => rfl
  | _ :: _, [] => rfl
  | n :: r, m :: q => by
    show (PyData.eqv (PyData.int n) (PyData.int m) && PyData.eqvAll (r.map PyData.int) (q.map PyData.int)) = _
    rw [eqvI r q]
    show ((n == m) && decide (r = q)) = _
    by_cases h1 : n = m <;> by_cases h2 : r = q <;> simp [h1, h2]
theorem eqvW : ∀ ns ms : List Wo, PyData.eqvAll (ns.map fun x => PyData.str x.str) (ms.map fun x => PyData.str x.str) = decide (ns = ms)
  | [], [] => rfl
  | [], _ :: _ => rfl
  | _ :: _, [] => rfl
  | n :: r, m :: q => by
    show (PyData.eqv (PyData.str n.str) (PyData.str m.str) && PyData.eqvAll (r.map fun x => PyData.str x.str) (q.map fun x => PyData.str x.str)) = _
    rw [eqvW r q]
    show ((n.str == m.str) && decide (r = q)) = _
    have e : (n.str == m.str) = decide (n = m) := by
      cases n <;> cases m <;> decide +kernel
    rw [e]
    by_cases h1 : n = m <;> by_cases h2 : r = q <;> simp [h1, h2]
/-- two lists of ints, of words, compared -/
theorem eqII {K : PySem.W.Frag} {H : Hp} {a b : Addr} {ns ms : List Int} {Q : VK} (h1 : SqL K H a (ns.map V.int)) (h2 : SqL K H b (ms.map V.int)) (q : Q (.bl (decide (ns = ms))) H) : rEqD K (.ref a) (.ref b) H Q := by
  refine ⟨_, _, .lst h1 (dpI ns), .lst h2 (dpI ms), shaped_l (shI ns), shaped_l (shI ms), ?_⟩
  show Q (.bl (PyData.eqvAll (ns.map PyData.int) (ms.map PyData.int))) H
  rw [eqvI]
  exact q
theorem neII {K : PySem.W.Frag} {H : Hp} {a b : Addr} {ns ms : List Int} {Q : VK} (h1 : SqL K H a (ns.map V.int)) (h2 : SqL K H b (ms.map V.int)) (q : Q (.bl (!decide (ns = ms))) H) : rNeD K (.ref a) (.ref b) H Q := by
  refine ⟨_, _, .lst h1 (dpI ns), .lst h2 (dpI ms), shaped_l (shI ns), shaped_l (shI ms), ?_⟩
  show Q (.bl (!PyData.eqvAll (ns.map PyData.int) (ms.map PyData.int))) H
  rw [eqvI]
  exact q
theorem eqWW {K : PySem.W.Frag} {H : Hp} {a b : Addr} {ns ms : List Wo} {Q : VK} (h1 : SqL K H a (ns.map vW)) (h2 : SqL K H b (ms.map vW)) (q : Q (.bl (decide (ns = ms))) H) : rEqD K (.ref a) (.ref b) H Q := by
  refine ⟨_, _, .lst h1 (dpW ns), .lst h2 (dpW ms), shaped_l (shW ns), shaped_l (shW ms), ?_⟩
  show Q (.bl (PyData.eqvAll (ns.map fun x => PyData.str x.str) (ms.map fun x => PyData.str x.str))) H
  rw [eqvW]
  exact q
theorem neWW {K : PySem.W.Frag} {H : Hp} {a b : Addr} {ns ms : List Wo} {Q : VK} (h1 : SqL K H a (ns.map vW)) (h2 : SqL K H b (ms.map vW)) (q : Q (.bl (!decide (ns = ms))) H) : rNeD K (.ref a) (.ref b) H Q := by
  refine ⟨_, _, .lst h1 (dpW ns), .lst h2 (dpW ms), shaped_l (shW ns), shaped_l (shW ms), ?_⟩
  show Q (.bl (!PyData.eqvAll (ns.map fun x => PyData.str x.str) (ms.map fun x => PyData.str x.str))) H
  rw [eqvW]
  exact q
theorem eqTT {K : PySem.W.Frag} {H : Hp} {a b : Addr} {ns ms : List Int} {Q : VK} (h1 : SqT K H a (ns.map V.int)) (h2 : SqT K H b (ms.map V.int)) (q : Q (.bl (decide (ns = ms))) H) : rEqD K (.ref a) (.ref b) H Q := by
  refine ⟨_, _, .tup h1 (dpI ns), .tup h2 (dpI ms), shaped_t (shI ns), shaped_t (shI ms), ?_⟩
  show Q (.bl (PyData.eqvAll (ns.map PyData.int) (ms.map PyData.int))) H
  rw [eqvI]
  exact q
theorem neTT {K : PySem.W.Frag} {H : Hp} {a b : Addr} {ns ms : List Int} {Q : VK} (h1 : SqT K H a (ns.map V.int)) (h2 : SqT K H b (ms.map V.int)) (q : Q (.bl (!decide (ns = ms))) H) : rNeD K (.ref a) (.ref b) H Q := by
  refine ⟨_, _, .tup h1 (dpI ns), .tup h2 (dpI ms), shaped_t (shI ns), shaped_t (shI ms), ?_⟩
  show Q (.bl (!PyData.eqvAll (ns.map PyData.int) (ms.map PyData.int))) H
  rw [eqvI]
  exact q
/-! ### comprehensions, slices -/
theorem given_all (n : Nat) (v : Nat → V) : Evl.given n (fun _ => true) v = (List.range n).map v := by
  unfold Evl.given
  rw [List.filter_eq_self.mpr (fun _ _ => rfl)]
theorem range_map (ns : List Int) (F : Int → V) : (List.range ns.length).map (fun i => F (ns.getD i 0)) = ns.map F := by
  apply List.ext_getElem?
  intro i
  rw [List.getElem?_map, List.getElem?_map]
  by_cases h : i < ns.length
  · rw [List.getElem?_range h, List.getElem?_eq_getElem h]
    show some (F (ns.getD i 0)) = some (F ns[i])
    rw [List.getD_eq_getElem?_getD, List.getElem?_eq_getElem h]
    rfl
  · rw [List.getElem?_eq_none (by rw [List.length_range]; omega), List.getElem?_eq_none (by omega)]
    rfl
/-- a list of ints, each sent on -/
theorem el_map {K : PySem.W.Frag} {σ : L2.St} {H : Hp} {a : Addr} {ns : List Int} {tl te : TE} {j : Nat} {vs : List Nat} (F : Int → V) (h : Evl.Ev tl σ H (.ref a)) (hx : SqL K H a (ns.map V.int)) (hz : ns.length ≤ 40000)
    (hw : ∀ x, wipe ((wipe σ vs).set j (some x)) vs = wipe σ vs) (he : ∀ n H1, Ex H H1 → n ∈ ns → Evl.Ev te ((wipe σ vs).set j (some (.int n))) H1 (F n)) : Evl.EvL (tLc (iList K tl) (gName j) tYes te vs) σ H (ns.map F) := by
  have r := Evl.el_lcL (K := K) (xs := ns.map V.int) (te := te) (t := tYes) (vs := vs) (j := j) (fun _ => true) (fun i => F (ns.getD i 0)) h hx (by rw [List.length_map]; exact hz) hw (fun i x H1 _ _ => fun H2 _ Q q => q H2 (Ex.refl H2)) (fun i x H1 e hi _ => by
    rw [List.getElem?_map] at hi
    by_cases hl : i < ns.length
    · rw [List.getElem?_eq_getElem hl] at hi
      have ex : x = .int ns[i] := (Option.some.inj hi).symm
      have eg : ns.getD i 0 = ns[i] := by
        rw [List.getD_eq_getElem?_getD, List.getElem?_eq_getElem hl]
        rfl
      rw [ex]
      show Evl.Ev te ((wipe σ vs).set j (some (.int ns[i]))) H1 (F (ns.getD i 0))
      rw [eg]
      exact he ns[i] H1 e (List.getElem_mem hl)
    · rw [List.getElem?_eq_none (by omega)] at hi
      cases hi)
  rw [given_all, List.length_map, range_map] at r
  exact r
/-- the same of any list -/
theorem range_mapG {α : Type} (d : α) (ns : List α) (F : α → V) : (List.range ns.length).map (fun i => F (ns.getD i d)) = ns.map F := by
  apply List.ext_getElem?
  intro i
  rw [List.getElem?_map, List.getElem?_map]
  by_cases h : i < ns.length
  · rw [List.getElem?_range h, List.getElem?_eq_getElem h]
    show some (F (ns.getD i d)) = some (F ns[i])
    rw [List.getD_eq_getElem?_getD, List.getElem?_eq_getElem h]
    rfl
  · rw [List.getElem?_eq_none (by rw [List.length_range]; omega), List.getElem?_eq_none (by omega)]
    rfl
theorem el_mapG {α : Type} (d : α) (em : α → V) {K : PySem.W.Frag} {σ : L2.St} {H : Hp} {a : Addr} {ns : List α} {tl te : TE} {j : Nat} {vs : List Nat} (F : α → V) (h : Evl.Ev tl σ H (.ref a)) (hx : SqL K H a (ns.map em)) (hz : ns.length ≤ 40000)
    (hw : ∀ x, wipe ((wipe σ vs).set j (some x)) vs = wipe σ vs) (he : ∀ n H1, Ex H H1 → n ∈ ns → Evl.Ev te ((wipe σ vs).set j (some (em n))) H1 (F n)) : Evl.EvL (tLc (iList K tl) (gName j) tYes te vs) σ H (ns.map F) := by
  have r := Evl.el_lcL (K := K) (xs := ns.map em) (te := te) (t := tYes) (vs := vs) (j := j) (fun _ => true) (fun i => F (ns.getD i d)) h hx (by rw [List.length_map]; exact hz) hw (fun i x H1 _ _ => fun H2 _ Q q => q H2 (Ex.refl H2)) (fun i x H1 e hi _ => by
    rw [List.getElem?_map] at hi
    by_cases hl : i < ns.length
    · rw [List.getElem?_eq_getElem hl] at hi
      have ex : x = em ns[i] := (Option.some.inj hi).symm
      have eg : ns.getD i d = ns[i] := by
        rw [List.getD_eq_getElem?_getD, List.getElem?_eq_getElem hl]
        rfl
      rw [ex]
      show Evl.Ev te ((wipe σ vs).set j (some (em ns[i]))) H1 (F (ns.getD i d))
      rw [eg]
      exact he ns[i] H1 e (List.getElem_mem hl)
    · rw [List.getElem?_eq_none (by omega)] at hi
      cases hi)
  rw [given_all, List.length_map, range_mapG] at r
  exact r
/-- the whole numbers from lo up to below hi -/
def rng (lo hi : Int) : List Int := (List.range (hi - lo).toNat).map fun i : Nat => lo + (i : Int)
theorem mem_rng {lo hi n : Int} : n ∈ rng lo hi ↔ lo ≤ n ∧ n < hi := by
  unfold rng
  rw [List.mem_map]
  constructor
  · rintro ⟨k, hk, rfl⟩
    have := List.mem_range.mp hk
    omega
  · intro h
    exact ⟨(n - lo).toNat, List.mem_range.mpr (by omega), by omega⟩
theorem rng_len (lo hi : Int) : (rng lo hi).length = (hi - lo).toNat := by
  unfold rng
  rw [List.length_map, List.length_range]
theorem given_rng (lo hi : Int) (f : Int → Bool) (F : Int → V) : Evl.given (hi - lo).toNat (fun i => f (lo + (i : Int))) (fun i => F (lo + (i : Int))) = ((rng lo hi).filter f).map F := by
  unfold Evl.given rng
  rw [List.filter_map, List.map_map]
  rfl
/-- a comprehension over range(lo, hi) that keeps some -/
theorem el_rng {σ : L2.St} {H : Hp} {ta : TA} {t : TT} {te : TE} {j : Nat} {vs : List Nat} {lo hi : Int} (f : Int → Bool) (F : Int → V) (h : Evl.EvA ta σ H [.int lo, .int hi]) (hb : -30000 ≤ lo ∧ lo ≤ 30000 ∧ -30000 ≤ hi ∧ hi ≤ 10000)
    (hw : ∀ x, wipe ((wipe σ vs).set j (some x)) vs = wipe σ vs) (ht : ∀ n H1, Ex H H1 → lo ≤ n → n < hi → Evl.EvT t ((wipe σ vs).set j (some (.int n))) H1 (f n))
    (he : ∀ n H1, Ex H H1 → lo ≤ n → n < hi → f n = true → Evl.Ev te ((wipe σ vs).set j (some (.int n))) H1 (F n)) : Evl.EvL (tLc (iRng2 ta) (gName j) t te vs) σ H (((rng lo hi).filter f).map F) := fun H0 e Q q => h H0 e _ fun H1 e1 =>
  ⟨lo, hi, rfl, ⟨by omega, by omega, by omega, by omega⟩, fun Dl hD =>
    lc_range (lo := lo) (n := (hi - lo).toNat) (Evl.Cw H1 (fun i => f (lo + (i : Int))) (fun i => F (lo + (i : Int))) Dl) ⟨hD, Ex.new hD, upd_same⟩ (fun i H' hi' p =>
      ⟨hw _, Evl.cw_turn p (by omega) (ht (lo + (i : Int)) H1 (e.trans e1) (by omega) (by omega)) (fun hf => he (lo + (i : Int)) H1 (e.trans e1) (by omega) (by omega) hf)⟩)
      (fun H' p => by
        have p3 := p.2.2
        rw [given_rng] at p3
        exact q Dl H' (fresh_back e1 p.1) (e1.trans p.2.1) p3)⟩
theorem given_list (ns : List Int) (f : Int → Bool) (F : Int → V) : Evl.given ns.length (fun i => f (ns.getD i 0)) (fun i => F (ns.getD i 0)) = (ns.filter f).map F := by
  have e : (List.range ns.length).map (fun i => ns.getD i 0) = ns := by
    apply List.ext_getElem?
    intro i
    rw [List.getElem?_map]
    by_cases h : i < ns.length
    · rw [List.getElem?_range h, List.getElem?_eq_getElem h]
      show some (ns.getD i 0) = some ns[i]
      rw [List.getD_eq_getElem?_getD, List.getElem?_eq_getElem h]
      rfl
    · rw [List.getElem?_eq_none (by rw [List.length_range]; omega), List.getElem?_eq_none (by omega)]
      rfl
  unfold Evl.given
  conv => rhs; rw [← e]
  rw [List.filter_map, List.map_map]
  rfl
theorem getD_at {ns : List Int} {i : Nat} {x : V} (hi : (ns.map V.int)[i]? = some x) : ns.getD i 0 ∈ ns ∧ x = .int (ns.getD i 0) := by
  rw [List.getElem?_map] at hi
  by_cases hl : i < ns.length
  · rw [List.getElem?_eq_getElem hl] at hi
    rw [List.getD_eq_getElem?_getD, List.getElem?_eq_getElem hl]
    exact ⟨List.getElem_mem hl, (Option.some.inj hi).symm⟩
  · rw [List.getElem?_eq_none (by omega)] at hi
    cases hi
/-- a comprehension over a list, a tuple, a new tuple of ints that keeps some -/
theorem el_lst {K : PySem.W.Frag} {σ : L2.St} {H : Hp} {a : Addr} {ns : List Int} {tl te : TE} {t : TT} {j : Nat} {vs : List Nat} (f : Int → Bool) (F : Int → V) (h : Evl.Ev tl σ H (.ref a)) (hx : SqL K H a (ns.map V.int)) (hz : ns.length ≤ 40000)
    (hw : ∀ x, wipe ((wipe σ vs).set j (some x)) vs = wipe σ vs) (ht : ∀ n H1, Ex H H1 → n ∈ ns → Evl.EvT t ((wipe σ vs).set j (some (.int n))) H1 (f n))
    (he : ∀ n H1, Ex H H1 → n ∈ ns → f n = true → Evl.Ev te ((wipe σ vs).set j (some (.int n))) H1 (F n)) : Evl.EvL (tLc (iList K tl) (gName j) t te vs) σ H ((ns.filter f).map F) := by
  have r := Evl.el_lcL (K := K) (xs := ns.map V.int) (te := te) (t := t) (vs := vs) (j := j) (fun i => f (ns.getD i 0)) (fun i => F (ns.getD i 0)) h hx (by rw [List.length_map]; exact hz) hw
    (fun i x H1 e hi => by rw [(getD_at hi).2]; exact ht _ H1 e (getD_at hi).1) (fun i x H1 e hi hf => by rw [(getD_at hi).2]; exact he _ H1 e (getD_at hi).1 hf)
  rw [List.length_map, given_list] at r
  exact r
theorem el_tup {K : PySem.W.Frag} {σ : L2.St} {H : Hp} {a : Addr} {ns : List Int} {tl te : TE} {t : TT} {j : Nat} {vs : List Nat} (f : Int → Bool) (F : Int → V) (h : Evl.Ev tl σ H (.ref a)) (hx : SqT K H a (ns.map V.int)) (hz : ns.length ≤ 40000)
    (hw : ∀ x, wipe ((wipe σ vs).set j (some x)) vs = wipe σ vs) (ht : ∀ n H1, Ex H H1 → n ∈ ns → Evl.EvT t ((wipe σ vs).set j (some (.int n))) H1 (f n))
    (he : ∀ n H1, Ex H H1 → n ∈ ns → f n = true → Evl.Ev te ((wipe σ vs).set j (some (.int n))) H1 (F n)) : Evl.EvL (tLc (iTup K tl) (gName j) t te vs) σ H ((ns.filter f).map F) := fun H0 e Q q => h H0 e _ fun H1 e1 =>
  ⟨a, rfl, ⟨_, ex_t (e.trans e1) hx⟩, fun Dl hD =>
    lc_tup (xs := ns.map V.int) (Evl.Cw H1 (fun i => f (ns.getD i 0)) (fun i => F (ns.getD i 0)) Dl) ⟨hD, Ex.new hD, upd_same⟩ (fun i H' _ p => ex_t ((e.trans e1).trans p.2.1) hx) (fun i x H' hi p => by
      have hl : i < ns.length := by
        have := (List.getElem?_eq_some_iff.mp hi).1
        rw [List.length_map] at this
        exact this
      rw [(getD_at hi).2]
      exact ⟨hw _, Evl.cw_turn p (by omega) (ht _ H1 (e.trans e1) (getD_at hi).1) (fun hf => he _ H1 (e.trans e1) (getD_at hi).1 hf)⟩)
      (fun H' p => by
        have p3 := p.2.2
        rw [List.length_map, given_list] at p3
        exact q Dl H' (fresh_back e1 p.1) (e1.trans p.2.1) p3)⟩
theorem el_tupU {K : PySem.W.Frag} {σ : L2.St} {H : Hp} {ns : List Int} {tl te : TE} {t : TT} {j : Nat} {vs : List Nat} (f : Int → Bool) (F : Int → V) (h : Evl.EvU tl σ H (ns.map V.int)) (hz : ns.length ≤ 40000)
    (hw : ∀ x, wipe ((wipe σ vs).set j (some x)) vs = wipe σ vs) (ht : ∀ n H1, Ex H H1 → n ∈ ns → Evl.EvT t ((wipe σ vs).set j (some (.int n))) H1 (f n))
    (he : ∀ n H1, Ex H H1 → n ∈ ns → f n = true → Evl.Ev te ((wipe σ vs).set j (some (.int n))) H1 (F n)) : Evl.EvL (tLc (iTup K tl) (gName j) t te vs) σ H ((ns.filter f).map F) := fun H0 e Q q => h H0 e _ fun a H1 _ e1 hx =>
  ⟨a, rfl, ⟨_, SqT.of hx⟩, fun Dl hD =>
    lc_tup (xs := ns.map V.int) (Evl.Cw H1 (fun i => f (ns.getD i 0)) (fun i => F (ns.getD i 0)) Dl) ⟨hD, Ex.new hD, upd_same⟩ (fun i H' _ p => SqT.of (p.2.1 _ _ hx)) (fun i x H' hi p => by
      have hl : i < ns.length := by
        have := (List.getElem?_eq_some_iff.mp hi).1
        rw [List.length_map] at this
        exact this
      rw [(getD_at hi).2]
      exact ⟨hw _, Evl.cw_turn p (by omega) (ht _ H1 (e.trans e1) (getD_at hi).1) (fun hf => he _ H1 (e.trans e1) (getD_at hi).1 hf)⟩)
      (fun H' p => by
        have p3 := p.2.2
        rw [List.length_map, given_list] at p3
        exact q Dl H' (fresh_back e1 p.1) (e1.trans p.2.1) p3)⟩
theorem yes_ev {σ : L2.St} {H : Hp} : Evl.EvT tYes σ H true := fun H1 _ _ q => q H1 (Ex.refl H1)
theorem filter_yes (ns : List Int) : ns.filter (fun _ => true) = ns := List.filter_eq_self.mpr fun _ _ => rfl
/-- a loop over enumerate of a list that stays -/
theorem for_enum {K : PySem.W.Frag} {a : Addr} {xs : List V} {g : TG} {tb : TS} {D : Ends} {σ : L2.St} {H : Hp} (Pv : Nat → L2.St → Hp → Prop) (h0 : Pv 0 σ H) (hl : ∀ i σ H, i ≤ xs.length → Pv i σ H → SqL K H a xs)
    (hs : ∀ (i : Nat) (x : V) (T : Addr) (σ : L2.St) (H : Hp), xs[i]? = some x → Pv i σ H → H T = none → g (.ref T) σ (upd H T (.tup [.int (i : Nat), x])) fun σ2 H2 => tb { D with nx := Pv (i + 1), ct := Pv (i + 1), bk := D.nx } σ2 H2) (hd : ∀ σ H, Pv xs.length σ H → D.nx σ H) :
    ∃ W : Nat → Nat → L2.St → Hp → Prop, (∃ m, W 0 m σ H) ∧ ∀ i m σ H, W i m σ H →
      ((Ite K a).stop i H ∧ D.nx σ H) ∨ ((Ite K a).go i H ∧ ∃ N : L2.St → Hp → Prop, (∀ σ' H', N σ' H' → ∃ m', m' < m ∧ W (i + 1) m' σ' H') ∧ ∀ v H', (Ite K a).yld i H v H' → g v σ H' fun σ2 H2 => tb { D with nx := N, ct := N, bk := D.nx } σ2 H2) := by
  refine ⟨fun i m σ H => i + m = xs.length ∧ Pv i σ H, ⟨xs.length, Nat.zero_add _, h0⟩, ?_⟩
  rintro i m σ H ⟨hm, p⟩
  have hq := hl i σ H (by omega) p
  by_cases hi : i < xs.length
  · refine .inr ⟨⟨xs, xs[i], hq, List.getElem?_eq_getElem hi⟩, Pv (i + 1), fun σ' H' p' => ⟨m - 1, by omega, by omega, p'⟩, ?_⟩
    rintro v H' ⟨T, x, rfl, nT, rfl, hx⟩
    exact hs i x T σ H (hx xs hq) p nT
  · have e : i = xs.length := by omega
    rw [e] at p
    exact .inl ⟨⟨xs, hq, by omega⟩, hd σ H p⟩
theorem cut1 (xs : List V) : cutV xs (some 1) none = xs.drop 1 := by
  unfold cutV
  have e1 : HT.sIx xs.length 0 (some 1) = min 1 xs.length := HT.sIx_nat xs.length 0 1
  rw [e1, HT.sIx_none]
  match xs with
  | [] => rfl
  | x :: r =>
    have e2 : min 1 (x :: r).length = 1 := Nat.min_eq_left (by simp)
    rw [e2]
    show List.take (r.length + 1 - 1) r = r
    rw [Nat.add_sub_cancel, List.take_length]
/-- a list of places of a path of length l -/
def Places (l : Int) (ns : List Int) : Prop := ∀ n ∈ ns, 1 ≤ n ∧ n ≤ l
/-- the places at which just these words are answered -/
def lies (l : Int) (st : List Int) (ws : List Wo) : List Int := (rng 1 (l + 1)).filter fun t => decide (wordsOf t st = ws)
/-! ### bags -/
def Bag1 (H : Hp) (b : Addr) : Prop := ∃ (d : Addr) (c : Int) (ds : List Int), H b = some (.lst [.ref d, .int c]) ∧ H d = some (.lst (ds.map V.int)) ∧ ds.length = 400
def Bags (bs : List Addr) (H : Hp) : Prop := ∀ b ∈ bs, Bag1 H b
/-- all that is no bag stays -/
def Kp (bs : List Addr) (H H' : Hp) : Prop := ∀ a o, a ∉ bs → H a = some o → H' a = some o
theorem Kp.refl (bs : List Addr) (H : Hp) : Kp bs H H := fun _ _ _ h => h
theorem Kp.trans {bs : List Addr} {H H1 H2 : Hp} (a : Kp bs H H1) (b : Kp bs H1 H2) : Kp bs H H2 := fun c o n h => b c o n (a c o n h)
theorem Kp.ex {bs : List Addr} {H H' : Hp} (e : Ex H H') : Kp bs H H' := fun a o _ h => e a o h
theorem Bag1.ex {H H' : Hp} {b : Addr} (e : Ex H H') (h : Bag1 H b) : Bag1 H' b := by
  obtain ⟨d, c, ds, h1, h2, h3⟩ := h
  exact ⟨d, c, ds, e _ _ h1, e _ _ h2, h3⟩
theorem Bags.ex {bs : List Addr} {H H' : Hp} (e : Ex H H') (h : Bags bs H) : Bags bs H' := fun b hb => (h b hb).ex e
theorem Bags.fresh {bs : List Addr} {H : Hp} (h : Bags bs H) {p : Addr} (n : H p = none) : p ∉ bs := fun hp => by
  obtain ⟨d, c, ds, h1, _⟩ := h p hp
  rw [n] at h1
  cases h1
/-- an object that is no bag, and no bag's draws, may change -/
theorem Bags.mut {bs : List Addr} {H : Hp} {p : Addr} {o : HO} (h : Bags bs H) (n1 : p ∉ bs) (n2 : ∀ d ds, H d = some (.lst (List.map V.int ds)) → ds.length = 400 → d ≠ p) : Bags bs (upd H p o) := fun b hb => by
  obtain ⟨d, c, ds, h1, h2, h3⟩ := h b hb
  have e1 : b ≠ p := fun e => n1 (e ▸ hb)
  exact ⟨d, c, ds, by rw [upd_ne e1]; exact h1, by rw [upd_ne (n2 d ds h2 h3)]; exact h2, h3⟩
/-- the list of the bags is none of them -/
theorem bags_list {bs : List Addr} {H : Hp} {L : Addr} (hB : Bags bs H) (hL : H L = some (.lst (bs.map V.ref))) : L ∉ bs := fun z => by
  obtain ⟨d, c, ds, h1, _⟩ := hB L z
  rw [hL] at h1
  have e2 := HO.lst.inj (Option.some.inj h1)
  match bs, e2 with
  | [_, _], e2 => simp at e2
theorem ref_at {bs : List Addr} {i : Nat} {x : V} (hx : (bs.map V.ref)[i]? = some x) : ∃ b, b ∈ bs ∧ x = V.ref b := by
  rw [List.getElem?_map] at hx
  cases hg : bs[i]? with
  | none =>
    rw [hg] at hx
    cases hx
  | some b =>
    rw [hg] at hx
    exact ⟨b, List.mem_of_getElem? hg, (Option.some.inj hx).symm⟩
theorem int_at {ns : List Int} {i : Nat} {x : V} (hx : (ns.map V.int)[i]? = some x) : ∃ n, ns[i]? = some n ∧ x = V.int n := by
  rw [List.getElem?_map] at hx
  cases hg : ns[i]? with
  | none =>
    rw [hg] at hx
    cases hx
  | some b =>
    rw [hg] at hx
    exact ⟨b, rfl, (Option.some.inj hx).symm⟩
theorem Kp.mut {bs : List Addr} {H0 H : Hp} {p : Addr} {o : HO} (k : Kp bs H0 H) (n : H0 p = none) : Kp bs H0 (upd H p o) := fun a u na h => by
  rw [upd_ne (ne_of_none h n)]
  exact k a u na h
theorem Kp.new {bs : List Addr} {H0 H : Hp} {p : Addr} {o : HO} (k : Kp bs H0 H) (n : H p = none) : Kp bs H0 (upd H p o) := fun a u na h => by
  rw [upd_ne (ne_of_none (k a u na h) n)]
  exact k a u na h
end Wc
namespace Wc
open PySem PySem.Spec PyProof.Rows L2
open Evl (Ex ex_l ex_t fresh_back)
/-! ### where an exception is handled: iterators that end, tuples unpacked -/
section
open HandSPX HotX L2H
variable {prog : Program} {w : World} {A : Around} {E : Value → Shared → Prop} {s : Shared}
theorem nextL_hot {it l x1 : Addr} {i : Nat} {items : Array Value} {Q : Option Value → Shared → Prop} (hot : HotAt A x1 s.heap) (hne : it ≠ x1) (hit : s.heap.IsListIter it l i) (hl : s.heap.IsList l items) (hx : items[i]? = none)
    (hQ : ∀ h', Heap.ExtBut it s.heap h' → Q none { s with heap := h' }) : wpAny (model prog w) A (pyNext (.ref it)) Q E s := by
  have ⟨o, ho, hc, hd⟩ := hit
  have ⟨ol, hol, _, nl, hdl⟩ := hl
  have ⟨hh, o1, vs1, h1, d1, c1⟩ := hot
  unfold pyNext
  refine wpAny_bind (wpAny_attempt (wpAny_callSpecial?_slot (name := Str.ofString "__next__") hit.typeIs slot_listiter_next (wpAny_call_entry slot_listiter_next hit.typeIs entry_listiter_next ?_ (args_listiter_next _))))
  show wpAny _ _ (field (.ref it) 0 >>= _) _ _ s; refine wpAny_bind (wpAny_field ho hd (x := .ref l) rfl ?_)
  show wpAny _ _ (if (Value.ref l == Value.none) = true then _ else _) _ _ s; rw [if_neg (fun z : (Value.ref l == Value.none) = true => Bool.false_ne_true z)]
  show wpAny _ _ (field (.ref it) 1 >>= _) _ _ s; refine wpAny_bind (wpAny_field ho hd (x := .int i 0) rfl ?_)
  show wpAny _ _ (seqItems? (.ref l) >>= _) _ _ s; refine wpAny_bind (wpAny_seqItems hol hdl ?_); simp only [Int.toNat_natCast, hx]
  refine wpAny_bind (wpAny_rule (wpAny_bind (wpAny_setField ho hd (by simp) ?_))); show wpAny _ _ (newExc (.type "StopIteration") [] >>= _) _ _ _
  refine wpAny_bind ?_; simp only [newExc, newTuple]; refine wpAny_bind (wpAny_newObj_type ?_ (by size_fits))
  refine wpAny_bind (m := firstArgMember _ _) (wpAny_of_eq (a := Value.none) (by first | rfl | (simp only [firstArgMember]; rfl)) ?_); refine wpAny_newObj_type ?_ (by size_fits)
  have h1' : (s.heap.update it (Obj.mapFields (·.setIfInBounds 0 Value.none))).get? x1 = some o1 := by rw [Heap.get?_update_other _ _ hne]; exact h1
  refine raiseNew_hot ⟨hh, o1, vs1, Heap.get?_push_of_some _ (Heap.get?_push_of_some _ h1'), d1, c1⟩ (Nat.ne_of_lt (Heap.lt_size (Heap.get?_push_of_some _ h1'))) (Heap.get?_push_size _ rfl) rfl (by first | (simp; done) | (simp; omega)) ?_
  refine wpAny_bind (wpAny_isInstance (T := "StopIteration") (b := true) ⟨_, Heap.get?_update_self _ (Heap.get?_push_size _ rfl) rfl, rfl⟩ isSubtype_stop (wpAny_pure (hQ _ fun b ob hb e => ?_)))
  have e1 : (s.heap.update it (Obj.mapFields (·.setIfInBounds 0 Value.none))).get? b = some ob := by rw [Heap.get?_update_other _ _ (Ne.symm hb)]; exact e
  rw [Heap.get?_update_other _ _ (Nat.ne_of_gt (Heap.lt_size (Heap.get?_push_of_some _ e1)))]; exact Heap.get?_push_of_some _ (Heap.get?_push_of_some _ e1)
theorem nextT_hot {it t x1 : Addr} {i : Nat} {items : Array Value} {Q : Option Value → Shared → Prop} (hot : HotAt A x1 s.heap) (hne : it ≠ x1) (hit : IsTupIter s.heap it t i) (ht : IsTup s.heap t items) (hx : items[i]? = none)
    (hQ : ∀ h', Heap.ExtBut it s.heap h' → Q none { s with heap := h' }) : wpAny (model prog w) A (pyNext (.ref it)) Q E s := by
  have ⟨o, ho, hc, hd⟩ := hit
  have ⟨ol, hol, _, nl, hdl⟩ := ht
  have ⟨hh, o1, vs1, h1, d1, c1⟩ := hot
  unfold pyNext
  refine wpAny_bind (wpAny_attempt (wpAny_callSpecial?_slot (name := Str.ofString "__next__") hit.typeIs slot_tupleiter_next (wpAny_call_entry slot_tupleiter_next hit.typeIs entry_tupleiter_next ?_ (args_tupleiter_next _))))
  show wpAny _ _ (field (.ref it) 0 >>= _) _ _ s; refine wpAny_bind (wpAny_field ho hd (x := .ref t) rfl ?_)
  show wpAny _ _ (if (Value.ref t == Value.none) = true then _ else _) _ _ s; rw [if_neg (fun z : (Value.ref t == Value.none) = true => Bool.false_ne_true z)]
  show wpAny _ _ (field (.ref it) 1 >>= _) _ _ s; refine wpAny_bind (wpAny_field ho hd (x := .int i 0) rfl ?_)
  show wpAny _ _ (seqItems? (.ref t) >>= _) _ _ s; refine wpAny_bind (wpAny_seqItems hol hdl ?_); simp only [Int.toNat_natCast, hx]
  refine wpAny_bind (wpAny_rule (wpAny_bind (wpAny_setField ho hd (by simp) ?_))); show wpAny _ _ (newExc (.type "StopIteration") [] >>= _) _ _ _
  refine wpAny_bind ?_; simp only [newExc, newTuple]; refine wpAny_bind (wpAny_newObj_type ?_ (by size_fits))
  refine wpAny_bind (m := firstArgMember _ _) (wpAny_of_eq (a := Value.none) (by first | rfl | (simp only [firstArgMember]; rfl)) ?_); refine wpAny_newObj_type ?_ (by size_fits)
  have h1' : (s.heap.update it (Obj.mapFields (·.setIfInBounds 0 Value.none))).get? x1 = some o1 := by rw [Heap.get?_update_other _ _ hne]; exact h1
  refine raiseNew_hot ⟨hh, o1, vs1, Heap.get?_push_of_some _ (Heap.get?_push_of_some _ h1'), d1, c1⟩ (Nat.ne_of_lt (Heap.lt_size (Heap.get?_push_of_some _ h1'))) (Heap.get?_push_size _ rfl) rfl (by first | (simp; done) | (simp; omega)) ?_
  refine wpAny_bind (wpAny_isInstance (T := "StopIteration") (b := true) ⟨_, Heap.get?_update_self _ (Heap.get?_push_size _ rfl) rfl, rfl⟩ isSubtype_stop (wpAny_pure (hQ _ fun b ob hb e => ?_)))
  have e1 : (s.heap.update it (Obj.mapFields (·.setIfInBounds 0 Value.none))).get? b = some ob := by rw [Heap.get?_update_other _ _ (Ne.symm hb)]; exact e
  rw [Heap.get?_update_other _ _ (Nat.ne_of_gt (Heap.lt_size (Heap.get?_push_of_some _ e1)))]; exact Heap.get?_push_of_some _ (Heap.get?_push_of_some _ e1)
theorem unpackT_hot {t x1 : Addr} {items : Array Value} {targets : List (Bool × (Value → Sem Unit))} {Q : Unit → Shared → Prop} (hot : HotAt A x1 s.heap) (ht : IsTup s.heap t items) (hn : targets.length = items.size) (hstar : targets.findIdx? (·.1) = none)
    (h : ∀ h', Heap.ExtBut s.heap.objs.size s.heap h' → wpAny (model prog w) A (assignInOrder (targets.map (·.2)) items.toList) Q E { s with heap := h' }) : wpAny (model prog w) A (unpack (.ref t) targets) Q E s := by
  have ⟨hh, o1, vs1, h1, d1, c1⟩ := hot
  have hlt : t ≠ s.heap.objs.size := by have ⟨o, ho, _⟩ := ht; exact Nat.ne_of_lt (Heap.lt_size ho)
  unfold unpack; rw [hn, hstar]
  refine wpAny_bind (wpAny_holding ?_); unfold unpackItems; refine wpAny_bind ?_; unfold notIterableAtAll
  refine wpAny_bind (wpAny_specialOf ht.typeIs slot_tuple_iter.lookup (wpAny_pure ?_)); simp only [Bool.false_eq_true, if_false]
  refine wpAny_bind (wpAny_holding (iter_tuple ht (wpAny_bind (wpAny_holding (draw_tuple hlt items.size 0 _ _ ⟨_, Heap.get?_push_size _ rfl, rfl, rfl⟩ (ht.push _) (by omega) fun h₁ hit₁ hs₁ => ?_)))))
  have hall : List.take items.size (List.drop 0 items.toList) = items.toList := by rw [List.drop_zero]; exact List.take_of_length_le (by simp)
  rw [hall, if_neg (by simp)]
  have ht₁ : IsTup h₁ t items := (ht.push _).extBut hs₁.extBut hlt
  have x1lt : x1 ≠ s.heap.objs.size := Nat.ne_of_lt (Heap.lt_size h1)
  have h1' : h₁.get? x1 = some o1 := hs₁.extBut x1 o1 x1lt (Heap.get?_push_of_some _ h1)
  refine wpAny_bind (wpAny_holding (nextT_hot (s := { s with heap := h₁ }) ⟨hh, o1, vs1, h1', d1, c1⟩ (Ne.symm x1lt) hit₁ ht₁ (by simp) fun h₂ he₂ => ?_)); simp only [Option.isSome_none, Bool.false_eq_true, if_false]
  exact wpAny_pure (h h₂ fun b o hb e => he₂ b o hb (hs₁.extBut b o hb (Heap.get?_push_of_some _ e)))
end
/-- in this context an exception is handled, at all times -/
def HotI (Y : Cx) : Prop := ∀ (pins : List (Addr × Obj)) (σ : L2.St) (H : Hp) (s : Shared), Inv Y pins σ H s → ∃ x1, HotX.HotAt Y.A x1 s.heap ∧ H x1 = none
theorem pg_tupH {Y : Cx} {es : List Expr} {k : Nat} {t : TGs} {n : Nat} {pos : Pos} (hot : HotI Y) (h : PGs Y es t) (hn : (assignEach es Y.env).length = n := by rfl) (hst : (assignEach es Y.env).findIdx? (·.1) = none := by rfl) : PG Y (.Tuple es k pos) (gTup Y.K n t) := by
  refine ⟨fun pins s σ H v u Q I r hw => ?_⟩
  obtain ⟨a, xs, rfl, hq, hl, hw⟩ := hw
  cases r
  have ⟨its, rv, ht, hz⟩ := I.tuple hq
  have ⟨x1, hx1, _⟩ := hot pins σ H s I
  rw [assign_Tuple]
  refine wpAny_bind (wpAny_standAt (unpackT_hot hx1 ht (by simp [hn, ← hl, rv.length]) hst fun h' hx => ?_))
  have I1 : Inv Y pins σ H { s with heap := h' } := I.kept (t' := s.toks) fun b o e => hx b o (Nat.ne_of_lt (Heap.lt_size e)) e
  exact h.run pins _ σ H xs _ Q I1 (by simpa using rv) hw
theorem lcH_core {X : Cx} {pins : List (Addr × Obj)} {s : Shared} {σ : L2.St} {H : Hp} {Q : VK} {elt tg iter : Expr} {ifs : List Expr} {scope : Scope} {own : List (Str × Nat)} {pos pos' : Pos} {tl : TE} {g : TG} {tt : TT} {te : TE} {Qf : Value → Shared → Prop}
    (hot : ∀ (pins : List (Addr × Obj)) (σ : L2.St) (H : Hp) (s : Shared), Inv X pins σ H s → ∃ x1, HotX.HotAt X.A x1 s.heap ∧ H x1 = none ∧ x1 ∉ frs X.stack) (hN : X.N.Nodup) (I : Inv X pins σ H s) (hi : PE X iter tl) (ok : BlkOk X.N X.env.scope scope own)
    (hg : ∀ (s : Shared) (H : Hp) (C : Addr) (cl : List (Str × Addr)) (fp : List Addr), HotI (X.blk s H scope (compEnvC scope cl C X.env) fp) → PG (X.blk s H scope (compEnvC scope cl C X.env) fp) tg g)
    (ht : ∀ (s : Shared) (H : Hp) (C : Addr) (cl : List (Str × Addr)) (fp : List Addr), PTs (X.blk s H scope (compEnvC scope cl C X.env) fp) ifs tt) (he : ∀ (s : Shared) (H : Hp) (C : Addr) (cl : List (Str × Addr)) (fp : List Addr), PE (X.blk s H scope (compEnvC scope cl C X.env) fp) elt te)
    (hs : ∀ x, foldedSetIterable iter X.env x = pure x) (h : tLc (iList X.K tl) g tt te (own.map (·.2)) σ H Q)
    (hend : ∀ D C s' m H', Inv X pins σ H' s' → Q (.ref D) H' → s'.heap.Ns C m → FpOk X pins H' C → compPost (model X.prog X.w) X.A X.xe none Qf (.ref D) C (.ok .next) s') :
    wpAny (model X.prog X.w) X.A (comprehension (.ListComp elt [⟨tg, iter, ifs, 0⟩] scope pos) scope X.env pos' (newList []) false (eval iter X.env) none) Qf X.xe s := by
  have hfree : ∀ y ∈ scope.names, y.2 = .free → ∃ c, X.env.cells.lookup y.1 = some c := fun y hy e => (ok.free y hy e).elim (fun k => I.ok.has _ (.inl k)) fun k => I.ok.has _ (.inr k)
  refine wpAny_comprehension_free (use := none) rfl hs (closure_ok hfree) ok.kind (fun y hy e => by rw [ok.uniq y hy, e]) (thn (hi.run pins s σ H _ I h) fun xv s1 ⟨x, H1, I1, r1, q1⟩ => ?_)
  have ⟨a, ea, ⟨xs0, hq0⟩, q⟩ := q1
  subst ea; cases r1
  have ⟨its0, rv0, p0, hz0⟩ := I1.list hq0
  refine wpAny_pyIter_list p0.isList ?_
  have ⟨x1, ⟨hh1, o1, vs1, g1, d1, c1⟩, hx1, nx1⟩ := hot pins σ H1 s1 I1
  have x1lt := Heap.lt_size g1
  generalize hitE : s1.heap.objs.size = it at x1lt ⊢
  have I2 : Inv X pins σ H1 { s1 with heap := s1.heap.push { cls := .type "list_iterator", data := .fields #[.ref a, .int 0 0] } } := I1.kept (t' := s1.toks) fun b o e => Heap.get?_push_of_some _ e
  have st2 : (s1.heap.push { cls := .type "list_iterator", data := .fields #[.ref a, .int 0 0] }).IsListIter it a 0 := by rw [← hitE]; exact ⟨_, Heap.get?_push_size _ rfl, rfl, rfl⟩
  have fit : FpOk X pins H1 it := by rw [← hitE]; exact I1.fpOk (Nat.le_refl _) (I1.hok.fresh (Nat.le_refl _))
  have g2 : (s1.heap.push { cls := .type "list_iterator", data := .fields #[.ref a, .int 0 0] }).get? x1 = some o1 := Heap.get?_push_of_some _ g1
  have itlt : it < (s1.heap.push { cls := .type "list_iterator", data := .fields #[.ref a, .int 0 0] }).objs.size := by rw [Heap.size_push, ← hitE]; exact Nat.lt_succ_self _
  show wpAny _ _ (newList []) _ _ { s1 with heap := s1.heap.push { cls := .type "list_iterator", data := .fields #[.ref a, .int 0 0] } }
  generalize hs2 : ({ s1 with heap := s1.heap.push { cls := .type "list_iterator", data := .fields #[.ref a, .int 0 0] } } : Shared) = s2 at I2 ⊢
  have h2 : s2.heap = s1.heap.push { cls := .type "list_iterator", data := .fields #[.ref a, .int 0 0] } := by rw [← hs2]
  rw [← h2] at st2 g2 itlt
  refine wpAny_newObj_type (newEnv_comp ?_) (by show 0 ≤ sizeLine; decide)
  generalize hD : s2.heap.objs.size = D
  have nD : H1 D = none := I2.hok.fresh (Nat.le_of_eq hD)
  have ⟨W, ⟨m0, w0⟩, turn⟩ := q D nD
  have itD : it ≠ D := by rw [← hD]; exact Nat.ne_of_lt itlt
  have x1D : x1 ≠ D := by rw [← hD]; exact Nat.ne_of_lt (Heap.lt_size g2)
  have x1it : x1 ≠ it := Nat.ne_of_lt x1lt
  generalize hs3 : ({ s2 with heap := s2.heap.push { cls := .type "list", data := .seq ([] : List Value).toArray } } : Shared) = s3
  have h3 : s3.heap = s2.heap.push { cls := .type "list", data := .seq ([] : List Value).toArray } := by rw [← hs3]
  have I3 : Inv X pins σ (upd H1 D (.lst [])) s3 := by
    rw [← hs3]; refine I2.laid (t' := s2.toks) (fun b o e => Heap.get?_push_of_some _ e) (Nat.le_of_eq hD) ⟨Nat.zero_le _, [], 0, .nil, ?_⟩; rw [← hD]; exact Heap.get?_push_size _ rfl
  have g3 : s3.heap.get? x1 = some o1 := by rw [h3]; exact Heap.get?_push_of_some _ g2
  have hx3 : (upd H1 D (.lst [])) x1 = none := by rw [upd_ne x1D]; exact hx1
  have st3 : s3.heap.IsListIter it a 0 := st2.at fun o e => by rw [h3]; exact Heap.get?_push_of_some _ e
  have f3 : ∀ b ∈ [it], FpOk X pins (upd H1 D (.lst [])) b ∧ b < s3.heap.objs.size := fun b hb => by
    rw [List.mem_singleton.mp hb]; exact ⟨⟨by rw [upd_ne itD]; exact fit.1, fit.2⟩, by rw [h3, Heap.size_push]; exact Nat.lt_succ_of_lt itlt⟩
  have I4 := block_start I3 ok hN f3
  have pt := ht s3 (upd H1 D (.lst [])) s3.heap.objs.size (cellsFrom (s3.heap.objs.size + 1) scope.names (cloFrom X.env.cells scope.names [])) [it]
  have pe := he s3 (upd H1 D (.lst [])) s3.heap.objs.size (cellsFrom (s3.heap.objs.size + 1) scope.names (cloFrom X.env.cells scope.names [])) [it]
  have hotB : HotI (X.blk s3 (upd H1 D (.lst [])) scope (compEnvC scope (cellsFrom (s3.heap.objs.size + 1) scope.names (cloFrom X.env.cells scope.names [])) s3.heap.objs.size X.env) [it]) := fun pins' σ' H' s' I' => by
    have nit : x1 ∉ [it] := fun z => x1it (List.mem_singleton.mp z)
    exact ⟨x1, ⟨hh1, o1, vs1, I'.base.keep x1 o1 g3 hx3 nx1 nit, d1, c1⟩, I'.base.free x1 o1 g3 hx3 nit⟩
  have pg := hg s3 (upd H1 D (.lst [])) s3.heap.objs.size (cellsFrom (s3.heap.objs.size + 1) scope.names (cloFrom X.env.cells scope.names [])) [it] hotB
  show codeAny _ _ (.compStart (.ListComp elt [⟨tg, iter, ifs, 0⟩] scope pos) 0 (.ref it) (.ref D) (compEnvC scope (cellsFrom (s3.heap.objs.size + 1) scope.names (cloFrom X.env.cells scope.names [])) s3.heap.objs.size X.env)) (compPost (model X.prog X.w) X.A X.xe none Qf (.ref D) s3.heap.objs.size) { s3 with heap := pushCells (s3.heap.push { cls := .type "dict", data := .dict #[] }) scope.names }
  have nit3 : (upd H1 D (.lst [])) it = none := (f3 it (List.mem_singleton.mpr rfl)).1.1
  have fx := (f3 it (List.mem_singleton.mpr rfl)).1
  generalize hce : compEnvC scope (cellsFrom (s3.heap.objs.size + 1) scope.names (cloFrom X.env.cells scope.names [])) s3.heap.objs.size X.env = ce at I4 pg pt pe hotB ⊢
  have cL : ce.locals = s3.heap.objs.size := by subst hce; rfl
  generalize hH3 : upd H1 D (.lst []) = H3 at I3 I4 pg pt pe hotB w0 nit3 fx hx3
  generalize hs4 : ({ s3 with heap := pushCells (s3.heap.push { cls := .type "dict", data := .dict #[] }) scope.names } : Shared) = s4 at I4 ⊢
  have st4 : s4.heap.IsListIter it a 0 := st3.at fun o e => by rw [← hs4]; exact pushCells_keeps _ _ _ _ (Heap.get?_push_of_some _ e)
  have stat : ∀ {σ' : L2.St} {H' : Hp} {s' : Shared}, Inv (X.blk s3 H3 scope ce [it]) [] σ' H' s' → H' it = none → FpOk (X.blk s3 H3 scope ce [it]) [] H' it := fun {σ' H' s'} I' hn =>
    have hb : it ∈ [it] := List.mem_singleton.mpr rfl
    ⟨hn, (I'.ok.exf it hb).1, I'.ok.exfs it hb, .inl hb, fun x c e => (I'.ok.exf it hb).2 x c e, fun p hp => absurd (show p ∈ ([] : List (Addr × Obj)) ++ [] from hp) (by simp)⟩
  have loop : codeAny (model X.prog X.w) X.A (.compLoop (.ListComp elt [⟨tg, iter, ifs, 0⟩] scope pos) 0 (.ref it) (.ref D) ce) (compPost (model X.prog X.w) X.A X.xe none Qf (.ref D) s3.heap.objs.size) s4 := by
    refine compLoop_any (fun n s' => ∃ i H', Inv (X.blk s3 H3 scope ce [it]) [] (wipe σ (own.map (·.2))) H' s' ∧ s'.heap.IsListIter it a i ∧ H' it = none ∧ W i n H') ?_ m0 ⟨0, H3, I4, st4, nit3, w0⟩
    rintro n s5 ⟨i, H5, I5, st5, n5, w5⟩
    have ⟨f0, f1, f2, f3', f4, f5⟩ := stat I5 n5
    rcases turn i n H5 w5 with ⟨⟨xs, hq, hlen⟩, qq⟩ | ⟨⟨xs, x, hq, hx⟩, Nx, hNx, step⟩
    · have ⟨its, rv, p, hz⟩ := I5.list hq
      have hl := rv.length
      have ⟨y1, hy1, _⟩ := hotB [] _ H5 s5 I5
      have ny1 : it ≠ y1 := fun z => by
        have ⟨_, o2, vs2, k1, k2, k3⟩ := hy1
        have ⟨o3, k4, _, k5⟩ := st5
        rw [← z, k4] at k1; cases k1; rw [k5] at k2; cases k2; cases k3
      refine nextL_hot hy1 ny1 st5 p.isList (by simp; omega) fun h' eb => ?_
      have I6 : Inv (X.blk s3 H3 scope ce [it]) [] (wipe σ (own.map (·.2))) H5 { s5 with heap := h' } := I5.turned (t' := s5.toks) (fun b o hb e => eb b o hb e) f0 f1 f3' f4 f5
      have I7 : Inv X pins σ H5 { s5 with heap := h' } := I3.call' (ch := [it]) I6.os I6.base I6.hok I6.bare fun b hb => by rw [List.mem_singleton.mp hb]; exact ⟨fx.2.2.2.1, fx.2.1, fx.2.2.2.2.1, fx.2.2.2.2.2⟩
      have nC : H5 s3.heap.objs.size = none := by rw [← cL]; exact I6.free
      have ⟨m, hn, _⟩ := I6.loc
      have hn' : h'.Ns ce.locals m := hn
      rw [cL] at hn'; exact hend D s3.heap.objs.size _ m H5 I7 qq hn' (I3.fpOk (Nat.le_refl _) nC)
    · have ⟨its, rv, p, hz⟩ := I5.list hq
      have ⟨u, hu, ru⟩ := rv.get hx
      refine wpAny_pyNext_list_item st5 p.isList (x := u) (by simpa using hu) fun h' st' sb => ?_
      have I6 : Inv (X.blk s3 H3 scope ce [it]) [] (wipe σ (own.map (·.2))) H5 { s5 with heap := h' } := I5.turned (t' := s5.toks) (fun b o hb e => (sb.2 b hb).trans e) f0 f1 f3' f4 f5
      have ⟨oi, ei, ci, di⟩ := st'
      refine go_of (s := { s5 with heap := h' }) ei ci di (by decide) ?_
      have T := turn_list (P := X.prog) (w := X.w) (K := X.K) (tg := tg) a it
      have I7' := I6.pinned (fp := [it]) (fun b hb => by rw [List.mem_singleton.mp hb]; exact stat I6 n5) (T.obj _ _ st')
      refine thnF (pg.run _ _ _ H5 x u _ I7' ru (step x H5 ⟨rfl, fun ys hy => by rw [I5.list_inj hy hq]; exact hx⟩)) fun _ s8 ⟨σ8, H8, I8, hw8, q8⟩ => ?_
      refine thnF (pt.run _ s8 σ8 H8 _ I8 q8) fun b s9 ⟨H9, I9, q9⟩ => ?_
      have fin : ∀ {s' : Shared} {H' : Hp}, Inv (X.blk s3 H3 scope ce [it]) ([] ++ pinsAt [it] h') σ8 H' s' → Nx H' → ∃ m, m < n ∧ ∃ i H', Inv (X.blk s3 H3 scope ce [it]) [] (wipe σ (own.map (·.2))) H' s' ∧ s'.heap.IsListIter it a i ∧ H' it = none ∧ W i m H' := fun {s' H'} I' nx => by
        have ⟨m', hm, w'⟩ := hNx H' nx
        have zp := I'.pin (it, oi) (List.mem_append_right _ (List.mem_append_right _ (mem_pinsAt (List.mem_singleton.mpr rfl) ei)))
        have hl : (wipe σ (own.map (·.2))).length = σ8.length := by rw [← hw8, wipe_length]
        exact ⟨m', hm, i + 1, H', (I'.unpinned (pins := [])).weak hl (fun j v e => by rw [← hw8] at e; exact (wipe_some e).1), st'.at fun o e => by rw [ei] at e; cases e; exact zp.1, zp.2.1, w'⟩
      cases b with
      | false => simp only [Bool.false_eq_true, if_false] at q9 ⊢; exact fin I9 q9
      | true => simp only [if_true] at q9 ⊢; exact thnF (pe.run _ s9 σ8 H9 _ I9 q9) fun z s10 ⟨yv, H10, I10, r10, acc, hD10, hz10, nx⟩ => app_ok (X := X.blk s3 H3 scope ce [it]) I10 hD10 hz10 r10 fun s11 I11 => fin I11 nx
  exact codeAny_compStart_list loop (wpAny_pyIter_listiter st4 loop)
theorem pe_lcH {X : Cx} {elt tg iter : Expr} {ifs : List Expr} {scope : Scope} {own : List (Str × Nat)} {pos : Pos} {tl : TE} {g : TG} {tt : TT} {te : TE}
    (hot : ∀ (pins : List (Addr × Obj)) (σ : L2.St) (H : Hp) (s : Shared), Inv X pins σ H s → ∃ x1, HotX.HotAt X.A x1 s.heap ∧ H x1 = none ∧ x1 ∉ frs X.stack) (hN : X.N.Nodup) (hi : PE X iter tl) (ok : BlkOk X.N X.env.scope scope own)
    (hg : ∀ (s : Shared) (H : Hp) (C : Addr) (cl : List (Str × Addr)) (fp : List Addr), HotI (X.blk s H scope (compEnvC scope cl C X.env) fp) → PG (X.blk s H scope (compEnvC scope cl C X.env) fp) tg g)
    (ht : ∀ (s : Shared) (H : Hp) (C : Addr) (cl : List (Str × Addr)) (fp : List Addr), PTs (X.blk s H scope (compEnvC scope cl C X.env) fp) ifs tt) (he : ∀ (s : Shared) (H : Hp) (C : Addr) (cl : List (Str × Addr)) (fp : List Addr), PE (X.blk s H scope (compEnvC scope cl C X.env) fp) elt te)
    (hs : ∀ x, foldedSetIterable iter X.env x = pure x := by intro _; rfl) : PE X (.ListComp elt [⟨tg, iter, ifs, 0⟩] scope pos) (tLc (iList X.K tl) g tt te (own.map (·.2))) := by
  refine ⟨fun pins s σ H Q I h => ?_⟩
  rw [eval_ListComp]
  refine lcH_core hot hN I hi ok hg ht he hs h fun D C s' m H' I' q hn f => ⟨m, hn, fun h'' sb => ?_⟩
  have ⟨f0, f1, f2, f3, f4, f5⟩ := f
  exact ⟨.ref D, H', I'.turned (t' := s'.toks) (fun b o hb e => (sb.2 b hb).trans e) f0 f1 f3 f4 f5, rfl, q⟩
/-- an except suite's context -/
theorem hot_suite {X : Cx} {a : Addr} {oe : Obj} {cls : Value} {d : Option Addr} {pn : List (Addr × Obj)} (hs : X.stack = X.env :: X.outer) (hf : X.env.frame = some X.env.locals) (hz : L2N.Zn cls d oe) (hfl : ∃ vs, oe.data = .fields vs) :
    ∀ (pins : List (Addr × Obj)) (σ : L2.St) (H : Hp) (s : Shared), Inv (X.suite a ((a, oe) :: pn)) pins σ H s → ∃ x1, HotX.HotAt (X.suite a ((a, oe) :: pn)).A x1 s.heap ∧ H x1 = none ∧ x1 ∉ frs (X.suite a ((a, oe) :: pn)).stack := fun pins σ H s I => by
  have ⟨p1, p2, p3, p4, _⟩ := I.pin (a, oe) (List.mem_append_left _ List.mem_cons_self)
  obtain ⟨vs, hv⟩ := hfl
  refine ⟨a, ⟨rfl, oe, vs, p1, hv, hz.2.2 vs hv⟩, p2, fun z => ?_⟩
  have z : a ∈ frs X.stack := z
  rw [hs] at z
  have e : frs (X.env :: X.outer) = X.env.locals :: frs X.outer := by
    show List.filterMap _ (X.env :: X.outer) = _
    rw [List.filterMap_cons, hf]
    rfl
  rw [e] at z
  rcases List.mem_cons.mp z with z | z
  · exact p3 z
  · exact p4 z
/-! ### several except clauses with names -/
def endsAt (D : Ends) (i : Nat) : Ends := { nx := fun σ' H' => D.nx (σ'.set i none) H', rt := D.rt, bk := fun σ' H' => D.bk (σ'.set i none) H', ct := fun σ' H' => D.ct (σ'.set i none) H' }
abbrev NHd := Value × Nat × (Addr → Value → Option Addr → TS)
def wNam (K : PySem.W.Frag) (Wout : WX) (D : Ends) : List NHd → WX
  | [] => Wout
  | (c, i, ts) :: r => fun cls d σ H => ∃ b, PySem.W.exmOne K cls c = some b ∧ (b = true → ∀ a, H a = none → ts a cls d (endsAt D i) (σ.set i (some (.ref a))) H) ∧ (b = false → wNam K Wout D r cls d σ H)
inductive HdsN (X : Cx) : List ExceptHandler → List NHd → Prop
  | nil : HdsN X [] []
  | cons {x n : Str} {i : Nat} {c : Value} {ts : Addr → Value → Option Addr → TS} {b₀ : Stmt} {suite : List Stmt} {np pos' : Pos} {hds : List ExceptHandler} {l : List NHd} (hc : Names X x c) (hi : X.N[i]? = some n) (hln : X.env.kindOf n = some .local)
      (hsu : ∀ (a : Addr) (oe : Obj) (cls : Value) (d : Option Addr) (pn : List (Addr × Obj)), L2N.Zn cls d oe → (∃ vs, oe.data = .fields vs) → PSs (X.suite a ((a, oe) :: pn)) (b₀ :: suite) (ts a cls d)) (r : HdsN X hds l) :
      HdsN X (.ExceptHandler (some (.Name x np)) (some n) (b₀ :: suite) pos' :: hds) ((c, i, ts) :: l)
section
open L2N HandSPX
variable {X : Cx} {body : List Stmt} {h₀ : ExceptHandler} {hds : List ExceptHandler} {l : List NHd} {pos : Pos} {tb : WX → TS} {Wout : WX}
theorem ps_try_nam (hs : X.stack = X.env :: X.outer) (hf : X.env.frame = some X.env.locals) (hN : X.N.Nodup) (tk : L2N.Takes X Wout) (hb : ∀ (W : WX) (pn : List (Addr × Obj)) (xe : Value → Shared → Prop), L2N.Takes (X.tr pn xe) W → PassesOwn (model X.prog X.w) X.A X.env xe → PSs (X.tr pn xe) body (tb W))
    (hh : HdsN X (h₀ :: hds) l) : PS X (.Try body (h₀ :: hds) [] [] pos) (fun D σ H => tb (wNam X.K Wout D l) D σ H) := by
  refine ⟨fun pins s σ H D I h => ?_⟩
  have ok := I.ok
  have hfr : X.A.frames = some (X.env :: X.outer) := by rw [ok.frames, hs]
  refine wpAny_Try_except (wpAny_mono ((hb (wNam X.K Wout D l) (X.pn ++ pins) (fun e s₁ => wpAny (model X.prog X.w) X.A (noteFrame e X.env) (fun _ s₂ => wpAny (model X.prog X.w) X.A (setFlight e none) (fun _ s₃ => wpAny (model X.prog X.w) X.A (handleBy e X.env (h₀ :: hds)) (SP X pins D) X.xe s₃) X.xe s₂) X.xe s₁)
    (fun u s' xx => ?_) PassesOwn.looking).run [] s σ H D (I.toTry _) h) (fun f s1 hsp => ?_) fun e s1 he => he)
  · obtain ⟨a, B, sI, pins', σ', H', cls, d, rfl, J', nb, up, sky, na, os, ag, wish⟩ := xx
    have J : Inv X pins σ' H' sI := J'.ofTry ok
    have sky' : Sky B (X.env :: X.outer) a (L2N.Zn cls d) X.env.locals s'.heap := by rw [← hs]; exact sky
    show wpAny (model X.prog X.w) X.A (noteFrame (.ref a) X.env) _ _ _
    refine Sky.land Zn.steady hfr hf sky' fun h3 fl3 up3 => ?_
    have J3 : Inv X pins σ' H' { s' with heap := h3 } := J.landed nb fl3.1 (up.trans up3) os ag
    have ⟨oe3, vs3, he3, hz3, hd3⟩ := fl3.there
    have nfr : a ∉ frs (X.env :: X.outer) := fun hm => by
      have ⟨_, o', e', hnf⟩ := fl3.2.2.1.mem hm
      rw [he3] at e'; cases e'; exact hnf _ hd3
    have nL : a ≠ X.env.locals := fun z => nfr (List.mem_filterMap.mpr ⟨X.env, List.mem_cons_self, by rw [hf, z]⟩)
    have nF : a ∉ X.fs := fun hm => by
      have ⟨e, he, q⟩ := List.mem_filterMap.mp hm
      exact nfr (List.mem_filterMap.mpr ⟨e, List.mem_cons_of_mem _ he, q⟩)
    have S3 := J3.suite he3 hd3 na nL nF
    have go : ∀ {hds' : List ExceptHandler} {l' : List NHd}, HdsN X hds' l' → wNam X.K Wout D l' cls d σ' H' → wpAny (model X.prog X.w) X.A (handleBy (.ref a) X.env hds') (SP X pins D) X.xe { s' with heap := h3 } := by
      intro hds' l' hk
      induction hk with
      | nil =>
        intro wish
        refine wpAny_handleBy_nil ?_
        have ⟨k1, k2, k3, oe, vs, T, oT, ts', he, hz, hd, h1, hr⟩ := fl3
        unfold PySem.passOn; refine wpAny_bind (wpAny_field he hd h1 ?_); rw [if_neg (fun z : (Value.ref T == Value.none) = true => by simp at z)]
        have fin : wpAny (model X.prog X.w) X.A (setFlight (.ref a) X.env.frame) (fun _ s4 => wpAny (model X.prog X.w) X.A (throw (.ref a) : Sem Flow) (SP X pins D) X.xe s4) X.xe { s' with heap := h3 } := by
          rw [hf]; exact HandSPX.setFlight_upZ fl3 fun h4 hh4 up4 => wpAny_throw (tk _ _ ⟨a, B, sI, pins, σ', H', cls, d, rfl, J, nb, (up.trans up3).trans up4, .inr (.inr (by rw [hs]; exact hh4)), na, os, ag, wish⟩)
        first | exact wpAny_bind (wpAny_pure (wpAny_bind fin)) | exact wpAny_bind fin
      | @cons x n i c ts b₀ suite np pos' hds2 l2 hc hi hln hsu r ih =>
        rintro ⟨b, hb1, hyes, hno⟩
        have hloc : Loc X.env.scope n := .inl hln
        refine wpAny_handleBy_cons (codeAny_handlers_test ?_) (by intro q; cases q)
        have LT : PySem.W.Looks (model X.prog X.w) h3 (typeOf (.ref a)) cls := fun A Q E s k q => wpAny_typeOf_ref (k _ _ he3) (by rw [hz3.1]; exact q)
        have LM := PySem.W.exm_one (M := model X.prog X.w) (J3.kIn) LT hb1
        have test : ∀ {Q : Value → Shared → Prop} {E : Value → Shared → Prop}, Q c { s' with heap := h3 } → wpAny (model X.prog X.w) (X.A.mark (some (.ref a))) (eval (.Name x np) X.env) Q E { s' with heap := h3 } := fun {Q E} q => by
          rcases hc with ⟨hg, hdbg, hm | ⟨hm, hv, hnn⟩⟩
          · exact ld_glob (X := X.suite a ((a, oe3) :: (X.pn ++ pins))) S3 hg hm q hdbg
          · exact ld_blt (X := X.suite a ((a, oe3) :: (X.pn ++ pins))) S3 hg hm hv q hnn hdbg
        refine test (LM.here ?_)
        cases b with
        | true =>
          refine codeAny_handlers_suite_as (HandSPX.lands_againZ fl3 fun h4 fl4 up4 => ?_)
          have J4 : Inv X pins σ' H' { s' with heap := h4 } := J.landed nb fl4.1 ((up.trans up3).trans up4) os ag
          have ⟨oe4, vs4, he4, hz4, hd4⟩ := fl4.there
          refine store_ok (X := X.suite a ((a, oe4) :: (X.pn ++ pins))) (v := .ref a) (J4.suite he4 hd4 na nL nF) hN hi hloc rfl (fun s5 S5 => ?_) (.inr hln)
          refine wpAny_mono ((hsu a oe4 cls d (X.pn ++ pins) hz4 ⟨_, hd4⟩).run [] s5 _ H' _ S5 (hyes rfl a na)) (fun f s6 hsp => ?_) (fun _ _ z => False.elim z)
          have close : ∀ {σ6 : L2.St} {H6 : Hp} {Q : Shared → Prop}, Inv (X.suite a ((a, oe4) :: (X.pn ++ pins))) [] σ6 H6 s6 → (∀ s7, Inv X pins (σ6.set i none) H6 s7 → Q s7) → wpAny (model X.prog X.w) X.A (do bindName X.env n .none; unbindBehindTheSuite X.env n pos') (fun _ s7 => Q s7) X.xe s6 :=
            fun {σ6 H6 Q} S6 hq => gone_ok (S6.unsuite ok) hN hi hln hq
          cases f with
          | next => have ⟨σ6, H6, S6, q6⟩ := hsp; exact close S6 fun s7 J7 => ⟨_, _, J7, q6⟩
          | brk => have ⟨σ6, H6, S6, q6⟩ := hsp; exact close S6 fun s7 J7 => ⟨_, _, J7, q6⟩
          | cont => have ⟨σ6, H6, S6, q6⟩ := hsp; exact close S6 fun s7 J7 => ⟨_, _, J7, q6⟩
          | ret u => have ⟨v6, σ6, H6, S6, r6, q6⟩ := hsp; exact close S6 fun s7 J7 => ⟨_, _, _, J7, r6, q6⟩
        | false => exact ih (hno rfl)
    exact go hh wish
  · cases f with
    | next => have ⟨σ', H', J', q⟩ := hsp; exact wpAny_execs_nil ⟨σ', H', J'.ofTry ok, q⟩
    | brk => have ⟨σ', H', J', q⟩ := hsp; exact ⟨σ', H', J'.ofTry ok, q⟩
    | cont => have ⟨σ', H', J', q⟩ := hsp; exact ⟨σ', H', J'.ofTry ok, q⟩
    | ret u => have ⟨v, σ', H', J', r, q⟩ := hsp; exact ⟨v, σ', H', J'.ofTry ok, r, q⟩
end
/-! ### instances: methods and the making by their promises, len() of an instance, a walk over a dict that is made for it -/
structure OwnM (P : Program) (w : World) (K : PySem.W.Frag) (mg : Str → Option Value) (base : Heap) (CX : CXT) (k : Nat) (C : Addr) (m : Str) (ps : List Str) (sp : Sp) : Prop where
  ex : ∃ (f : Addr) (fd : FuncData), FnOk P w K mg base CX k f fd ps sp ∧ Meth K C m f ∧ Binds K fd ps []
structure OwnI (P : Program) (w : World) (K : PySem.W.Frag) (mg : Str → Option Value) (base : Heap) (CX : CXT) (k : Nat) (C : Addr) (x : Str) (ps : List Str) (sp : Sp) : Prop where
  ex : ∃ (f : Addr) (fd : FuncData), FnOk P w K mg base CX k f fd ps sp ∧ Mk K C f ∧ Binds K fd ps [] ∧ mg x = some (.ref C)
section
variable {X : Cx} {CX : CXT} {k k' : Nat} {C : Addr} {m x : Str} {ps : List Str} {sp : Sp} {E : XK} {o e : Expr} {es : List Expr} {apos pos p : Pos} {ta : TE} {t : TA}
theorem pe_methO {pl : Sem Bool} (c : Cls X.K C) (O : OwnM X.prog X.w X.K X.mg X.base CX k C m ps sp) (hr : Room k' X.A) (hk : k ≤ k') (hx : Passes CX X E) (ho : PE X o ta) (ha : PA X (e :: es) t)
    (hst : starEach (e :: es) X.env = (false, eval e X.env) :: starEach es X.env := by rfl) (hpl : (backTo pos (starEach es X.env)).any (·.1) = false := by rfl)
    (ht : eval (.Call (.Attribute o m apos) (e :: es) [] pos) X.env = (do
      let ov ← eval o X.env
      standAt apos.atName
      let (f, first) ← holding [ov] (getMethod ov m pl)
      callWith pos f first (backTo pos (starEach (e :: es) X.env)) (backToKw pos (keywordEach [] X.env))) := by rfl) :
    PE X (.Call (.Attribute o m apos) (e :: es) [] pos) (tMeth C m sp [] E ta t) := by
  obtain ⟨f, fd, F, hm, hb⟩ := O.ex
  exact pe_meth (pl := pl) ho c hm F (hr.mono hk) hb .nil hx ha hst hpl ht
theorem pe_methO0 {pl : Sem Bool} (c : Cls X.K C) (O : OwnM X.prog X.w X.K X.mg X.base CX k C m ps sp) (hr : Room k' X.A) (hk : k ≤ k') (hx : Passes CX X E) (ho : PE X o ta)
    (ht : eval (.Call (.Attribute o m apos) [] [] pos) X.env = (do
      let ov ← eval o X.env
      standAt apos.atName
      let (f, first) ← holding [ov] (getMethod ov m pl)
      callWith pos f first (backTo pos (starEach [] X.env)) (backToKw pos (keywordEach [] X.env))) := by rfl) :
    PE X (.Call (.Attribute o m apos) [] [] pos) (tMeth C m sp [] E ta tNil) := by
  obtain ⟨f, fd, F, hm, hb⟩ := O.ex
  exact pe_meth0 (pl := pl) ho c hm F (hr.mono hk) hb .nil hx ht
theorem pe_makeO (O : OwnI X.prog X.w X.K X.mg X.base CX k C x ps sp) (hr : Room k' X.A) (hk : k + 1 ≤ k') (hg : Gl X x) (hx : Passes CX X E) (ha : PA X (e :: es) t)
    (hdb : (x == ("__debug__" : Str)) = false := by decide) (he : starEach (e :: es) X.env = (false, eval e X.env) :: starEach es X.env := by rfl) (hpl : (backTo pos (starEach es X.env)).any (·.1) = false := by rfl) :
    PE X (.Call (.Name x p) (e :: es) [] pos) (tMake C sp [] E t) := by
  obtain ⟨f, fd, F, M, hb, hm⟩ := O.ex
  exact pe_make M F (hr.mono hk) hg hm hb .nil hx ha hdb he hpl
/-- len(x) of an instance with its own __len__ -/
def rLenI (C : Addr) (sp : Sp) (E : XK) : List V → Hp → VK → Prop := fun xs H Q => ∃ a dx fs, xs = [V.ref a] ∧ H a = some (.ins C dx fs) ∧ sp [.ref a] H (fun z H' => ∃ i : Int, z = .int i ∧ 0 ≤ i ∧ i < 2 ^ 63 ∧ Q z H') E
theorem call_lenI (O : OwnM X.prog X.w X.K X.mg X.base CX k C "__len__" ps sp) (hr : Room k' X.A) (hk : k + 1 ≤ k') (hx : Passes CX X E) : CallR X (.builtin "len") (rLenI C sp E) := by
  intro pins s σ H xs us Q I r h
  obtain ⟨f, fd, F, hm, hb⟩ := O.ex
  obtain ⟨a, dx, fs, rfl, ha, q⟩ := h
  obtain ⟨u, rfl, ru⟩ := r.one
  cases (show u = Value.ref a from ru)
  obtain ⟨mA, ob, _, _, _, _⟩ := ins_get I.hok ha
  obtain ⟨od, J, _⟩ := ob.look
  have hr2 : Room k X.A.in1 := (hr.mono hk).in1
  obtain ⟨mm, hF⟩ := I.fr
  refine PySem.W.len_K hF I.ok.mod.kin J hm.at_ hm.fn (wpAny_mono (wpAny_call (SlX.run_at (us := [.ref a]) (ws := [.ref a]) (FnOk.raw F hb .nil) hr2 I.env0.in1 hx I (.cons rfl .nil) q)) (fun w s' z => ?_) fun _ _ x => x)
  obtain ⟨z', H', I', rz, i, ei, i0, i1, qz⟩ := z
  subst ei
  obtain ⟨t, e⟩ := (show ∃ t, w = Value.int i t from rz)
  cases e
  exact ⟨⟨i0, i1⟩, .int i, H', I'.tok _, ⟨_, rfl⟩, qz⟩
end
/-- for k in {..}: the dict is new, and nobody else has it -/
def iKeysN (td : TE) : TI := fun σ H R => td σ H fun x H1 => ∃ d kvs, x = .ref d ∧ H1 d = some (.dK kvs) ∧ ∀ o, R (Itk d o kvs) (upd H1 d (.frz o (.dK kvs)))
theorem pi_keysN {X : Cx} {tg e : Expr} {td : TE} (he : PE X e td) : PI X tg e (iKeysN td) := by
  refine ⟨fun pins s σ H R I h => ?_⟩
  refine thn (he.run pins s σ H _ I h) fun u s1 ⟨x, H1, I1, rx, d, kvs, ex, hd0, q⟩ => ?_
  subst ex
  obtain rfl : u = Value.ref d := rx
  obtain ⟨od, I2⟩ := I1.lock hd0 trivial
  obtain ⟨hs, hgd, hx, es, ep, vs, hdt, hsz, kv, hm⟩ := I2.frzK upd_same
  refine iter_keys hs hgd hx hdt (pi_one (tk := s1.toks) I2 _ (turn_keys _ hdt) ⟨_, Heap.get?_push_size _ rfl, rfl, ?_⟩ (q od))
  rw [hsz] <;> rfl
/-- the truth of a list -/
def tTruL (K : PySem.W.Frag) (ta : TE) : TT := fun σ H Q => ta σ H fun x H' => ∃ k, TruV K x H' k ∧ Q k H'
/-! ### a lambda as a value; a call of what a name holds -/
section
open NdefX LamX
/-- the object at f is the lambda with this body -/
def LamO (f : Addr) (F : NF) (e : Expr) : HO := .ext fun h => ∃ (pm ctv : Value), h.get? f = some (PySem.W.kla_obj "<lambda>" F.qual F.params e F.scope F.cl pm F.c ctv)
theorem lamO_ne {f : Addr} {F : NF} {e : Expr} (ps : Array Value) : LamO f F e ≠ .tbl ps := fun z => by
  unfold LamO at z
  cases z
theorem lamO_at {P : Program} {w : World} {H : Hp} {h : Heap} {f : Addr} {F : NF} {e : Expr} (hok : HOk P w H h) (q : H f = some (LamO f F e)) : ∃ (pm ctv : Value), h.get? f = some (PySem.W.kla_obj "<lambda>" F.qual F.params e F.scope F.cl pm F.c ctv) := (hok f _ q).1
theorem lamO_ok {P : Program} {w : World} {H : Hp} {h : Heap} {f : Addr} {F : NF} {e : Expr} {pm ctv : Value} (g : h.get? f = some (PySem.W.kla_obj "<lambda>" F.qual F.params e F.scope F.cl pm F.c ctv)) : ObjOk P w H h f (LamO f F e) :=
  ⟨⟨pm, ctv, g⟩, ⟨_, g⟩, fun h1 h2 ⟨p, c, z⟩ st => ⟨p, c, st _ z⟩⟩
def tLamb (T : List (Addr × Str)) (q : Str) (params : Arguments) (body : Expr) (scope : Scope) : TE := fun _ H Q => Tabs T H ∧ ∀ f c' H1, ExtN H H1 → Tabs T H1 → H1 f = none → H1 c' = some (CodeO c' q) → f ≠ c' → Q (.ref f) (upd H1 f (LamO f ⟨"<lambda>", q, params, [], scope, [], c'⟩ body))
theorem pe_lam {X : Cx} {T : List (Addr × Str)} {c P : Addr} {params : Arguments} {body : Expr} {scope : Scope} {pos : Pos} (TB : TabB X.base X.mg c P) (hcode : X.env.code = .ref c) (hm : (P, X.env.qual ++ "<lambda>") ∈ T) (hu : ∀ p ∈ T, p.1 = P → p.2 = X.env.qual ++ "<lambda>")
    (hdef : defaultsOf params X.env = ([], []) := by rfl) (hfree : ∀ y ∈ scope.names, y.2 ≠ .free := by decide +kernel) (hcl : cloFrom X.env.cells scope.names [] = [] := by rfl) : PE X (.Lambda params body scope pos) (tLamb T (X.env.qual ++ "<lambda>") params body scope) := by
  refine ⟨fun pins s σ H Q I h => ?_⟩
  have ⟨hT, q⟩ := h
  have ⟨ps, hP, ht, ha⟩ := hT _ hm
  have hclos := closure_ok (env := X.env) (scope := scope) (fun y hy e => absurd e (hfree y hy))
  rw [hcl] at hclos
  have hP' : s.heap.get? P = some { cls := .none, data := .fields ps } := I.hok P _ hP
  refine PySem.W.kla_eval hdef ?_
  cases hc : codeAmong pos ps.toList with
  | none =>
    refine PySem.W.kla_makeFunction (mg := X.mg) (c := c) (P := P) (ps := ps) hclos I.ok.glob (I.mod.glob.keeps I.bk) hcode (TB.code.keeps I.bk) hP' ht hc TB.gP (TB.bm.keeps I.bk) fun c' ctv h' tk hx hge hlt hrec htb => ?_
    have ⟨c2, oc, vs, t, e2, hoc, hd, hv⟩ := hrec
    cases e2
    have hsz : s.heap.objs.size ≤ h'.objs.size := Nat.le_trans hge (Nat.le_of_lt hlt)
    have nC : H c' = none := I.hok.fresh hge
    have I1 := inv_table (t' := tk) (more := #[rawInt pos.line, rawInt pos.col, .ref c']) (h' := h') I hP (fun b o hb e => hx b o hb e) htb hge ⟨oc, vs, t, hoc, hd, hv⟩
    have nf : (upd (upd H P (.tbl (ps ++ #[rawInt pos.line, rawInt pos.col, .ref c']))) c' (CodeO c' (X.env.qual ++ "<lambda>"))) h'.objs.size = none := I1.hok.fresh (Nat.le_refl _)
    have hE : ExtN H (upd (upd H P (.tbl (ps ++ #[rawInt pos.line, rawInt pos.col, .ref c']))) c' (CodeO c' (X.env.qual ++ "<lambda>"))) := fun b o e n => by
      rw [upd_ne (ne_of_none e nC), upd_ne (fun z => n ps (by rw [z, hP] at e; exact (Option.some.inj e).symm))]; exact e
    have eL : (ps ++ #[rawInt pos.line, rawInt pos.col, .ref c']).toList = ps.toList ++ [rawInt pos.line, rawInt pos.col, .ref c'] := by simp
    have hT1 : Tabs T (upd (upd H P (.tbl (ps ++ #[rawInt pos.line, rawInt pos.col, .ref c']))) c' (CodeO c' (X.env.qual ++ "<lambda>"))) := fun p hp => by
      by_cases hb : p.1 = P
      · rw [hu p hp hb, hb]
        refine ⟨_, by rw [upd_ne (ne_of_none hP nC), upd_same], by rw [eL]; exact PySem.TriplesOk_snoc _ _ _ _ ht, fun p' cv hcv => ?_⟩
        rw [eL] at hcv
        rcases among_app _ ht hcv with z | z
        · have ⟨c0, e1, e2⟩ := ha p' cv z
          exact ⟨c0, e1, hE _ _ e2 codeO_ne⟩
        · exact ⟨c', z, upd_same⟩
      · have ⟨ps', a1, a2, a3⟩ := hT p hp
        refine ⟨ps', by rw [upd_ne (ne_of_none a1 nC), upd_ne hb]; exact a1, a2, fun p' cv hcv => ?_⟩
        have ⟨c0, e1, e2⟩ := a3 p' cv hcv
        exact ⟨c0, e1, hE _ _ e2 codeO_ne⟩
    have I2 := I1.laid (t' := tk) (a := h'.objs.size) (o := LamO h'.objs.size ⟨"<lambda>", X.env.qual ++ "<lambda>", params, [], scope, [], c'⟩ body) (h' := h'.push (PySem.W.kla_obj "<lambda>" (X.env.qual ++ "<lambda>") params body scope [] ((X.mg "__name__").getD .none) c' ctv)) (fun b u e => Heap.get?_push_of_some _ e) (Nat.le_refl _) (lamO_ok (Heap.get?_push_size _ rfl))
    exact ⟨.ref h'.objs.size, _, I2, rfl, q h'.objs.size c' _ hE hT1 nf upd_same (Nat.ne_of_gt hlt)⟩
  | some cv =>
    have ⟨c', e, hco⟩ := ha pos cv hc
    subst e
    refine PySem.W.kla_makeFunctionHit (mg := X.mg) (c := c) (P := P) (ps := ps) hclos I.ok.glob (I.mod.glob.keeps I.bk) hcode (TB.code.keeps I.bk) hP' ht hc (TB.bm.keeps I.bk) fun ctv h' tk hx hsz => ?_
    have I1 : Inv X pins σ H { s with heap := h', toks := tk } := I.kept fun b o e => hx b o e
    have nf : H h'.objs.size = none := I1.hok.fresh (Nat.le_refl _)
    have I2 := I1.laid (t' := tk) (a := h'.objs.size) (o := LamO h'.objs.size ⟨"<lambda>", X.env.qual ++ "<lambda>", params, [], scope, [], c'⟩ body) (h' := h'.push (PySem.W.kla_obj "<lambda>" (X.env.qual ++ "<lambda>") params body scope [] ((X.mg "__name__").getD .none) c' ctv)) (fun b u e => Heap.get?_push_of_some _ e) (Nat.le_refl _) (lamO_ok (Heap.get?_push_size _ rfl))
    exact ⟨.ref h'.objs.size, _, I2, rfl, q h'.objs.size c' H (ExtN.refl H) hT nf hco (fun z => by rw [z, hco] at nf; cases nf)⟩
/-- a lambda by its body -/
theorem lam_ok {CX : CXT} {P : Program} {w : World} {K : PySem.W.Frag} {mg : Str → Option Value} {base : Heap} {N ps : List Str} {F : NF} {f : Addr} {k : Nat} {e : Expr} {sp : Sp} (S : NScope N ps [] F.scope) (hcl : F.cl = [])
    (hb : ∀ (pm ctv : Value) (us : List Value), us.length = ps.length → bindArgs (PySem.W.kla_fn "<lambda>" F.qual F.params e F.scope F.cl pm (.ref F.c) ctv) ⟨us, []⟩ = pure (ps.zip us)) (len : ∀ vs H Q E, sp vs H Q E → vs.length = ps.length)
    (hbody : ∀ (A : Around) (outer : List Env) (s : Shared) (H : Hp) (vs : List V) (Q : VK) (E : XK), Room k (A.deeper (envF F f s.heap.objs.size)) → sp vs H Q E → ∃ t, PE (ncx CX P w K mg base N F f A outer s H E) e t ∧ t (startF N vs []) H Q) :
    FnR P w K mg base CX (k + 1) f (fun vs H Q E => H f = some (LamO f F e) ∧ H F.c = some (CodeO F.c F.qual) ∧ sp vs H Q E) := by
  rintro A outer s H us vs Q E hr e0 r ⟨hf, hc, hsp⟩
  have hl := len _ _ _ _ hsp
  have lim : s.heap.NoLimit := e0.mod.nolimit.keeps fun b o e => (e0.bs b o e).1
  have ⟨pm, ctv, ho⟩ := lamO_at e0.hok hf
  have C : CellsAt F.cl [] [] s.heap H := by
    rw [hcl]; exact ⟨rfl, fun y c z => (by cases z), fun x y c z => (by cases z), fun i y z => (by simp at z)⟩
  refine PySem.W.kla_callFunE hr.depth ho rfl S.co S.gen rfl (codeO_at e0.hok hc) ?_
  rw [hb pm ctv us (by rw [← r.length]; exact hl)]
  refine wpAny_pure (wpAny_newFunctionEnv S.nocell (fun ⟨n, _⟩ hy => S.par n (List.of_mem_zip hy).1) (fun h₁ hns hsb => ⟨lim.fresh _ hsb, ?_⟩) S.kind)
  show codeAny _ _ (.expr e (envF F f s.heap.objs.size)) _ _
  have kp : ∀ b o, s.heap.get? b = some o → h₁.get? b = some o := fun b o e => hsb.extBut b o (Nat.ne_of_lt (Heap.lt_size e)) (Heap.get?_push_of_some _ e)
  have ⟨t, ht, hq⟩ := hbody A outer s H vs Q E (hr.deeper _) hsp
  have I : Inv (ncx CX P w K mg base N F f A outer s H E) [] (startF N vs []) H { s with heap := h₁, toks := s.toks + (ps.zip us).length } := inv_startN S hr.hd e0 hl r C hns kp
  refine PySem.W.kla_codeExpr (wpAny_mono (ht.run [] _ (startF N vs []) H _ I hq) (fun u s' hs => ?_) fun e s' hs => hs)
  have ⟨v, H', J, rv, q⟩ := hs
  exact ⟨v, H', J.os, J.bare, J.base, J.hok, rv, q⟩
/-- what a name holds is called: a def of the text, or a lambda that stands in H -/
def tCallW (P : Program) (w : World) (K : PySem.W.Frag) (mg : Str → Option Value) (base : Heap) (CX : CXT) (k i : Nat) (E : L2.St → XK) (t : TA) : TE := fun σ H Q => ∃ f sp, σ[i]? = some (some (.ref f)) ∧ FnR P w K mg base CX k f sp ∧
  ((PySem.W.keepIn K (.ref f) = true ∧ t σ H fun vs H1 => sp vs H1 Q (E σ)) ∨ ∃ F e, H f = some (LamO f F e) ∧ t σ H fun vs H1 => H1 f = some (LamO f F e) ∧ sp vs H1 Q (E σ))
theorem pe_callW {X : Cx} {CX : CXT} {k k' i : Nat} {E : L2.St → XK} {x : Str} {e : Expr} {es : List Expr} {p pos : Pos} {t : TA} (hx : ∀ σ, L2.PassesAt CX X σ (E σ)) (hr : Room k' X.A) (hk : k ≤ k') (hN : X.N[i]? = some x) (hv : Vis X.env.scope x) (ha : PA X (e :: es) t)
    (hd : (x == ("__debug__" : Str)) = false := by decide) (hcd : (x == ("__classdict__" : Str)) = false := by decide) (he : starEach (e :: es) X.env = (false, eval e X.env) :: starEach es X.env := by rfl) (hpl : (backTo pos (starEach es X.env)).any (·.1) = false := by rfl) :
    PE X (.Call (.Name x p) (e :: es) [] pos) (tCallW X.prog X.w X.K X.mg X.base CX k i E t) := by
  refine ⟨fun pins s σ H Q I h => ?_⟩
  have ⟨f, sp, hs, F, hq⟩ := h
  refine wpAny_Call_Name_kw (thn ((pe_var (pos := p) hN hv hd hcd).run pins s σ H (fun v H1 => v = .ref f ∧ H1 = H) I ⟨.ref f, hs, rfl, rfl⟩) fun u s1 ⟨v, H1, I1, r1, q1⟩ => ?_)
  obtain ⟨rfl, rfl⟩ := q1
  cases r1
  have run : ∀ {us : List Value} {s2 : Shared} {vs : List V} {H2 : Hp}, Inv X pins σ H2 s2 → Vals vs us → sp vs H2 Q (E σ) → wpAny (model X.prog X.w) X.A (call (.ref f) ([] ++ us)) (EP X pins σ Q) X.xe s2 := fun {us s2 vs H2} I2 r q => by
    refine wpAny_call (codeAny_mono (F X.A X.stack s2 H2 us vs Q (E σ) (hr.mono hk) I2.env0 r q) fun rr s' hq' => ?_)
    cases rr with
    | error er => exact hx σ pins H2 s2 er s' I2 hq'
    | ok fl =>
      cases fl with
      | ret u => exact I2.after hq'
      | next => exact False.elim hq'
      | brk => exact False.elim hq'
      | cont => exact False.elim hq'
  rcases hq with ⟨kp, hq⟩ | ⟨F', e', hf, hq⟩
  · exact PySem.W.callWith_K (h₀ := X.base) I.ok.mod.kin kp (thn (ha.run pos pins s1 σ _ _ I1 hq) fun us s2 ⟨vs, H2, I2, r, q⟩ => ⟨I2.kIn, run I2 r q⟩) he hpl
  · have fnAt : ∀ {s2 : Shared} {H2 : Hp}, Inv X pins σ H2 s2 → H2 f = some (LamO f F' e') → PySem.W.FnAt f s2.heap := fun {s2 H2} I2 cb => by
      have ⟨pm, ctv, ho⟩ := lamO_at I2.hok cb
      exact ⟨_, _, _, _, ho⟩
    exact PySem.W.callWith_F (fnAt I1 hf) (thn (ha.run pos pins s1 σ _ _ I1 hq) fun us s2 ⟨vs, H2, I2, r, cb, q⟩ => ⟨fnAt I2 cb, run I2 r q⟩) he hpl
end
/-! ### own exceptions, raised and asked -/
theorem pmk1N {X : Cx} {C : Addr} {bmB : List Value} {B newId initId : String} {x : Str} {e : Expr} {ta : TE} {p pos : Pos} (F : ExcBaseFacts B newId initId bmB) (q : PySem.W.excIn X.K C bmB newId = true) (gC : X.mg x = some (.ref C)) (kC : PySem.W.keepIn X.K (.ref C) = true) (r : Raises X (.ref C)) (hg : Gl X x) (he : PE X e ta)
    (hs : starEach [e] X.env = (false, eval e X.env) :: starEach [] X.env := by rfl) (hdb : (x == ("__debug__" : Str)) = false := by decide) : L2N.PMk X (.Call (.Name x p) [e] [] pos) (fun σ H Q => ta σ H fun _ H1 => Q (.ref C) none H1) := by
  intro pins s σ H Q I h
  refine wpAny_Call_Name_kw (ld_glob I hg gC (PySem.W.callWith_K (h₀ := X.base) I.ok.mod.kin kC ?_ hs (by rfl)) hdb)
  rw [hs]
  refine Calls.spliced_cons (thn (he.run pins s σ H _ I h) fun u s1 ⟨v, H1, I1, r1, q1⟩ => Calls.spliced_nil ⟨I1.kIn, ?_⟩)
  have ⟨bm, N, nm, qn, bs, hdct, sn, sub, ab, col, dd, k0, k1, k2, k3, k5, mN, hC, hN, hni, T⟩ := exc_obj I1.kIn q
  exact wpAny_call_exc_subT F T hC hN hni (fun h' e hm => L2N.mk_of I1 hm r q1 (I1.hok.gone hm.new)) (by show 1 ≤ sizeLine; rw [sizeLine_eq]; omega)
/-- raise C(e) -/
def tRz (C : Addr) (ta : TE) (E : XK) : TS := fun _ σ H => ta σ H fun _ H1 => E (.ref C) none H1
/-- an own exception class as the program's text has it -/
structure ExK (K : PySem.W.Frag) (mg : Str → Option Value) (x : Str) : Prop where
  g : mg x = some (.ref (He.ga K x))
  xi : PySem.W.excIn K (He.ga K x) He.veBase "ValueError.__new__" = true
  kp : PySem.W.keepIn K (.ref (He.ga K x)) = true
  sub : PySem.W.subIn K (.ref (He.ga K x)) (.type "BaseException") = some true
  ty : PySem.W.typeIn K (.ref (He.ga K x)) = some (.type "type")
theorem ps_rz {X : Cx} {E : XK} {x : Str} {e : Expr} {ta : TE} {p pos pos' : Pos} (T : ExK X.K X.mg x) (hc : X.calm = true) (tk : L2N.Takes X (fun cls d _ H => E cls d H)) (hg : Gl X x) (he : PE X e ta)
    (hs : starEach [e] X.env = (false, eval e X.env) :: starEach [] X.env := by rfl) (hdb : (x == ("__debug__" : Str)) = false := by decide) : PS X (.Raise (some (.Call (.Name x p) [e] [] pos)) none pos') (tRz (He.ga X.K x) ta E) :=
  L2N.ps_raise hc tk (pmk1N PySem.F.excBase_ValueError T.xi T.g T.kp (raises_own T.sub T.ty) hg he hs hdb)
/-- defs by their promises, errors let out -/
structure OwnC (P : Program) (w : World) (K : PySem.W.Frag) (mg : Str → Option Value) (base : Heap) (CX : CXT) (k : Nat) (x : Str) (ps : List Str) (sp : Sp) : Prop where
  ex : ∃ (f : Addr) (fd : FuncData), FnOk P w K mg base CX k f fd ps sp ∧ mg x = some (.ref f) ∧ PySem.W.keepIn K (.ref f) = true ∧ Binds K fd ps []
theorem pe_callC {X : Cx} {CX : CXT} {k k' : Nat} {x : Str} {ps : List Str} {sp : Sp} {E : XK} {p pos : Pos} {e : Expr} {es : List Expr} {t : TA} (O : OwnC X.prog X.w X.K X.mg X.base CX k x ps sp) (hr : Room k' X.A) (hk : k ≤ k') (hg : Gl X x) (hx : Passes CX X E) (ha : PA X (e :: es) t)
    (hdb : (x == ("__debug__" : Str)) = false := by decide) (he : starEach (e :: es) X.env = (false, eval e X.env) :: starEach es X.env := by rfl) (hpl : (backTo pos (starEach es X.env)).any (·.1) = false := by rfl) : PE X (.Call (.Name x p) (e :: es) [] pos) (tCall sp [] E t) := by
  have ⟨f, fd, F, hm, hkp, hb⟩ := O.ex
  exact pe_call F (hr.mono hk) hg hm hkp hb .nil hx ha hdb he hpl
theorem passN0 {X : Cx} : Passes (L2N.CX X.prog X.w) X E0 := fun _ _ _ _ _ _ _ ⟨_, _, _, _, _, _, _, _, _, _, _, _, z⟩ => z.elim
theorem takesN0 {X : Cx} : L2N.Takes X (fun _ _ _ _ => False) := fun _ _ ⟨_, _, _, _, _, _, _, _, _, _, _, _, _, _, _, _, z⟩ => z.elim
theorem passNE {X : Cx} {E : XK} (tk : L2N.Takes X (fun cls d _ H => E cls d H)) : Passes (L2N.CX X.prog X.w) X E := L2N.passes_call tk fun _ _ _ _ h => h
/-- isinstance(e, C) in a suite, e without fields of its own -/
def rIsN (K : PySem.W.Frag) (cls : Value) (d : Option Addr) (a : Addr) : List V → Hp → VK → Prop := fun xs H Q => ∃ D, cls = .ref D ∧ d = none ∧ ExcC K D ∧ rIsE K D a xs H Q
theorem call_isN {X : Cx} {a : Addr} {cls : Value} {d : Option Addr} {oe : Obj} {pn : List (Addr × Obj)} (hz : L2N.Zn cls d oe) (hf : ∃ vs, oe.data = .fields vs) : CallR (X.suite a ((a, oe) :: pn)) (.builtin "isinstance") (rIsN X.K cls d a) := by
  intro pins s σ H xs us Q I r h
  obtain ⟨D, rfl, rfl, C, h⟩ := h
  exact call_isE C hz.zc hf pins s σ H xs us Q I r h
def excCB (K : PySem.W.Frag) (x : Str) : Bool := He.eqO (PySem.W.findIn K (.ref (He.ga K x)) "__getattribute__") (some (some (.builtin "BaseException.__getattribute__"))) && (He.eqO (PySem.W.findIn K (.ref (He.ga K x)) "__getattr__") (some none) && (decide (PySem.W.subIn K (.ref (He.ga K x)) (.type "BaseException") = some true) && (PySem.W.hasDictIn K (He.ga K x) &&
  (He.eqO (PySem.W.findIn K (.ref (He.ga K x)) "__class__") (some (some (.builtin "object.__class__"))) && (He.eqO (PySem.W.specialIn K (.builtin "object.__class__") "__get__") (some (some (.builtin "getset_descriptor.__get__"))) && (decide (PySem.W.takesIn K (.builtin "object.__class__") = some true) && decide (PySem.W.mroIn K (He.ga K x) (.type "object") = some true)))))))
theorem excCB_ok {K : PySem.W.Frag} {x : Str} (h : excCB K x = true) : ExcC K (He.ga K x) := by
  have ⟨h1, h⟩ := He.ba h
  have ⟨h2, h⟩ := He.ba h
  have ⟨h3, h⟩ := He.ba h
  have ⟨h4, h⟩ := He.ba h
  have ⟨h5, h⟩ := He.ba h
  have ⟨h6, h⟩ := He.ba h
  have ⟨h7, h8⟩ := He.ba h
  exact ⟨He.eqO_ok h1, He.eqO_ok h2, of_decide_eq_true h3, h4, He.eqO_ok h5, He.eqO_ok h6, of_decide_eq_true h7, of_decide_eq_true h8⟩
/-- f'..' -/
def tJoin (ts : List TE) : TE := fun σ H Q => tJs ts Str.empty σ H fun out H1 => Q (.str out) H1
theorem bt_ValueError : bootBuiltins "ValueError" = some (.type "ValueError") := by decide +kernel
/-! ### values of any kind -/
inductive Sm : V → Prop
  | int (i : Int) : Sm (.int i)
  | bl (b : Bool) : Sm (.bl b)
  | non : Sm .non
  | str (x : Str) : Sm (.str x)
def isI : V → Bool
  | .int _ => true
  | _ => false
def isPl : V → Int → Bool
  | .int i, l => decide (1 ≤ i ∧ i ≤ l)
  | _, _ => false
theorem isPl_int {v : V} {l : Int} (h : isPl v l = true) : ∃ p, v = .int p ∧ 1 ≤ p ∧ p ≤ l := by
  cases v with
  | int i => exact ⟨i, rfl, of_decide_eq_true h⟩
  | _ => cases h
/-- an answer's word, or another text -/
def hotS : Str := "hot"
theorem vW_hot (w : Wo) : vW w ≠ .str hotS := by
  cases w <;> decide +kernel
theorem len_small : ∀ i : Fin 101, (Str.ofString (toString ((i.val : Nat) : Int))).length ≤ 100 := by decide +kernel
theorem int_len {i : Int} (h0 : 0 ≤ i) (h1 : i ≤ 100) : (Str.ofString (toString i)).length ≤ 100 := by
  have := len_small ⟨i.toNat, by omega⟩
  have e : ((i.toNat : Nat) : Int) = i := by omega
  rw [show ((⟨i.toNat, by omega⟩ : Fin 101).val : Nat) = i.toNat from rfl, e] at this
  exact this
theorem int_log {i : Int} (h0 : 0 ≤ i) (h1 : i ≤ 100) : i.natAbs.log2 < 1920 := by
  have h : i.natAbs < 2 ^ 7 := by omega
  by_cases z : i.natAbs = 0
  · rw [z]; decide
  · exact Nat.lt_of_lt_of_le ((Nat.log2_lt z).mpr h) (by decide)
def sp_is_whole (K : PySem.W.Frag) : Sp := fun vs H Q _ => ∃ v : V, Sm v ∧ vs = [v] ∧ Q (.bl (isI v)) H
abbrev N_is_whole : List Str := ["value"]
def t_is_whole (K : PySem.W.Frag) : TS := (tRet (tAndV (tCB (rIsi K) (tCons (tVar 0) (tCons (tC (.ty "int")) tNil))) (tNotV (tCB (rIsi K) (tCons (tVar 0) (tCons (tC (.ty "bool")) tNil))))))
theorem pure_is_whole {K : PySem.W.Frag} {vs : List V} {H : Hp} {Q : VK} {E : XK} (h : sp_is_whole K vs H Q E) : t_is_whole K { nx := fun _ H' => Q .non H', rt := Q } (start N_is_whole vs) H := by
  obtain ⟨v, hv, rfl, q⟩ := h
  cases hv with
  | int i =>
    refine ⟨_, rfl, .int i, .ty "int", _, _, true, rfl, .ty "int", .base (.int i), kit_ty (by decide +kernel), true, rfl, iteT ?_⟩
    exact ⟨_, rfl, .int i, .ty "bool", _, _, false, rfl, .ty "bool", .base (.int i), kit_ty (by decide +kernel), false, rfl, q⟩
  | bl b =>
    refine ⟨_, rfl, .bl b, .ty "int", _, _, true, rfl, .ty "int", .base (.bl b), kit_ty (by decide +kernel), true, rfl, iteT ?_⟩
    exact ⟨_, rfl, .bl b, .ty "bool", _, _, true, rfl, .ty "bool", .base (.bl b), kit_ty (by decide +kernel), true, rfl, q⟩
  | non => exact ⟨_, rfl, .non, .ty "int", _, _, false, rfl, .ty "int", .base .non, kit_ty (by decide +kernel), false, rfl, iteF q⟩
  | str x => exact ⟨_, rfl, .str x, .ty "int", _, _, false, rfl, .ty "int", .base (.str x), kit_ty (by decide +kernel), false, rfl, iteF q⟩
theorem len_is_whole {K : PySem.W.Frag} {vs : List V} {H : Hp} {Q : VK} {E : XK} (h : sp_is_whole K vs H Q E) : vs.length = 1 := by
  obtain ⟨v, _, rfl, _⟩ := h
  rfl
def sp_is_place (K : PySem.W.Frag) : Sp := fun vs H Q _ => ∃ (v : V) (l : Int), Sm v ∧ vs = [v, .int l] ∧ Q (.bl (isPl v l)) H
abbrev N_is_place : List Str := ["value", "length"]
def t_is_place (K : PySem.W.Frag) : TS := (tRet (tAndV (tCall (sp_is_whole K) [] E0 (tCons (tVar 0) tNil)) (tChain (rI0 fun i j => .bl (decide (i ≤ j))) (rI0 fun i j => .bl (decide (i ≤ j))) (tC (.int 1)) (tVar 0) (tVar 1))))
theorem pure_is_place {K : PySem.W.Frag} {vs : List V} {H : Hp} {Q : VK} {E : XK} (h : sp_is_place K vs H Q E) : t_is_place K { nx := fun _ H' => Q .non H', rt := Q } (start N_is_place vs) H := by
  obtain ⟨v, l, hv, rfl, q⟩ := h
  refine ⟨_, rfl, v, hv, rfl, isI v, rfl, ?_⟩
  cases hv with
  | int i =>
    refine iteT ⟨_, rfl, 1, i, rfl, rfl, decide ((1 : Int) ≤ i), rfl, ?_⟩
    by_cases h1 : (1 : Int) ≤ i
    · rw [decide_eq_true h1]
      refine iteT ⟨_, rfl, i, l, rfl, rfl, ?_⟩
      have e : decide (i ≤ l) = isPl (.int i) l := by simp [isPl, h1]
      show Q (.bl (decide (i ≤ l))) H
      rw [e]
      exact q
    · rw [decide_eq_false h1]
      refine iteF ?_
      have e : false = isPl (.int i) l := by simp [isPl, h1]
      show Q (.bl false) H
      rw [e]
      exact q
  | _ => exact iteF q
theorem len_is_place {K : PySem.W.Frag} {vs : List V} {H : Hp} {Q : VK} {E : XK} (h : sp_is_place K vs H Q E) : vs.length = 2 := by
  obtain ⟨v, l, _, rfl, _⟩ := h
  rfl
def sp_is_word (K : PySem.W.Frag) : Sp := fun vs H Q _ => (∃ x : Wo, vs = [vW x] ∧ Q (.bl true) H) ∨ (vs = [.str hotS] ∧ Q (.bl false) H)
abbrev N_is_word : List Str := ["value"]
def t_is_word (K : PySem.W.Frag) : TS := (tRet (tAndV (tCB (rIsi K) (tCons (tVar 0) (tCons (tC (.ty "str")) tNil))) (tOp (rIn K false) (tVar 0) (tC (.ref (He.ga K "WORDS"))))))
theorem pure_is_word {K : PySem.W.Frag} (hW : ∀ H, SqT K H (He.ga K "WORDS") [.str "warm", .str "cold", .str "same"]) {vs : List V} {H : Hp} {Q : VK} {E : XK} (h : sp_is_word K vs H Q E) : t_is_word K { nx := fun _ H' => Q .non H', rt := Q } (start N_is_word vs) H := by
  rcases h with ⟨x, rfl, q⟩ | ⟨rfl, q⟩
  · refine ⟨_, rfl, vW x, .ty "str", _, _, true, rfl, .ty "str", .base (.str x.str), kit_ty (by decide +kernel), true, rfl, iteT ?_⟩
    refine ⟨_, rfl, _, _, rfl, .inr (hW H), rfl, rfl, ?_⟩
    have e : (if false = true then !inV (vW x) [V.str "warm", V.str "cold", V.str "same"] else inV (vW x) [V.str "warm", V.str "cold", V.str "same"]) = true := by
      cases x <;> decide +kernel
    rw [e]
    exact q
  · refine ⟨_, rfl, .str hotS, .ty "str", _, _, true, rfl, .ty "str", .base (.str hotS), kit_ty (by decide +kernel), true, rfl, iteT ?_⟩
    refine ⟨_, rfl, _, _, rfl, .inr (hW H), rfl, rfl, ?_⟩
    have e : (if false = true then !inV (.str hotS) [V.str "warm", V.str "cold", V.str "same"] else inV (.str hotS) [V.str "warm", V.str "cold", V.str "same"]) = false := by decide +kernel
    rw [e]
    exact q
theorem len_is_word {K : PySem.W.Frag} {vs : List V} {H : Hp} {Q : VK} {E : XK} (h : sp_is_word K vs H Q E) : vs.length = 1 := by
  rcases h with ⟨x, rfl, q⟩ | ⟨rfl, q⟩ <;> rfl
def sp_check_length (K : PySem.W.Frag) : Sp := fun vs H Q _ => ∃ l : Int, vs = [.int l] ∧ 1 ≤ l ∧ l ≤ 60 ∧ Q .non H
abbrev N_check_length : List Str := ["length"]
def t_check_length (K : PySem.W.Frag) : TS := (tIfS (tNot (tB (tCall (sp_is_place K) [] E0 (tCons (tVar 0) (tCons (tC (.int 60)) tNil))))) tNever tNext)
theorem pure_check_length {K : PySem.W.Frag} {vs : List V} {H : Hp} {Q : VK} {E : XK} (h : sp_check_length K vs H Q E) : t_check_length K { nx := fun _ H' => Q .non H', rt := Q } (start N_check_length vs) H := by
  obtain ⟨l, rfl, h1, h2, q⟩ := h
  exact ⟨_, rfl, .int l, 60, .int l, rfl, _, rfl, iteNS ⟨h1, h2⟩ q⟩
theorem len_check_length {K : PySem.W.Frag} {vs : List V} {H : Hp} {Q : VK} {E : XK} (h : sp_check_length K vs H Q E) : vs.length = 1 := by
  obtain ⟨l, rfl, _⟩ := h
  rfl
def sp_check_place (K : PySem.W.Frag) : Sp := fun vs H Q E => ∃ (v : V) (l : Int), Sm v ∧ vs = [v, .int l] ∧ 0 ≤ l ∧ l ≤ 60 ∧ (isPl v l = true → Q .non H) ∧ (isPl v l = false → E (.ref (He.ga K "NoPlace")) none H)
abbrev N_check_place : List Str := ["place", "length"]
def t_check_place (K : PySem.W.Frag) (E : XK) : TS := (tIfS (tNot (tB (tCall (sp_is_place K) [] E0 (tCons (tVar 0) (tCons (tVar 1) tNil))))) (tRz (He.ga K "NoPlace") (tJoin [(tC (.str (Str.ofString "a place is a whole number from 1 to "))), (tFmt (tVar 1))]) E) tNext)
theorem pure_check_place {K : PySem.W.Frag} {vs : List V} {H : Hp} {Q : VK} {E : XK} (h : sp_check_place K vs H Q E) : t_check_place K E { nx := fun _ H' => Q .non H', rt := Q } (start N_check_place vs) H := by
  obtain ⟨v, l, hv, rfl, h0, h1, q1, q2⟩ := h
  refine ⟨_, rfl, _, rfl, v, l, hv, rfl, _, rfl, ?_⟩
  cases hp : isPl v l with
  | true => exact iteF (q1 hp)
  | false =>
    refine iteT ⟨_, rfl, by decide +kernel, _, rfl, .inr ⟨l, rfl, int_log h0 (by omega), _, rfl, ?_, q2 hp⟩⟩
    rw [Str.length_append]
    have := int_len h0 (by omega)
    refine Nat.le_trans (Nat.add_le_add (Nat.le_refl _) this) (by decide +kernel)
theorem len_check_place {K : PySem.W.Frag} {vs : List V} {H : Hp} {Q : VK} {E : XK} (h : sp_check_place K vs H Q E) : vs.length = 2 := by
  obtain ⟨v, l, _, rfl, _⟩ := h
  rfl
def sp_check_answer (K : PySem.W.Frag) : Sp := fun vs H Q E => (∃ w : Wo, vs = [vW w] ∧ Q .non H) ∨ (vs = [.str hotS] ∧ E (.ref (He.ga K "NoAnswer")) none H)
abbrev N_check_answer : List Str := ["word"]
def t_check_answer (K : PySem.W.Frag) (E : XK) : TS := (tIfS (tNot (tB (tCall (sp_is_word K) [] E0 (tCons (tVar 0) tNil)))) (tRz (He.ga K "NoAnswer") (tC (.str (Str.ofString "an answer is warm, cold or same"))) E) tNext)
theorem pure_check_answer {K : PySem.W.Frag} {vs : List V} {H : Hp} {Q : VK} {E : XK} (h : sp_check_answer K vs H Q E) : t_check_answer K E { nx := fun _ H' => Q .non H', rt := Q } (start N_check_answer vs) H := by
  rcases h with ⟨w, rfl, q⟩ | ⟨rfl, q⟩
  · exact ⟨_, rfl, .inl ⟨w, rfl, _, rfl, iteF q⟩⟩
  · exact ⟨_, rfl, .inr ⟨rfl, _, rfl, iteT q⟩⟩
theorem len_check_answer {K : PySem.W.Frag} {vs : List V} {H : Hp} {Q : VK} {E : XK} (h : sp_check_answer K vs H Q E) : vs.length = 1 := by
  rcases h with ⟨x, rfl, q⟩ | ⟨rfl, q⟩ <;> rfl
def sp_word_for (K : PySem.W.Frag) : Sp := fun vs H Q _ => ∃ b a : Int, vs = [.int b, .int a] ∧ Q (vW (word b a)) H
abbrev N_word_for : List Str := ["before", "after"]
def t_word_for (K : PySem.W.Frag) : TS := (tSeq (tIfS (tTest (tOp (rI0 fun i j => .bl (decide (i < j))) (tVar 1) (tVar 0))) (tRet (tC (.str (Str.ofString "warm")))) tNext)
  (tSeq (tIfS (tTest (tOp (rI0 fun i j => .bl (decide (j < i))) (tVar 1) (tVar 0))) (tRet (tC (.str (Str.ofString "cold")))) tNext)
  (tRet (tC (.str (Str.ofString "same"))))))
theorem pure_word_for {K : PySem.W.Frag} {vs : List V} {H : Hp} {Q : VK} {E : XK} (h : sp_word_for K vs H Q E) : t_word_for K { nx := fun _ H' => Q .non H', rt := Q } (start N_word_for vs) H := by
  obtain ⟨b, a, rfl, q⟩ := h
  refine ⟨_, rfl, _, rfl, a, b, rfl, rfl, _, rfl, ite2 (fun h1 => ?_) (fun h1 => ?_)⟩
  · have e1 : word b a = .warm := if_pos (of_decide_eq_true h1)
    rw [e1] at q
    exact q
  · have n1 : ¬ a < b := fun z => h1 (decide_eq_true z)
    refine ⟨_, rfl, _, rfl, a, b, rfl, rfl, _, rfl, ite2 (fun h2 => ?_) (fun h2 => ?_)⟩
    · have e2 : word b a = .cold := (if_neg n1).trans (if_pos (of_decide_eq_true h2))
      rw [e2] at q
      exact q
    · have n2 : ¬ b < a := fun z => h2 (decide_eq_true z)
      have e3 : word b a = .same := (if_neg n1).trans (if_neg n2)
      rw [e3] at q
      exact q
theorem len_word_for {K : PySem.W.Frag} {vs : List V} {H : Hp} {Q : VK} {E : XK} (h : sp_word_for K vs H Q E) : vs.length = 2 := by
  obtain ⟨b, a, rfl, _⟩ := h
  rfl
def sp_answer_to_move (K : PySem.W.Frag) : Sp := fun vs H Q _ => ∃ t e l : Int, vs = [.int t, .int e, .int l] ∧ Q (vW (mv t e l)) H
abbrev N_answer_to_move : List Str := ["thing", "earlier", "later"]
def t_answer_to_move (K : PySem.W.Frag) : TS := (tRet (tCall (sp_word_for K) [] E0 (tCons (tCB rAbs (tCons (tOp (rI0 fun i j => .int (i - j)) (tVar 0) (tVar 1)) tNil)) (tCons (tCB rAbs (tCons (tOp (rI0 fun i j => .int (i - j)) (tVar 0) (tVar 2)) tNil)) tNil))))
theorem pure_answer_to_move {K : PySem.W.Frag} {vs : List V} {H : Hp} {Q : VK} {E : XK} (h : sp_answer_to_move K vs H Q E) : t_answer_to_move K { nx := fun _ H' => Q .non H', rt := Q } (start N_answer_to_move vs) H := by
  obtain ⟨t, e, l, rfl, q⟩ := h
  exact ⟨_, rfl, _, rfl, t, e, rfl, rfl, _, rfl, _, rfl, _, rfl, t, l, rfl, rfl, _, rfl, ab (t - e), ab (t - l), rfl, q⟩
theorem len_answer_to_move {K : PySem.W.Frag} {vs : List V} {H : Hp} {Q : VK} {E : XK} (h : sp_answer_to_move K vs H Q E) : vs.length = 3 := by
  obtain ⟨t, e, l, rfl, _⟩ := h
  rfl
/-! ### a search kept -/
abbrev SC (K : PySem.W.Frag) : Addr := He.ga K "Search"
structure SrF (K : PySem.W.Frag) : Prop where
  cl : Cls K (SC K)
  nl : NoAttr K (SC K) "length"
  ns : NoAttr K (SC K) "stood"
  nw : NoAttr K (SC K) "words"
  nf : NoAttr K (SC K) "left"
/-- tuples of ints at these places -/
inductive AtTups (H : Hp) : List Addr → List (List Int) → Prop
  | nil : AtTups H [] []
  | cons {u : Addr} {us : List Addr} {p : List Int} {ps : List (List Int)} : H u = some (.tup (p.map V.int)) → AtTups H us ps → AtTups H (u :: us) (p :: ps)
theorem AtTups.imp {H H' : Hp} (e : ∀ a xs, H a = some (.tup xs) → H' a = some (.tup xs)) : ∀ {us : List Addr} {ps : List (List Int)}, AtTups H us ps → AtTups H' us ps
  | _, _, .nil => .nil
  | _, _, .cons h t => .cons (e _ _ h) (t.imp e)
theorem AtTups.snoc {H : Hp} {u : Addr} {p : List Int} (h : H u = some (.tup (p.map V.int))) : ∀ {us : List Addr} {ps : List (List Int)}, AtTups H us ps → AtTups H (us ++ [u]) (ps ++ [p])
  | _, _, .nil => .cons h .nil
  | _, _, .cons h' t => .cons h' (t.snoc h)
theorem AtTups.len {H : Hp} : ∀ {us : List Addr} {ps : List (List Int)}, AtTups H us ps → us.length = ps.length
  | _, _, .nil => rfl
  | _, _, .cons _ t => congrArg (· + 1) t.len
theorem AtTups.last {H : Hp} : ∀ {us : List Addr} {ps : List (List Int)} {p : List Int}, AtTups H us (ps ++ [p]) → ∃ us' u, us = us' ++ [u] ∧ H u = some (.tup (p.map V.int)) ∧ AtTups H us' ps
  | _, [], _, .cons h .nil => ⟨[], _, rfl, h, .nil⟩
  | _, _ :: ps, _, .cons h t => by
    obtain ⟨us', u, e, hu, t'⟩ := t.last (ps := ps)
    exact ⟨_ :: us', u, by rw [e]; rfl, hu, .cons h t'⟩
/-- the search at x: of this length, these stands, answers, and places left behind each answer -/
structure Sr (C : Addr) (H : Hp) (x dx S W F : Addr) (L : Int) (st : List Int) (ws : List Wo) (us : List Addr) (fs : List (List Int)) : Prop where
  ins : H x = some (.ins C dx [("length", .int L), ("stood", .ref S), ("words", .ref W), ("left", .ref F)])
  hS : H S = some (.lst (st.map V.int))
  hW : H W = some (.lst (ws.map vW))
  hF : H F = some (.lst (us.map V.ref))
  hT : AtTups H us fs
  nSW : S ≠ W
  nSF : S ≠ F
  nWF : W ≠ F
theorem Sr.kp {C : Addr} {bs : List Addr} {H H' : Hp} {x dx S W F : Addr} {L : Int} {st : List Int} {ws : List Wo} {us : List Addr} {fs : List (List Int)} (r : Sr C H x dx S W F L st ws us fs) (k : Kp bs H H') (nx : x ∉ bs) (nS : S ∉ bs) (nW : W ∉ bs) (nF : F ∉ bs) (nt : ∀ a xs, H a = some (.tup xs) → a ∉ bs) : Sr C H' x dx S W F L st ws us fs :=
  ⟨k _ _ nx r.ins, k _ _ nS r.hS, k _ _ nW r.hW, k _ _ nF r.hF, r.hT.imp fun a xs h => k _ _ (nt a xs h) h, r.nSW, r.nSF, r.nWF⟩
theorem Sr.ex {C : Addr} {H H' : Hp} {x dx S W F : Addr} {L : Int} {st : List Int} {ws : List Wo} {us : List Addr} {fs : List (List Int)} (r : Sr C H x dx S W F L st ws us fs) (e : Ex H H') : Sr C H' x dx S W F L st ws us fs :=
  ⟨e _ _ r.ins, e _ _ r.hS, e _ _ r.hW, e _ _ r.hF, r.hT.imp fun a xs h => e _ _ h, r.nSW, r.nSF, r.nWF⟩
theorem Sr.stand {C : Addr} {H : Hp} {x dx S W F : Addr} {L p : Int} {st : List Int} {ws : List Wo} {us : List Addr} {fs : List (List Int)} (r : Sr C H x dx S W F L st ws us fs) : Sr C (upd H S (.lst (st.map V.int ++ [.int p]))) x dx S W F L (st ++ [p]) ws us fs := by
  refine ⟨?_, ?_, ?_, ?_, r.hT.imp fun a xs h => ?_, r.nSW, r.nSF, r.nWF⟩
  · rw [upd_ne (ne_of r.ins r.hS (by intro z; cases z))]
    exact r.ins
  · rw [upd_same, List.map_append]
    rfl
  · rw [upd_ne r.nSW.symm]
    exact r.hW
  · rw [upd_ne r.nSF.symm]
    exact r.hF
  · rw [upd_ne (ne_of h r.hS (by intro z; cases z))]
    exact h
theorem Kp.one {H : Hp} {a : Addr} {o : HO} : Kp [a] H (upd H a o) := fun b u n h => by
  rw [upd_ne (fun z => n (by rw [z]; exact List.mem_singleton.mpr rfl))]
  exact h
theorem Kp.sub {bs cs : List Addr} {H H' : Hp} (k : Kp bs H H') (h : ∀ a ∈ bs, a ∈ cs) : Kp cs H H' := fun a o n ha => k a o (fun z => n (h a z)) ha
theorem cut_two (xs : List V) (a b : V) : cutV (xs ++ [a, b]) (some (-2)) none = [a, b] := by
  unfold cutV
  rw [HT.sIx_none]
  have e : HT.sIx (xs ++ [a, b]).length 0 (some (-2)) = xs.length := by
    have hl : (xs ++ [a, b]).length = xs.length + 2 := by rw [List.length_append]; rfl
    rw [hl]
    show (if (-2 : Int) < 0 then (-2 + ((xs.length + 2 : Nat) : Int)).toNat else min (-2 : Int).toNat (xs.length + 2)) = xs.length
    rw [if_pos (by decide)]
    omega
  rw [e, List.drop_left, List.length_append]
  show List.take (xs.length + 2 - xs.length) [a, b] = [a, b]
  rw [Nat.add_sub_cancel_left]
  rfl
theorem AtTups.dropLast {H : Hp} : ∀ {us : List Addr} {ps : List (List Int)}, AtTups H us ps → AtTups H us.dropLast ps.dropLast
  | _, _, .nil => .nil
  | _, _, .cons _ .nil => .nil
  | _, _, .cons h (.cons h2 t) => .cons h (AtTups.cons h2 t).dropLast
def sp_Search___init__ (K : PySem.W.Frag) : Sp := fun vs H Q _ => ∃ (x dx : Addr) (L : Int), vs = [.ref x, .int L] ∧ H x = some (.ins (SC K) dx []) ∧ 1 ≤ L ∧ L ≤ 60 ∧
  ∀ H' S W F u, Kp [x] H H' → H S = none → H W = none → H F = none → Sr (SC K) H' x dx S W F L [] [] [u] [rng 1 (L + 1)] → Q .non H'
abbrev N_Search___init__ : List Str := ["self", "length"]
def t_Search___init__ (K : PySem.W.Frag) : TS := (tSeq (tDrop (tCall (sp_check_length K) [] E0 (tCons (tVar 1) tNil)))
  (tSeq (sFld K (tVar 0) (tVar 1) "length")
  (tSeq (sFld K (tVar 0) (tLst tNil) "stood")
  (tSeq (sFld K (tVar 0) (tLst tNil) "words")
  (sFld K (tVar 0) (tLst (tCons (tTupRg (tRg2 (tC (.int 1)) (tOp (rI0 fun i j => .int (i + j)) (tVar 1) (tC (.int 1))))) tNil)) "left")))))
theorem rgV_rngS (a b : Int) : rgV a b = (rng a b).map V.int := by
  unfold rgV rng
  rw [List.map_map]
  rfl
theorem pure_Search___init__ {K : PySem.W.Frag} (T : SrF K) {vs : List V} {H : Hp} {Q : VK} {E : XK} (h : sp_Search___init__ K vs H Q E) : t_Search___init__ K { nx := fun _ H' => Q .non H', rt := Q } (start N_Search___init__ vs) H := by
  obtain ⟨x, dx, L, rfl, hx, h1, h2, q⟩ := h
  refine ⟨_, rfl, L, rfl, h1, h2, ?_⟩
  refine ⟨_, rfl, _, rfl, x, SC K, dx, [], rfl, hx, T.cl, T.nl, by decide, ?_⟩
  have g1 : (upd H x (.ins (SC K) dx [("length", .int L)])) x = some (.ins (SC K) dx [("length", .int L)]) := upd_same
  have k1 : Kp [x] H (upd H x (.ins (SC K) dx [("length", .int L)])) := Kp.one
  have n1 : ∀ a, (upd H x (.ins (SC K) dx [("length", .int L)])) a = none → H a = none := fun a z => by
    by_cases e : a = x
    · rw [e, upd_same] at z
      cases z
    · rw [upd_ne e] at z
      exact z
  show tSeq _ _ _ _ (upd H x (.ins (SC K) dx [("length", .int L)]))
  generalize upd H x (.ins (SC K) dx [("length", .int L)]) = H1 at g1 k1 n1 ⊢
  refine ⟨by show 0 ≤ sizeLine; decide, fun S nS => ?_⟩
  have e2 : Ex H1 (upd H1 S (.lst [])) := Ex.new nS
  have g2 := e2 _ _ g1
  have s2 : (upd H1 S (.lst [])) S = some (.lst []) := upd_same
  have k2 : Kp [x] H (upd H1 S (.lst [])) := k1.trans (Kp.ex e2)
  have n2 : ∀ a, (upd H1 S (.lst [])) a = none → H1 a = none := fun a z => fresh_back e2 z
  generalize upd H1 S (.lst []) = H2 at g2 s2 k2 n2 ⊢
  refine ⟨_, rfl, x, SC K, dx, _, rfl, g2, T.cl, T.ns, by show 1 < 1000; decide, ?_⟩
  have g3 : (upd H2 x (.ins (SC K) dx [("length", .int L), ("stood", .ref S)])) x = some (.ins (SC K) dx [("length", .int L), ("stood", .ref S)]) := upd_same
  have nSx : S ≠ x := ne_of s2 g2 (by intro z; cases z)
  have s3 : (upd H2 x (.ins (SC K) dx [("length", .int L), ("stood", .ref S)])) S = some (.lst []) := by rw [upd_ne nSx]; exact s2
  have k3 : Kp [x] H (upd H2 x (.ins (SC K) dx [("length", .int L), ("stood", .ref S)])) := k2.trans Kp.one
  have n3 : ∀ a, (upd H2 x (.ins (SC K) dx [("length", .int L), ("stood", .ref S)])) a = none → H2 a = none := fun a z => by
    by_cases e : a = x
    · rw [e, upd_same] at z
      cases z
    · rw [upd_ne e] at z
      exact z
  show tSeq _ _ _ _ (upd H2 x (.ins (SC K) dx [("length", .int L), ("stood", .ref S)]))
  generalize upd H2 x (.ins (SC K) dx [("length", .int L), ("stood", .ref S)]) = H3 at g3 s3 k3 n3 ⊢
  refine ⟨by show 0 ≤ sizeLine; decide, fun W nW => ?_⟩
  have e4 : Ex H3 (upd H3 W (.lst [])) := Ex.new nW
  have g4 := e4 _ _ g3
  have s4 := e4 _ _ s3
  have nSW : S ≠ W := ne_of_none s3 nW
  have w4 : (upd H3 W (.lst [])) W = some (.lst []) := upd_same
  have k4 : Kp [x] H (upd H3 W (.lst [])) := k3.trans (Kp.ex e4)
  have n4 : ∀ a, (upd H3 W (.lst [])) a = none → H3 a = none := fun a z => fresh_back e4 z
  generalize upd H3 W (.lst []) = H4 at g4 s4 w4 k4 n4 ⊢
  refine ⟨_, rfl, x, SC K, dx, _, rfl, g4, T.cl, T.nw, by show 2 < 1000; decide, ?_⟩
  have nWx : W ≠ x := ne_of w4 g4 (by intro z; cases z)
  have g5 : (upd H4 x (.ins (SC K) dx [("length", .int L), ("stood", .ref S), ("words", .ref W)])) x = some (.ins (SC K) dx [("length", .int L), ("stood", .ref S), ("words", .ref W)]) := upd_same
  have s5 : (upd H4 x (.ins (SC K) dx [("length", .int L), ("stood", .ref S), ("words", .ref W)])) S = some (.lst []) := by rw [upd_ne nSx]; exact s4
  have w5 : (upd H4 x (.ins (SC K) dx [("length", .int L), ("stood", .ref S), ("words", .ref W)])) W = some (.lst []) := by rw [upd_ne nWx]; exact w4
  have k5 : Kp [x] H (upd H4 x (.ins (SC K) dx [("length", .int L), ("stood", .ref S), ("words", .ref W)])) := k4.trans Kp.one
  have n5 : ∀ a, (upd H4 x (.ins (SC K) dx [("length", .int L), ("stood", .ref S), ("words", .ref W)])) a = none → H4 a = none := fun a z => by
    by_cases e : a = x
    · rw [e, upd_same] at z
      cases z
    · rw [upd_ne e] at z
      exact z
  have ep : putF "words" (V.ref W) [("length", V.int L), ("stood", V.ref S)] = ([("length", V.int L), ("stood", V.ref S), ("words", V.ref W)] : List (Str × V)) := by rfl
  rw [ep]
  dsimp only
  generalize upd H4 x (.ins (SC K) dx [("length", .int L), ("stood", .ref S), ("words", .ref W)]) = H5 at g5 s5 w5 k5 n5 ⊢
  refine ⟨_, rfl, L, 1, rfl, rfl, 1, L + 1, rfl, rfl, RgOk.of_le (by omega) (by omega) (by omega) (by omega), fun u nu => ?_⟩
  rw [rgV_rngS]
  have e6 : Ex H5 (upd H5 u (.tup ((rng 1 (L + 1)).map V.int))) := Ex.new nu
  have u6 : (upd H5 u (.tup ((rng 1 (L + 1)).map V.int))) u = some (.tup ((rng 1 (L + 1)).map V.int)) := upd_same
  generalize upd H5 u (.tup ((rng 1 (L + 1)).map V.int)) = H6 at e6 u6 ⊢
  refine ⟨by show 1 ≤ sizeLine; decide, fun F nF => ?_⟩
  have e7 : Ex H6 (upd H6 F (.lst [.ref u])) := Ex.new nF
  have f7 : (upd H6 F (.lst [.ref u])) F = some (.lst ([u].map V.ref)) := upd_same
  generalize upd H6 F (.lst [.ref u]) = H7 at e7 f7 ⊢
  have e57 := e6.trans e7
  have g7 := e57 _ _ g5
  have nFx : F ≠ x := ne_of f7 g7 (by intro z; cases z)
  have nux : u ≠ x := ne_of (e7 _ _ u6) g7 (by intro z; cases z)
  have nF5 : H5 F = none := fresh_back e6 nF
  refine ⟨_, rfl, x, SC K, dx, _, rfl, g7, T.cl, T.nf, by show 3 < 1000; decide, ?_⟩
  refine q _ S W F u ((k5.trans (Kp.ex e57)).trans Kp.one) (n1 _ nS) (n1 _ (n2 _ (n3 _ nW))) (n1 _ (n2 _ (n3 _ (n4 _ (n5 _ nF5))))) ⟨upd_same, ?_, ?_, ?_, .cons ?_ .nil, nSW, ne_of_none s5 nF5, ne_of_none w5 nF5⟩
  · rw [upd_ne nSx]
    exact e57 _ _ s5
  · rw [upd_ne nWx]
    exact e57 _ _ w5
  · rw [upd_ne nFx]
    exact f7
  · rw [upd_ne nux]
    exact e7 _ _ u6
theorem len_Search___init__ {K : PySem.W.Frag} {vs : List V} {H : Hp} {Q : VK} {E : XK} (h : sp_Search___init__ K vs H Q E) : vs.length = 2 := by
  obtain ⟨x, dx, L, rfl, _⟩ := h
  rfl
def sp_Search_waits (K : PySem.W.Frag) : Sp := fun vs H Q _ => ∃ (x dx S W F : Addr) (L : Int) (st : List Int) (ws : List Wo) (us : List Addr) (fs : List (List Int)), vs = [.ref x] ∧ Sr (SC K) H x dx S W F L st ws us fs ∧ Q (.bl (decide (ws.length + 1 < st.length))) H
abbrev N_Search_waits : List Str := ["self"]
def t_Search_waits (K : PySem.W.Frag) : TS := (tRet (tOp (rI0 fun i j => .bl (decide (j < i))) (tCB (rLenQ K) (tCons (tFld K (tVar 0) "stood") tNil)) (tOp (rI0 fun i j => .int (i + j)) (tCB (rLenQ K) (tCons (tFld K (tVar 0) "words") tNil)) (tC (.int 1)))))
theorem pure_Search_waits {K : PySem.W.Frag} (T : SrF K) {vs : List V} {H : Hp} {Q : VK} {E : XK} (h : sp_Search_waits K vs H Q E) : t_Search_waits K { nx := fun _ H' => Q .non H', rt := Q } (start N_Search_waits vs) H := by
  obtain ⟨x, dx, S, W, F, L, st, ws, us, fs, rfl, r, q⟩ := h
  refine ⟨_, rfl, x, SC K, dx, _, .ref S, rfl, r.ins, T.cl, T.ns, rfl, S, _, rfl, .inl (SqL.of r.hS), _, rfl, x, SC K, dx, _, .ref W, rfl, r.ins, T.cl, T.nw, rfl, W, _, rfl, .inl (SqL.of r.hW), _, 1, rfl, rfl, _, _, rfl, rfl, ?_⟩
  have e : decide (((ws.map vW).length : Int) + 1 < ((st.map V.int).length : Int)) = decide (ws.length + 1 < st.length) := by
    rw [List.length_map, List.length_map]
    exact decide_eq_decide.mpr ⟨fun z => by omega, fun z => by omega⟩
  dsimp only
  rw [e]
  exact q
theorem len_Search_waits {K : PySem.W.Frag} {vs : List V} {H : Hp} {Q : VK} {E : XK} (h : sp_Search_waits K vs H Q E) : vs.length = 1 := by
  obtain ⟨x, dx, S, W, F, L, st, ws, us, fs, rfl, _⟩ := h
  rfl
def sp_Search_stand (K : PySem.W.Frag) : Sp := fun vs H Q E => ∃ (x dx S W F : Addr) (L : Int) (v : V) (st : List Int) (ws : List Wo) (us : List Addr) (fs : List (List Int)), vs = [.ref x, v] ∧ Sm v ∧ Sr (SC K) H x dx S W F L st ws us fs ∧ 0 ≤ L ∧ L ≤ 60 ∧ st.length ≤ 900 ∧
  (isPl v L = false → E (.ref (He.ga K "NoPlace")) none H) ∧ (isPl v L = true → ws.length + 1 < st.length → E (.ref (He.ga K "NotNow")) none H) ∧
  ∀ p, v = .int p → 1 ≤ p → p ≤ L → ¬ ws.length + 1 < st.length → ∀ H', Kp [S] H H' → Sr (SC K) H' x dx S W F L (st ++ [p]) ws us fs → Q .non H'
abbrev N_Search_stand : List Str := ["self", "place"]
def t_Search_stand (K : PySem.W.Frag) (E : XK) : TS := (tSeq (tDrop (tCall (sp_check_place K) [] E (tCons (tVar 1) (tCons (tFld K (tVar 0) "length") tNil))))
  (tSeq (tIfS (tB (tMeth (He.ga K "Search") "waits" (sp_Search_waits K) [] E0 (tVar 0) tNil)) (tRz (He.ga K "NotNow") (tC (.str (Str.ofString "the last stand has not been answered yet"))) E) tNext)
  (tDrop (tBM K "list" rAppend (tFld K (tVar 0) "stood") (tCons (tVar 1) tNil)))))
theorem pure_Search_stand {K : PySem.W.Frag} (T : SrF K) {vs : List V} {H : Hp} {Q : VK} {E : XK} (h : sp_Search_stand K vs H Q E) : t_Search_stand K E { nx := fun _ H' => Q .non H', rt := Q } (start N_Search_stand vs) H := by
  obtain ⟨x, dx, S, W, F, L, v, st, ws, us, fs, rfl, hv, r, h0, h6, h4, q1, q2, q3⟩ := h
  refine ⟨_, rfl, _, rfl, x, SC K, dx, _, .int L, rfl, r.ins, T.cl, T.nl, rfl, v, L, hv, rfl, h0, h6, fun hp => ?_, fun hp => q1 hp⟩
  refine ⟨_, rfl, x, dx, _, rfl, r.ins, rfl, x, dx, S, W, F, L, st, ws, us, fs, rfl, r, _, rfl, ?_⟩
  by_cases hw : ws.length + 1 < st.length
  · rw [decide_eq_true hw]
    exact iteT (q2 hp hw)
  · rw [decide_eq_false hw]
    obtain ⟨p, rfl, h1, h2⟩ := isPl_int hp
    refine iteF ⟨_, rfl, x, SC K, dx, _, .ref S, rfl, r.ins, T.cl, T.ns, rfl, .inl ⟨rfl, _, SqL.of r.hS⟩, _, rfl, S, _, _, rfl, rfl, r.hS, ?_, ?_⟩
    · rw [List.length_map]
      exact small1000 (by omega)
    · exact q3 p rfl h1 h2 hw _ Kp.one r.stand
theorem len_Search_stand {K : PySem.W.Frag} {vs : List V} {H : Hp} {Q : VK} {E : XK} (h : sp_Search_stand K vs H Q E) : vs.length = 2 := by
  obtain ⟨x, dx, S, W, F, L, v, st, ws, us, fs, rfl, _⟩ := h
  rfl
def sp_Search_answer (K : PySem.W.Frag) : Sp := fun vs H Q E => ∃ (x : Addr) (v : V), vs = [.ref x, v] ∧ ((v = .str hotS ∧ E (.ref (He.ga K "NoAnswer")) none H) ∨
  ∃ (dx S W F : Addr) (L : Int) (w : Wo) (st : List Int) (ws : List Wo) (us : List Addr) (fs : List (List Int)) (f : List Int), v = vW w ∧ Sr (SC K) H x dx S W F L st ws us (fs ++ [f]) ∧ ws.length ≤ 900 ∧ fs.length ≤ 900 ∧ f.length ≤ 900 ∧
    (¬ ws.length + 1 < st.length → E (.ref (He.ga K "NotNow")) none H) ∧
    ∀ st0 e l, st = st0 ++ [e, l] → ws.length + 1 < st.length → ((f.filter fun t => decide (mv t e l = w)) = [] → ∀ H', Ex H H' → E (.ref (He.ga K "Never")) none H') ∧
      ((f.filter fun t => decide (mv t e l = w)) ≠ [] → ∀ H' u, Kp [W, F] H H' → Sr (SC K) H' x dx S W F L st (ws ++ [w]) (us ++ [u]) (fs ++ [f] ++ [f.filter fun t => decide (mv t e l = w)]) → Q .non H'))
abbrev N_Search_answer : List Str := ["self", "word", "earlier", "later", "still", "place"]
def t_Search_answer (K : PySem.W.Frag) (E : XK) : TS := (tSeq (tDrop (tCall (sp_check_answer K) [] E (tCons (tVar 1) tNil)))
  (tSeq (tIfS (tNot (tB (tMeth (He.ga K "Search") "waits" (sp_Search_waits K) [] E0 (tVar 0) tNil))) (tRz (He.ga K "NotNow") (tC (.str (Str.ofString "no stand waits for an answer"))) E) tNext)
  (tSeq (tAsg (tSl (rSlL K) (tFld K (tVar 0) "stood") (tPart (tUn (rU fun i => .int (-i)) (tC (.int 2)))) tNoPart) (gUnl K 2 (gCons (gName 2) (gCons (gName 3) gNil))))
  (tSeq (tAsg (tLc (iTup K (tOp (rIxL K) (tFld K (tVar 0) "left") (tUn (rU fun i => .int (-i)) (tC (.int 1))))) (gName 5) (tTest (tOp rEq (tCall (sp_answer_to_move K) [] E0 (tCons (tVar 5) (tCons (tVar 2) (tCons (tVar 3) tNil)))) (tVar 1))) (tVar 5) [5]) (gName 4))
  (tSeq (tIfS (tNot (tTruL K (tVar 4))) (tRz (He.ga K "Never") (tC (.str (Str.ofString "the thing could lie nowhere then"))) E) tNext)
  (tSeq (tDrop (tBM K "list" rAppend (tFld K (tVar 0) "words") (tCons (tVar 1) tNil)))
  (tDrop (tBM K "list" rAppend (tFld K (tVar 0) "left") (tCons (tCB (rTupleOf K) (tCons (tVar 4) tNil)) tNil)))))))))
theorem two_last : ∀ (st : List Int), 2 ≤ st.length → ∃ st0 e l, st = st0 ++ [e, l]
  | [], h => by simp at h
  | [_], h => by simp at h
  | [a, b], _ => ⟨[], a, b, rfl⟩
  | a :: b :: c :: r, _ => by
    obtain ⟨st0, e, l, h⟩ := two_last (b :: c :: r) (by simp)
    exact ⟨a :: st0, e, l, by rw [h]; rfl⟩
theorem pure_Search_answer {K : PySem.W.Frag} (T : SrF K) {vs : List V} {H : Hp} {Q : VK} {E : XK} (h : sp_Search_answer K vs H Q E) : t_Search_answer K E { nx := fun _ H' => Q .non H', rt := Q } (start N_Search_answer vs) H := by
  obtain ⟨x, v, rfl, ⟨rfl, q⟩ | ⟨dx, S, W, F, L, w, stA, ws, us, fs, f, rfl, r, hwl, hfl, hfl2, q1, q2⟩⟩ := h
  · exact ⟨_, rfl, .inr ⟨rfl, q⟩⟩
  refine ⟨_, rfl, .inl ⟨w, rfl, ?_⟩⟩
  refine ⟨_, rfl, x, dx, _, rfl, r.ins, rfl, x, dx, S, W, F, L, _, ws, us, _, rfl, r, _, rfl, ?_⟩
  by_cases hwt : ws.length + 1 < stA.length
  rotate_left
  · rw [decide_eq_false hwt]
    exact iteT (q1 hwt)
  rw [decide_eq_true hwt]
  refine iteF ?_
  obtain ⟨st, e, l, rfl⟩ := two_last stA (by omega)
  obtain ⟨q3, q4⟩ := q2 st e l rfl hwt
  refine ⟨_, rfl, x, SC K, dx, _, .ref S, rfl, r.ins, T.cl, T.ns, rfl, 2, rfl, -2, rfl, S, _, rfl, SqL.of r.hS, fun c nc => ?_⟩
  have ecut : cutV ((st ++ [e, l]).map V.int) (some (-2)) none = [V.int e, V.int l] := by
    rw [List.map_append]
    exact cut_two _ _ _
  rw [ecut]
  have e1 : Ex H (upd H c (.lst [.int e, .int l])) := Ex.new nc
  have hc1 : (upd H c (.lst [.int e, .int l])) c = some (.lst [.int e, .int l]) := upd_same
  have r1 := r.ex e1
  generalize upd H c (.lst [.int e, .int l]) = H1 at e1 hc1 r1 ⊢
  refine ⟨c, _, rfl, SqL.of hc1, rfl, _, _, rfl, _, [], rfl, rfl, ?_⟩
  obtain ⟨us', u, eus, hu, _⟩ := r1.hT.last
  have hF1 := r1.hF
  rw [eus, List.map_append] at hF1
  have hcmp : Evl.EvL (tLc (iTup K (tOp (rIxL K) (tFld K (tVar 0) "left") (tUn (rU fun i => .int (-i)) (tC (.int 1))))) (gName 5) (tTest (tOp rEq (tCall (sp_answer_to_move K) [] E0 (tCons (tVar 5) (tCons (tVar 2) (tCons (tVar 3) tNil)))) (tVar 1))) (tVar 5) [5]) [some (.ref x), some (vW w), some (.int e), some (.int l), none, none] H1 ((f.filter fun t => decide (mv t e l = w)).map V.int) := by
    have ht : Evl.Ev (tOp (rIxL K) (tFld K (tVar 0) "left") (tUn (rU fun i => .int (-i)) (tC (.int 1)))) [some (.ref x), some (vW w), some (.int e), some (.int l), none, none] H1 (.ref u) := fun H2 e2 Q2 q2 =>
      ⟨_, rfl, x, SC K, dx, _, .ref F, rfl, e2 _ _ r1.ins, T.cl, T.nf, rfl, 1, rfl, F, _, -1, .ref u, rfl, rfl, SqL.of (e2 _ _ hF1), atI_last _ _, q2 H2 (Ex.refl H2)⟩
    refine el_tup (K := K) (a := u) (fun t => decide (mv t e l = w)) V.int ht (SqT.of hu) (by omega) (fun _ => rfl) (fun n H2 e2 _ => ?_) (fun n H2 e2 _ _ => Evl.ev_var rfl)
    intro H3 e3 Q3 q3
    refine ⟨_, rfl, _, rfl, _, rfl, n, e, l, rfl, _, rfl, rfl, _, rfl, ?_⟩
    have ed : decide (vW (mv n e l) = vW w) = decide (mv n e l = w) := decide_eq_decide.mpr ⟨vW_inj, fun z => by rw [z]⟩
    rw [ed]
    exact q3 H3 (Ex.refl H3)
  dsimp only [gName, gCons, gNil, tSeq, tAsg]
  refine hcmp H1 (Ex.refl H1) _ fun D H2 nD e2 hD => ?_
  have r2 := r1.ex e2
  have hlen : (f.filter fun t => decide (mv t e l = w)).length ≤ f.length := List.length_filter_le _ _
  generalize (f.filter fun t => decide (mv t e l = w)) = g at hD q4 q3 hlen
  refine ⟨_, rfl, _, .inl ⟨_, SqL.of hD, rfl⟩, ?_⟩
  by_cases hne : g = []
  · subst hne
    exact iteT (q3 rfl H2 (e1.trans e2))
  have eg : (!(g.map V.int).isEmpty) = true := by
    cases g with
    | nil => exact absurd rfl hne
    | cons y z => rfl
  rw [eg]
  refine iteF ?_
  refine ⟨_, rfl, x, SC K, dx, _, .ref W, rfl, r2.ins, T.cl, T.nw, rfl, .inl ⟨rfl, _, SqL.of r2.hW⟩, _, rfl, W, _, _, rfl, rfl, r2.hW, ?_, ?_⟩
  · rw [List.length_map]
    exact small1000 (by omega)
  have hx3 : (upd H2 W (.lst (ws.map vW ++ [vW w]))) x = some (.ins (SC K) dx [("length", .int L), ("stood", .ref S), ("words", .ref W), ("left", .ref F)]) := by
    rw [upd_ne (ne_of r2.ins r2.hW (by intro z; cases z))]
    exact r2.ins
  have hF3 : (upd H2 W (.lst (ws.map vW ++ [vW w]))) F = some (.lst (us.map V.ref)) := by
    rw [upd_ne r2.nWF.symm]
    exact r2.hF
  have nDW : D ≠ W := fun z => by
    rw [z, r1.hW] at nD
    cases nD
  have nDF : D ≠ F := fun z => by
    rw [z, r1.hF] at nD
    cases nD
  have hD3 : (upd H2 W (.lst (ws.map vW ++ [vW w]))) D = some (.lst (g.map V.int)) := by
    rw [upd_ne nDW]
    exact hD
  have hS3 : (upd H2 W (.lst (ws.map vW ++ [vW w]))) S = some (.lst ((st ++ [e, l]).map V.int)) := by
    rw [upd_ne r2.nSW]
    exact r2.hS
  have hW3 : (upd H2 W (.lst (ws.map vW ++ [vW w]))) W = some (.lst ((ws ++ [w]).map vW)) := by
    rw [upd_same, List.map_append]
    rfl
  have hT3 : AtTups (upd H2 W (.lst (ws.map vW ++ [vW w]))) us (fs ++ [f]) := r2.hT.imp fun a xs h => by
    rw [upd_ne (ne_of h r2.hW (by intro z; cases z))]
    exact h
  have k3 : Kp [W, F] H (upd H2 W (.lst (ws.map vW ++ [vW w]))) := (Kp.ex (e1.trans e2)).trans (Kp.one.sub fun a ha => by
    rw [List.mem_singleton.mp ha]
    exact List.mem_cons_self)
  generalize upd H2 W (.lst (ws.map vW ++ [vW w])) = H3 at hx3 hF3 hD3 hS3 hW3 hT3 k3 ⊢
  refine ⟨_, rfl, x, SC K, dx, _, .ref F, rfl, hx3, T.cl, T.nf, rfl, .inl ⟨rfl, _, SqL.of hF3⟩, _, rfl, D, _, rfl, .inl ⟨SqL.of hD3, fun u' nu' => ?_⟩⟩
  have e4 : Ex H3 (upd H3 u' (.tup (g.map V.int))) := Ex.new nu'
  have hu4 : (upd H3 u' (.tup (g.map V.int))) u' = some (.tup (g.map V.int)) := upd_same
  generalize upd H3 u' (.tup (g.map V.int)) = H4 at e4 hu4 ⊢
  have hF4 := e4 _ _ hF3
  refine ⟨F, _, _, rfl, rfl, hF4, ?_, ?_⟩
  · have := r.hT.len
    rw [List.length_append] at this
    rw [List.length_map, this]
    exact small1000 (by show fs.length + 1 ≤ 1000; omega)
  · have kt : ∀ a xs, H4 a = some (.tup xs) → (upd H4 F (.lst (us.map V.ref ++ [.ref u']))) a = some (.tup xs) := fun a xs h => by
      rw [upd_ne (ne_of h hF4 (by intro z; cases z))]
      exact h
    refine q4 hne _ u' ((k3.trans (Kp.ex e4)).trans (Kp.one.sub fun a ha => by
      rw [List.mem_singleton.mp ha]
      exact List.mem_cons_of_mem _ List.mem_cons_self)) ⟨?_, ?_, ?_, ?_, ?_, r.nSW, r.nSF, r.nWF⟩
    · rw [upd_ne (ne_of (e4 _ _ hx3) hF4 (by intro z; cases z))]
      exact e4 _ _ hx3
    · rw [upd_ne r.nSF]
      exact e4 _ _ hS3
    · rw [upd_ne r.nWF]
      exact e4 _ _ hW3
    · rw [upd_same, List.map_append]
      rfl
    · exact ((hT3.imp fun a xs h => e4 _ _ h).snoc hu4).imp kt
theorem len_Search_answer {K : PySem.W.Frag} {vs : List V} {H : Hp} {Q : VK} {E : XK} (h : sp_Search_answer K vs H Q E) : vs.length = 2 := by
  obtain ⟨x, v, rfl, _⟩ := h
  rfl
def sp_Search_back (K : PySem.W.Frag) : Sp := fun vs H Q E => ∃ (x dx S W F : Addr) (L : Int) (st : List Int) (ws : List Wo) (us : List Addr) (fs : List (List Int)), vs = [.ref x] ∧ Sr (SC K) H x dx S W F L st ws us fs ∧ (st = [] → E (.ref (He.ga K "NothingLeft")) none H) ∧
  (st ≠ [] → (ws.length + 1 < st.length ∨ st.length = 1) → ∀ H', Kp [S] H H' → Sr (SC K) H' x dx S W F L st.dropLast ws us fs → Q .non H') ∧
  (st ≠ [] → ¬ (ws.length + 1 < st.length ∨ st.length = 1) → ws ≠ [] ∧ fs ≠ [] ∧ ∀ H', Kp [W, F] H H' → Sr (SC K) H' x dx S W F L st ws.dropLast us.dropLast fs.dropLast → Q .non H')
abbrev N_Search_back : List Str := ["self"]
def t_Search_back (K : PySem.W.Frag) (E : XK) : TS := (tSeq (tIfS (tNot (tTruL K (tFld K (tVar 0) "stood"))) (tRz (He.ga K "NothingLeft") (tC (.str (Str.ofString "nothing was done that is not taken back"))) E) tNext)
  (tIfS (tOr (tB (tMeth (He.ga K "Search") "waits" (sp_Search_waits K) [] E0 (tVar 0) tNil)) (tTest (tOp rEq (tCB (rLenQ K) (tCons (tFld K (tVar 0) "stood") tNil)) (tC (.int 1))))) (tDrop (tBM0 K "list" rPop (tFld K (tVar 0) "stood"))) (tSeq (tDrop (tBM0 K "list" rPop (tFld K (tVar 0) "words")))
  (tDrop (tBM0 K "list" rPop (tFld K (tVar 0) "left"))))))
theorem last_at {xs : List V} (h : xs ≠ []) : ∃ y, xs[xs.length - 1]? = some y := by
  have : 0 < xs.length := List.length_pos_iff.mpr h
  exact ⟨_, List.getElem?_eq_getElem (by omega)⟩
theorem pure_Search_back {K : PySem.W.Frag} (T : SrF K) {vs : List V} {H : Hp} {Q : VK} {E : XK} (h : sp_Search_back K vs H Q E) : t_Search_back K E { nx := fun _ H' => Q .non H', rt := Q } (start N_Search_back vs) H := by
  obtain ⟨x, dx, S, W, F, L, st, ws, us, fs, rfl, r, q1, q2, q3⟩ := h
  refine ⟨_, rfl, x, SC K, dx, _, .ref S, rfl, r.ins, T.cl, T.ns, rfl, _, .inl ⟨_, SqL.of r.hS, rfl⟩, ?_⟩
  by_cases hst : st = []
  · subst hst
    exact iteT (q1 rfl)
  have e1 : (!(st.map V.int).isEmpty) = true := by
    cases st with
    | nil => exact absurd rfl hst
    | cons y z => rfl
  rw [e1]
  refine iteF ?_
  have hS0 : st.map V.int ≠ [] := fun z => hst (List.map_eq_nil_iff.mp z)
  have popS : (ws.length + 1 < st.length ∨ st.length = 1) → tDrop (tBM0 K "list" rPop (tFld K (tVar 0) "stood")) { nx := fun _ H' => Q .non H', rt := Q } (start N_Search_back [.ref x]) H := fun hc => by
    obtain ⟨y, hy⟩ := last_at hS0
    refine ⟨_, rfl, x, SC K, dx, _, .ref S, rfl, r.ins, T.cl, T.ns, rfl, .inl ⟨rfl, _, SqL.of r.hS⟩, S, _, y, rfl, rfl, r.hS, hy, ?_⟩
    refine q2 hst hc _ Kp.one ⟨?_, ?_, ?_, ?_, r.hT.imp fun a xs h => ?_, r.nSW, r.nSF, r.nWF⟩
    · rw [upd_ne (ne_of r.ins r.hS (by intro z; cases z))]
      exact r.ins
    · rw [upd_same, List.map_dropLast]
    · rw [upd_ne r.nSW.symm]
      exact r.hW
    · rw [upd_ne r.nSF.symm]
      exact r.hF
    · rw [upd_ne (ne_of h r.hS (by intro z; cases z))]
      exact h
  refine ⟨_, rfl, x, dx, _, rfl, r.ins, rfl, x, dx, S, W, F, L, st, ws, us, fs, rfl, r, _, rfl, ?_⟩
  by_cases hw : ws.length + 1 < st.length
  · rw [decide_eq_true hw]
    exact iteT (popS (.inl hw))
  rw [decide_eq_false hw]
  refine iteF ⟨_, rfl, x, SC K, dx, _, .ref S, rfl, r.ins, T.cl, T.ns, rfl, S, _, rfl, .inl (SqL.of r.hS), rfl, _, rfl, ?_⟩
  by_cases h1 : st.length = 1
  · have e : decide ((V.int (((st.map V.int).length : Nat) : Int) : V) = V.int 1) = true := decide_eq_true (by rw [List.length_map, h1]; rfl)
    rw [e]
    exact iteT (popS (.inr h1))
  have e : decide ((V.int (((st.map V.int).length : Nat) : Int) : V) = V.int 1) = false := decide_eq_false (fun z => h1 (by have := V.int.inj z; rw [List.length_map] at this; omega))
  rw [e]
  obtain ⟨hws, hfs, q4⟩ := q3 hst (fun z => z.elim hw h1)
  have hW0 : ws.map vW ≠ [] := fun z => hws (List.map_eq_nil_iff.mp z)
  obtain ⟨y, hy⟩ := last_at hW0
  refine iteF ⟨_, rfl, x, SC K, dx, _, .ref W, rfl, r.ins, T.cl, T.nw, rfl, .inl ⟨rfl, _, SqL.of r.hW⟩, W, _, y, rfl, rfl, r.hW, hy, ?_⟩
  have hx2 : (upd H W (.lst (ws.map vW).dropLast)) x = some (.ins (SC K) dx [("length", .int L), ("stood", .ref S), ("words", .ref W), ("left", .ref F)]) := by
    rw [upd_ne (ne_of r.ins r.hW (by intro z; cases z))]
    exact r.ins
  have hF2 : (upd H W (.lst (ws.map vW).dropLast)) F = some (.lst (us.map V.ref)) := by
    rw [upd_ne r.nWF.symm]
    exact r.hF
  have hS2 : (upd H W (.lst (ws.map vW).dropLast)) S = some (.lst (st.map V.int)) := by
    rw [upd_ne r.nSW]
    exact r.hS
  have hW2 : (upd H W (.lst (ws.map vW).dropLast)) W = some (.lst (ws.dropLast.map vW)) := by rw [upd_same, List.map_dropLast]
  have hT2 : AtTups (upd H W (.lst (ws.map vW).dropLast)) us fs := r.hT.imp fun a xs h => by
    rw [upd_ne (ne_of h r.hW (by intro z; cases z))]
    exact h
  have k2 : Kp [W, F] H (upd H W (.lst (ws.map vW).dropLast)) := Kp.one.sub fun a ha => by
    rw [List.mem_singleton.mp ha]
    exact List.mem_cons_self
  generalize upd H W (.lst (ws.map vW).dropLast) = H2 at hx2 hF2 hS2 hW2 hT2 k2 ⊢
  have hU0 : us.map V.ref ≠ [] := fun z => hfs (by
    have := hT2.len
    rw [List.map_eq_nil_iff.mp z] at this
    exact List.length_eq_zero_iff.mp this.symm)
  obtain ⟨y2, hy2⟩ := last_at hU0
  refine ⟨_, rfl, x, SC K, dx, _, .ref F, rfl, hx2, T.cl, T.nf, rfl, .inl ⟨rfl, _, SqL.of hF2⟩, F, _, y2, rfl, rfl, hF2, hy2, ?_⟩
  refine q4 _ (k2.trans (Kp.one.sub fun a ha => by
    rw [List.mem_singleton.mp ha]
    exact List.mem_cons_of_mem _ List.mem_cons_self)) ⟨?_, ?_, ?_, ?_, hT2.dropLast.imp fun a xs h => ?_, r.nSW, r.nSF, r.nWF⟩
  · rw [upd_ne (ne_of hx2 hF2 (by intro z; cases z))]
    exact hx2
  · rw [upd_ne r.nSF]
    exact hS2
  · rw [upd_ne r.nWF]
    exact hW2
  · rw [upd_same, List.map_dropLast]
  · rw [upd_ne (ne_of h hF2 (by intro z; cases z))]
    exact h
theorem len_Search_back {K : PySem.W.Frag} {vs : List V} {H : Hp} {Q : VK} {E : XK} (h : sp_Search_back K vs H Q E) : vs.length = 1 := by
  obtain ⟨x, dx, S, W, F, L, st, ws, us, fs, rfl, _⟩ := h
  rfl
def sp_Search_stands (K : PySem.W.Frag) : Sp := fun vs H Q _ => ∃ (x dx S W F : Addr) (L : Int) (st : List Int) (ws : List Wo) (us : List Addr) (fs : List (List Int)), vs = [.ref x] ∧ Sr (SC K) H x dx S W F L st ws us fs ∧ ∀ p H', H p = none → Ex H H' → H' p = some (.lst (st.map V.int)) → Q (.ref p) H'
abbrev N_Search_stands : List Str := ["self"]
def t_Search_stands (K : PySem.W.Frag) : TS := (tRet (tCB (rListOf K) (tCons (tFld K (tVar 0) "stood") tNil)))
theorem pure_Search_stands {K : PySem.W.Frag} (T : SrF K) {vs : List V} {H : Hp} {Q : VK} {E : XK} (h : sp_Search_stands K vs H Q E) : t_Search_stands K { nx := fun _ H' => Q .non H', rt := Q } (start N_Search_stands vs) H := by
  obtain ⟨x, dx, S, W, F, L, st, ws, us, fs, rfl, r, q⟩ := h
  exact ⟨_, rfl, x, SC K, dx, _, .ref S, rfl, r.ins, T.cl, T.ns, rfl, S, _, rfl, .inl (SqL.of r.hS), fun p np => q p _ np (Ex.new np) upd_same⟩
theorem len_Search_stands {K : PySem.W.Frag} {vs : List V} {H : Hp} {Q : VK} {E : XK} (h : sp_Search_stands K vs H Q E) : vs.length = 1 := by
  obtain ⟨x, dx, S, W, F, L, st, ws, us, fs, rfl, _⟩ := h
  rfl
def sp_Search_answers (K : PySem.W.Frag) : Sp := fun vs H Q _ => ∃ (x dx S W F : Addr) (L : Int) (st : List Int) (ws : List Wo) (us : List Addr) (fs : List (List Int)), vs = [.ref x] ∧ Sr (SC K) H x dx S W F L st ws us fs ∧ ∀ p H', H p = none → Ex H H' → H' p = some (.lst (ws.map vW)) → Q (.ref p) H'
abbrev N_Search_answers : List Str := ["self"]
def t_Search_answers (K : PySem.W.Frag) : TS := (tRet (tCB (rListOf K) (tCons (tFld K (tVar 0) "words") tNil)))
theorem pure_Search_answers {K : PySem.W.Frag} (T : SrF K) {vs : List V} {H : Hp} {Q : VK} {E : XK} (h : sp_Search_answers K vs H Q E) : t_Search_answers K { nx := fun _ H' => Q .non H', rt := Q } (start N_Search_answers vs) H := by
  obtain ⟨x, dx, S, W, F, L, st, ws, us, fs, rfl, r, q⟩ := h
  exact ⟨_, rfl, x, SC K, dx, _, .ref W, rfl, r.ins, T.cl, T.nw, rfl, W, _, rfl, .inl (SqL.of r.hW), fun p np => q p _ np (Ex.new np) upd_same⟩
theorem len_Search_answers {K : PySem.W.Frag} {vs : List V} {H : Hp} {Q : VK} {E : XK} (h : sp_Search_answers K vs H Q E) : vs.length = 1 := by
  obtain ⟨x, dx, S, W, F, L, st, ws, us, fs, rfl, _⟩ := h
  rfl
def sp_Search_can_lie (K : PySem.W.Frag) : Sp := fun vs H Q _ => ∃ (x dx S W F : Addr) (L : Int) (st : List Int) (ws : List Wo) (us : List Addr) (fs : List (List Int)) (f : List Int), vs = [.ref x] ∧ Sr (SC K) H x dx S W F L st ws us (fs ++ [f]) ∧ ∀ p, H p = some (.tup (f.map V.int)) → Q (.ref p) H
abbrev N_Search_can_lie : List Str := ["self"]
def t_Search_can_lie (K : PySem.W.Frag) : TS := (tRet (tOp (rIxL K) (tFld K (tVar 0) "left") (tUn (rU fun i => .int (-i)) (tC (.int 1)))))
theorem pure_Search_can_lie {K : PySem.W.Frag} (T : SrF K) {vs : List V} {H : Hp} {Q : VK} {E : XK} (h : sp_Search_can_lie K vs H Q E) : t_Search_can_lie K { nx := fun _ H' => Q .non H', rt := Q } (start N_Search_can_lie vs) H := by
  obtain ⟨x, dx, S, W, F, L, st, ws, us, fs, f, rfl, r, q⟩ := h
  obtain ⟨us', u, rfl, hu, _⟩ := r.hT.last
  have hF := r.hF
  rw [List.map_append] at hF
  exact ⟨_, rfl, x, SC K, dx, _, .ref F, rfl, r.ins, T.cl, T.nf, rfl, 1, rfl, F, _, -1, .ref u, rfl, rfl, SqL.of hF, atI_last _ _, q u hu⟩
theorem len_Search_can_lie {K : PySem.W.Frag} {vs : List V} {H : Hp} {Q : VK} {E : XK} (h : sp_Search_can_lie K vs H Q E) : vs.length = 1 := by
  obtain ⟨x, dx, S, W, F, L, st, ws, us, fs, f, rfl, _⟩ := h
  rfl
def sp_Search___len__ (K : PySem.W.Frag) : Sp := fun vs H Q _ => ∃ (x dx S W F : Addr) (L : Int) (st : List Int) (ws : List Wo) (us : List Addr) (fs : List (List Int)), vs = [.ref x] ∧ Sr (SC K) H x dx S W F L st ws us fs ∧ Q (.int (st.length : Nat)) H
abbrev N_Search___len__ : List Str := ["self"]
def t_Search___len__ (K : PySem.W.Frag) : TS := (tRet (tCB (rLenQ K) (tCons (tFld K (tVar 0) "stood") tNil)))
theorem pure_Search___len__ {K : PySem.W.Frag} (T : SrF K) {vs : List V} {H : Hp} {Q : VK} {E : XK} (h : sp_Search___len__ K vs H Q E) : t_Search___len__ K { nx := fun _ H' => Q .non H', rt := Q } (start N_Search___len__ vs) H := by
  obtain ⟨x, dx, S, W, F, L, st, ws, us, fs, rfl, r, q⟩ := h
  refine ⟨_, rfl, x, SC K, dx, _, .ref S, rfl, r.ins, T.cl, T.ns, rfl, S, _, rfl, .inl (SqL.of r.hS), ?_⟩
  rw [List.length_map]
  exact q
theorem len_Search___len__ {K : PySem.W.Frag} {vs : List V} {H : Hp} {Q : VK} {E : XK} (h : sp_Search___len__ K vs H Q E) : vs.length = 1 := by
  obtain ⟨x, dx, S, W, F, L, st, ws, us, fs, rfl, _⟩ := h
  rfl
/-! ### == of an instance by its own def; repr of a truth -/
section
variable {X : Cx} {CX : CXT} {k k' : Nat} {C : Addr} {ps : List Str} {sp : Sp} {E : XK}
def rEqI (C : Addr) (sp : Sp) (E : XK) : R2 := fun x y H Q => ∃ a dx fs b, x = .ref a ∧ y = .ref b ∧ H a = some (.ins C dx fs) ∧ ((∃ dy gs, H b = some (.ins C dy gs)) ∨ ∃ ys, H b = some (.lst ys)) ∧ sp [.ref a, .ref b] H Q E
theorem op_eqI (O : OwnM X.prog X.w X.K X.mg X.base CX k C "__eq__" ps sp) (hl : PySem.W.notFirst X.K C (.type "list") = true) (hr : Room k' X.A) (hk : k ≤ k') (hx : Passes CX X E) : OpR X (compareOp .Eq) (rEqI C sp E) := by
  intro pins s σ H x y v u Q I rx ry h
  have ⟨f, fd, F, hm, hb⟩ := O.ex
  obtain ⟨a, dx, fs, b, rfl, rfl, ha, hbb, q⟩ := h
  cases (show v = Value.ref a from rx)
  cases (show u = Value.ref b from ry)
  have ⟨mA, ob, _, _, _, _⟩ := ins_get I.hok ha
  have ⟨od, J, _⟩ := ob.look
  have ⟨mm, hF⟩ := I.fr
  have run : wpAny (model X.prog X.w) X.A (call (.ref f) [.ref a, .ref b]) (PySem.W.CmpBack (EP X pins σ Q)) X.xe s := by
    refine wpAny_mono (wpAny_call (run_fnR (us := [.ref a, .ref b]) (vs := [.ref a, .ref b]) (FnOk.raw F hb .nil) (hr.mono hk) hx I (.cons rfl (.cons rfl .nil)) q)) (fun w s' z => ?_) fun _ _ x => x
    have ⟨z', H', I', rz, qz⟩ := z
    exact SlX.cmpback rz ⟨z', H', I', rz, qz⟩
  show wpAny _ _ (richCompare .Eq (.ref a) (.ref b)) _ _ _
  rcases hbb with ⟨dy, gs, hb'⟩ | ⟨ys, hb'⟩
  · have ⟨mB, ob2, _, _, _, _⟩ := ins_get I.hok hb'
    have ⟨od2, J2, _⟩ := ob2.look
    exact PySem.W.cmp_K (op := .Eq) (tb := .ref C) (hr.mono hk).units0 hF I.ok.mod.kin J J2.type (by unfold PySem.W.notFirst; simp) hm.at_ hm.fn run
  · have ⟨_, its, n, _, hget⟩ := I.lstM hb'
    have L : PySem.W.Looks (model X.prog X.w) s.heap (typeOf (.ref b)) (.type "list") := fun A Q E s k q => wpAny_typeOf_ref (k _ _ hget.2) q
    exact PySem.W.cmp_K (op := .Eq) (tb := .type "list") (hr.mono hk).units0 hF I.ok.mod.kin J L hl hm.at_ hm.fn run
theorem call_reprB : CallR X (.builtin "repr") (fun xs H Q => ∃ b : Bool, xs = [.bl b] ∧ Q (.str (if b then "True" else "False")) H) := by
  intro pins s σ H xs us Q I r h
  obtain ⟨b, rfl, q⟩ := h
  obtain ⟨u, rfl, ru⟩ := r.one
  cases (show u = Value.bool b from ru)
  exact PySem.P.repr_of_bool ⟨.str _, H, I.tok _, ⟨_, rfl⟩, q⟩
end
abbrev rReprB : List V → Hp → VK → Prop := fun xs H Q => ∃ b : Bool, xs = [.bl b] ∧ Q (.str (if b then "True" else "False")) H
theorem bb_repr : bootBuiltins "repr" = some (.builtin "repr") := by decide +kernel
/-- what == and isinstance ask of the class -/
structure SrX (K : PySem.W.Frag) : Prop where
  nl0 : PySem.W.notFirst K (SC K) (.type "list") = true
  ca : PySem.W.findIn K (.ref (SC K)) "__class__" = some (some (.builtin "object.__class__"))
  cn : PySem.W.specialIn K (.builtin "object.__class__") "__get__" = some (some (.builtin "getset_descriptor.__get__"))
  ct : PySem.W.takesIn K (.builtin "object.__class__") = some true
  cm : PySem.W.mroIn K (SC K) (.type "object") = some true
  ki : PySem.W.kitOne K (.ref (SC K)) (.ref (SC K)) = some true
  kl : PySem.W.kitOne K (.type "list") (.ref (SC K)) = some false
def srXB (K : PySem.W.Frag) : Bool := PySem.W.notFirst K (SC K) (.type "list") && (He.eqO (PySem.W.findIn K (.ref (SC K)) "__class__") (some (some (.builtin "object.__class__"))) && (He.eqO (PySem.W.specialIn K (.builtin "object.__class__") "__get__") (some (some (.builtin "getset_descriptor.__get__"))) && (decide (PySem.W.takesIn K (.builtin "object.__class__") = some true) &&
  (decide (PySem.W.mroIn K (SC K) (.type "object") = some true) && (decide (PySem.W.kitOne K (.ref (SC K)) (.ref (SC K)) = some true) && decide (PySem.W.kitOne K (.type "list") (.ref (SC K)) = some false))))))
theorem srXB_ok {K : PySem.W.Frag} (h : srXB K = true) : SrX K := by
  have ⟨h1, h⟩ := He.ba h
  have ⟨h2, h⟩ := He.ba h
  have ⟨h3, h⟩ := He.ba h
  have ⟨h4, h⟩ := He.ba h
  have ⟨h5, h⟩ := He.ba h
  have ⟨h6, h7⟩ := He.ba h
  exact ⟨h1, He.eqO_ok h2, He.eqO_ok h3, of_decide_eq_true h4, of_decide_eq_true h5, of_decide_eq_true h6, of_decide_eq_true h7⟩
def sp_Search___eq__ (K : PySem.W.Frag) : Sp := fun vs H Q _ => ∃ (x dx S W F : Addr) (L : Int) (st : List Int) (ws : List Wo) (us : List Addr) (fs : List (List Int)) (b : Addr), vs = [.ref x, .ref b] ∧ Sr (SC K) H x dx S W F L st ws us fs ∧
  ((∃ ys, H b = some (.lst ys) ∧ Q (.bl false) H) ∨ ∃ (dy S' W' F' : Addr) (L' : Int) (st' : List Int) (ws' : List Wo) (us' : List Addr) (fs' : List (List Int)), Sr (SC K) H b dy S' W' F' L' st' ws' us' fs' ∧ Q (.bl (decide (L = L' ∧ st = st' ∧ ws = ws'))) H)
abbrev N_Search___eq__ : List Str := ["self", "other"]
def t_Search___eq__ (K : PySem.W.Frag) : TS := (tRet (tAndV (tCB (rIsi K) (tCons (tVar 1) (tCons (tC (.ref (He.ga K "Search"))) tNil))) (tAndV (tOp rEq (tFld K (tVar 0) "length") (tFld K (tVar 1) "length")) (tAndV (tOp (rEqD K) (tFld K (tVar 0) "stood") (tFld K (tVar 1) "stood")) (tOp (rEqD K) (tFld K (tVar 0) "words") (tFld K (tVar 1) "words"))))))
theorem pure_Search___eq__ {K : PySem.W.Frag} (T : SrF K) (TX : SrX K) {vs : List V} {H : Hp} {Q : VK} {E : XK} (h : sp_Search___eq__ K vs H Q E) : t_Search___eq__ K { nx := fun _ H' => Q .non H', rt := Q } (start N_Search___eq__ vs) H := by
  obtain ⟨x, dx, S, W, F, L, st, ws, us, fs, b, rfl, r, ⟨ys, hb, q⟩ | ⟨dy, S', W', F', L', st', ws', us', fs', r', q⟩⟩ := h
  · exact ⟨_, rfl, .ref b, .ref (SC K), _, _, false, rfl, .own _, .base (.lst hb), TX.kl, false, rfl, iteF q⟩
  · refine ⟨_, rfl, .ref b, .ref (SC K), _, _, true, rfl, .own _, .base (.ins r'.ins T.cl TX.ca TX.cn TX.ct TX.cm), TX.ki, true, rfl, iteT ?_⟩
    refine ⟨_, rfl, x, SC K, dx, _, .int L, rfl, r.ins, T.cl, T.nl, rfl, _, rfl, b, SC K, dy, _, .int L', rfl, r'.ins, T.cl, T.nl, rfl, rfl, _, rfl, ?_⟩
    by_cases hL : L = L'
    · have e : decide ((V.int L : V) = V.int L') = true := decide_eq_true (by rw [hL])
      rw [e]
      refine iteT ⟨_, rfl, x, SC K, dx, _, .ref S, rfl, r.ins, T.cl, T.ns, rfl, _, rfl, b, SC K, dy, _, .ref S', rfl, r'.ins, T.cl, T.ns, rfl, ?_⟩
      refine eqII (SqL.of r.hS) (SqL.of r'.hS) ⟨_, rfl, ?_⟩
      by_cases hs : st = st'
      · rw [decide_eq_true hs]
        refine iteT ⟨_, rfl, x, SC K, dx, _, .ref W, rfl, r.ins, T.cl, T.nw, rfl, _, rfl, b, SC K, dy, _, .ref W', rfl, r'.ins, T.cl, T.nw, rfl, ?_⟩
        refine eqWW (SqL.of r.hW) (SqL.of r'.hW) ?_
        have e2 : decide (ws = ws') = decide (L = L' ∧ st = st' ∧ ws = ws') := decide_eq_decide.mpr ⟨fun z => ⟨hL, hs, z⟩, fun z => z.2.2⟩
        rw [e2]
        exact q
      · rw [decide_eq_false hs]
        rw [decide_eq_false (fun z => hs z.2.1)] at q
        exact iteF q
    · have e : decide ((V.int L : V) = V.int L') = false := decide_eq_false (fun z => hL (V.int.inj z))
      rw [e]
      rw [decide_eq_false (fun z => hL z.1)] at q
      exact iteF q
theorem len_Search___eq__ {K : PySem.W.Frag} {vs : List V} {H : Hp} {Q : VK} {E : XK} (h : sp_Search___eq__ K vs H Q E) : vs.length = 2 := by
  obtain ⟨x, dx, S, W, F, L, st, ws, us, fs, b, rfl, _⟩ := h
  rfl
def sp__law_cell_at (K : PySem.W.Frag) : Sp := fun vs H Q _ => ∃ (a : Addr) (ns : List Int) (k : Int), vs = [.ref a, .int k] ∧ SqL K H a (ns.map V.int) ∧ 0 ≤ k ∧ ∀ v : Int, Q (.int v) H
abbrev N__law_cell_at : List Str := ["script", "k"]
def t__law_cell_at (K : PySem.W.Frag) : TS := (tSeq (tIfS (tTest (tOp (rI0 fun i j => .bl (decide (i < j))) (tVar 1) (tCB (rLenQ K) (tCons (tVar 0) tNil)))) (tRet (tOp (rIxL K) (tVar 0) (tVar 1))) tNext)
  (tRet (tC (.int 0))))
theorem pure__law_cell_at {K : PySem.W.Frag} {vs : List V} {H : Hp} {Q : VK} {E : XK} (h : sp__law_cell_at K vs H Q E) : t__law_cell_at K { nx := fun _ H' => Q .non H', rt := Q } (start N__law_cell_at vs) H := by
  obtain ⟨a, ns, k, rfl, hS, hk, q⟩ := h
  refine ⟨_, rfl, _, rfl, a, _, rfl, .inl hS, _, _, rfl, rfl, _, rfl, ite2 (fun e => ?_) (fun _ => ?_)⟩
  · have e1 := of_decide_eq_true e
    rw [List.length_map] at e1
    obtain ⟨j, rfl⟩ := Int.eq_ofNat_of_zero_le hk
    have hj : j < ns.length := by omega
    refine ⟨_, rfl, _, rfl, a, _, _, .int ns[j], rfl, rfl, hS, atI_nat ?_, q _⟩
    rw [List.getElem?_map, List.getElem?_eq_getElem hj]
    rfl
  · exact q 0
theorem len__law_cell_at {K : PySem.W.Frag} {vs : List V} {H : Hp} {Q : VK} {E : XK} (h : sp__law_cell_at K vs H Q E) : vs.length = 2 := by
  obtain ⟨a, ns, k, rfl, _⟩ := h
  rfl
def sp__law_draws (K : PySem.W.Frag) : Sp := fun vs H Q _ => ∃ c : Int, vs = [.int c, .int 400, .int 1000] ∧ ∀ p H' (ds : List Int), H p = none → Ex H H' → H' p = some (.lst (ds.map V.int)) → ds.length = 400 → Q (.ref p) H'
abbrev N__law_draws : List Str := ["cell", "many", "size", "found", "rest", "stirred", "k"]
def t__law_draws (K : PySem.W.Frag) : TS := (tSeq (tAsg (tLst tNil) (gName 3))
  (tSeq (tAsg (tOp (rI CMul fun i j => .int (i * j)) (tVar 0) (tCB rInt1 (tCons (tOp (rI0 fun i j => .bl (decide (j ≤ i))) (tVar 0) (tOp (rI CPow fun i j => .int (i ^ j.toNat)) (tC (.int 10)) (tC (.int 18)))) tNil))) (gName 4))
  (tSeq (tAsg (tOp (rI (fun _ j => 0 < j) fun i j => .int (i % j)) (tVar 0) (tC (.int 2305843009213693951))) (gName 5))
  (tSeq (tFor (iRng1 (tCons (tOp (rI0 fun i j => .int (i + j)) (tVar 1) (tC (.int 3))) tNil)) (gName 6) (tSeq (tAsg (tOp (rI (fun _ j => 0 < j) fun i j => .int (i % j)) (tOp (rI0 fun i j => .int (i + j)) (tOp (rI0 fun i j => .int (i + j)) (tOp (rI0 fun i j => .int (i + j)) (tOp (rI CMul fun i j => .int (i * j)) (tVar 5) (tVar 5)) (tOp (rI CMul fun i j => .int (i * j)) (tC (.int 48271)) (tVar 5))) (tVar 6)) (tC (.int 1))) (tC (.int 2305843009213693951))) (gName 5))
  (tIfS (tAnd (tTest (tOp (rI0 fun i j => .bl (decide (j < i))) (tVar 6) (tC (.int 2)))) (tTest (tOp (rI0 fun i j => .bl (decide (j < i))) (tVar 4) (tC (.int 0))))) (tSeq (tDrop (tBM K "list" rAppend (tVar 3) (tCons (tOp (rI (fun _ j => 0 < j) fun i j => .int (i % j)) (tVar 4) (tVar 2)) tNil)))
  (tAsg (tOp (rI CDiv fun i j => .int (i / j)) (tVar 4) (tVar 2)) (gName 4))) (tIfS (tTest (tOp (rI0 fun i j => .bl (decide (j < i))) (tVar 6) (tC (.int 2)))) (tDrop (tBM K "list" rAppend (tVar 3) (tCons (tOp (rI (fun _ j => 0 < j) fun i j => .int (i % j)) (tOp (rI CDiv fun i j => .int (i / j)) (tVar 5) (tC (.int 4096))) (tVar 2)) tNil))) tNext))))
  (tRet (tVar 3))))))
theorem pure__law_draws {K : PySem.W.Frag} {vs : List V} {H : Hp} {Q : VK} {E : XK} (h : sp__law_draws K vs H Q E) : t__law_draws K { nx := fun _ H' => Q .non H', rt := Q } (start N__law_draws vs) H := by
  obtain ⟨c, rfl, q⟩ := h
  refine ⟨Nat.zero_le _, fun f nf => ?_⟩
  refine ⟨_, rfl, _, rfl, 10, 18, rfl, rfl, ⟨by decide, by decide, by decide⟩, _, _, rfl, rfl, .inr ⟨_, rfl, ?_⟩⟩
  refine ⟨_, _, rfl, rfl, .inr ?_, ?_⟩
  · by_cases hc : decide ((10 : Int) ^ Int.toNat 18 ≤ c) = true
    · rw [if_pos hc]
      exact ⟨by decide, by decide⟩
    · rw [if_neg hc]
      exact ⟨by decide, by decide⟩
  refine ⟨_, rfl, _, _, rfl, rfl, (by decide : (0 : Int) < 2305843009213693951), ?_⟩
  refine ⟨_, rfl, _, _, rfl, rfl, 403, rfl, by decide, by decide, ?_⟩
  refine for_range (lo := 0) (n := (403 : Int).toNat) (fun i σ H' => ∃ (r s : Int) (ds : List Int) (kv : Option V), σ = [some (.int c), some (.int 400), some (.int 1000), some (.ref f), some (.int r), some (.int s), kv] ∧ 0 ≤ s ∧ s < 2305843009213693951 ∧ Ex H H' ∧ H' f = some (.lst (ds.map V.int)) ∧ ds.length = i - 3)
    ⟨_, _, [], none, rfl, Int.emod_nonneg _ (by decide), Int.emod_lt_of_pos _ (by decide), Ex.new nf, upd_same, rfl⟩ ?_ ?_
  · rintro i σ H' hi ⟨r, s, ds, kv, rfl, h0, h1, he, hf, hl⟩
    have hi2 : i < 403 := hi
    have bs : -(2 ^ 64) < s ∧ s < 2 ^ 64 := ⟨by omega, by omega⟩
    refine ⟨_, rfl, _, rfl, s, s, rfl, rfl, .inl bs, _, rfl, 48271, s, rfl, rfl, .inl ⟨by decide, by decide⟩, _, _, rfl, rfl, _, rfl, _, _, rfl, rfl, _, _, rfl, rfl, _, _, rfl, rfl, (by decide : (0 : Int) < 2305843009213693951), ?_⟩
    have s0 : 0 ≤ (s * s + 48271 * s + (0 + (i : Int)) + 1) % 2305843009213693951 := Int.emod_nonneg _ (by decide)
    have s1 : (s * s + 48271 * s + (0 + (i : Int)) + 1) % 2305843009213693951 < 2305843009213693951 := Int.emod_lt_of_pos _ (by decide)
    have hsz : (ds.map V.int).length < sizeLine := by
      rw [List.length_map]
      exact small1000 (by omega)
    refine ⟨_, rfl, _, _, rfl, rfl, _, rfl, ite2 (fun e => ?_) (fun e => ?_)⟩
    · have e1 : (2 : Int) < 0 + (i : Int) := of_decide_eq_true e
      refine ⟨_, rfl, _, _, rfl, rfl, _, rfl, ite2 (fun e2 => ?_) (fun e2 => ?_)⟩
      · refine ⟨_, rfl, .inl ⟨rfl, _, SqL.of hf⟩, _, rfl, _, rfl, _, _, rfl, rfl, (by decide : (0 : Int) < 1000), f, _, _, rfl, rfl, hf, hsz, ?_⟩
        refine ⟨_, rfl, _, rfl, _, _, rfl, rfl, ⟨by decide, by decide⟩, ?_⟩
        refine ⟨_, _, ds ++ [r % 1000], _, rfl, s0, s1, he.mut nf, ?_, ?_⟩
        · rw [upd_same, List.map_append]
          rfl
        · rw [List.length_append, hl]
          show i - 3 + 1 = i + 1 - 3
          omega
      · refine ⟨_, rfl, _, _, rfl, rfl, _, rfl, ite2 (fun e3 => ?_) (fun e3 => absurd e e3)⟩
        refine ⟨_, rfl, .inl ⟨rfl, _, SqL.of hf⟩, _, rfl, _, _, rfl, rfl, ⟨by decide, by decide⟩, _, rfl, _, _, rfl, rfl, (by decide : (0 : Int) < 1000), f, _, _, rfl, rfl, hf, hsz, ?_⟩
        refine ⟨_, _, ds ++ [(s * s + 48271 * s + (0 + (i : Int)) + 1) % 2305843009213693951 / 4096 % 1000], _, rfl, s0, s1, he.mut nf, ?_, ?_⟩
        · rw [upd_same, List.map_append]
          rfl
        · rw [List.length_append, hl]
          show i - 3 + 1 = i + 1 - 3
          omega
    · have e1 : ¬ (2 : Int) < 0 + (i : Int) := fun z => e (decide_eq_true z)
      dsimp only
      rw [if_neg Bool.false_ne_true]
      refine ⟨_, rfl, _, _, rfl, rfl, _, rfl, ite2 (fun e3 => absurd e3 e) (fun e3 => ?_)⟩
      refine ⟨r, _, ds, _, rfl, s0, s1, he, hf, ?_⟩
      omega
  · rintro σ H' ⟨r, s, ds, kv, rfl, h0, h1, he, hf, hl⟩
    exact ⟨_, rfl, q f H' ds nf he hf (hl.trans rfl)⟩
theorem len__law_draws {K : PySem.W.Frag} {vs : List V} {H : Hp} {Q : VK} {E : XK} (h : sp__law_draws K vs H Q E) : vs.length = 3 := by
  obtain ⟨c, rfl, _⟩ := h
  rfl
def sp__law_from (K : PySem.W.Frag) : Sp := fun vs H Q _ => ∃ (v : V) (l : Int), Sm v ∧ vs = [v, .int 1, .int l] ∧ Q (.bl (isPl v l)) H
abbrev N__law_from : List Str := ["thing", "least", "top"]
def t__law_from (K : PySem.W.Frag) : TS := (tRet (tAndV (tCB (rIsi K) (tCons (tVar 0) (tCons (tC (.ty "int")) tNil))) (tAndV (tNotV (tCB (rIsi K) (tCons (tVar 0) (tCons (tC (.ty "bool")) tNil)))) (tAndV (tOp (rI0 fun i j => .bl (decide (i ≤ j))) (tVar 1) (tVar 0)) (tOp (rI0 fun i j => .bl (decide (i ≤ j))) (tVar 0) (tVar 2))))))
theorem pure__law_from {K : PySem.W.Frag} {vs : List V} {H : Hp} {Q : VK} {E : XK} (h : sp__law_from K vs H Q E) : t__law_from K { nx := fun _ H' => Q .non H', rt := Q } (start N__law_from vs) H := by
  obtain ⟨v, l, hv, rfl, q⟩ := h
  cases hv with
  | int i =>
    refine ⟨_, rfl, .int i, .ty "int", _, _, true, rfl, .ty "int", .base (.int i), kit_ty (by decide +kernel), true, rfl, iteT ?_⟩
    refine ⟨_, rfl, .int i, .ty "bool", _, _, false, rfl, .ty "bool", .base (.int i), kit_ty (by decide +kernel), false, rfl, true, rfl, iteT ?_⟩
    refine ⟨_, rfl, _, rfl, 1, i, rfl, rfl, decide ((1 : Int) ≤ i), rfl, ?_⟩
    by_cases h1 : (1 : Int) ≤ i
    · rw [decide_eq_true h1]
      refine iteT ⟨_, rfl, _, rfl, i, l, rfl, rfl, ?_⟩
      have e : decide (i ≤ l) = isPl (.int i) l := by simp [isPl, h1]
      show Q (.bl (decide (i ≤ l))) H
      rw [e]
      exact q
    · rw [decide_eq_false h1]
      refine iteF ?_
      have e : false = isPl (.int i) l := by simp [isPl, h1]
      show Q (.bl false) H
      rw [e]
      exact q
  | bl b =>
    refine ⟨_, rfl, .bl b, .ty "int", _, _, true, rfl, .ty "int", .base (.bl b), kit_ty (by decide +kernel), true, rfl, iteT ?_⟩
    exact ⟨_, rfl, .bl b, .ty "bool", _, _, true, rfl, .ty "bool", .base (.bl b), kit_ty (by decide +kernel), true, rfl, false, rfl, iteF q⟩
  | non => exact ⟨_, rfl, .non, .ty "int", _, _, false, rfl, .ty "int", .base .non, kit_ty (by decide +kernel), false, rfl, iteF q⟩
  | str x => exact ⟨_, rfl, .str x, .ty "int", _, _, false, rfl, .ty "int", .base (.str x), kit_ty (by decide +kernel), false, rfl, iteF q⟩
theorem len__law_from {K : PySem.W.Frag} {vs : List V} {H : Hp} {Q : VK} {E : XK} (h : sp__law_from K vs H Q E) : vs.length = 3 := by
  obtain ⟨v, l, _, rfl, _⟩ := h
  rfl
def sp__law_bag (K : PySem.W.Frag) : Sp := fun vs H Q _ => ∃ (a : Addr) (ns : List Int) (k : Int), vs = [.ref a, .int k] ∧ SqL K H a (ns.map V.int) ∧ 0 ≤ k ∧ ∀ p H', H p = none → Ex H H' → Bag1 H' p → Q (.ref p) H'
abbrev N__law_bag : List Str := ["script", "k"]
def t__law_bag (K : PySem.W.Frag) : TS := (tRet (tLst (tCons (tCall (sp__law_draws K) [] E0 (tCons (tCall (sp__law_cell_at K) [] E0 (tCons (tVar 0) (tCons (tVar 1) tNil))) (tCons (tC (.int 400)) (tCons (tC (.int 1000)) tNil)))) (tCons (tC (.int 0)) tNil))))
theorem pure__law_bag {K : PySem.W.Frag} {vs : List V} {H : Hp} {Q : VK} {E : XK} (h : sp__law_bag K vs H Q E) : t__law_bag K { nx := fun _ H' => Q .non H', rt := Q } (start N__law_bag vs) H := by
  obtain ⟨a, ns, k, rfl, hS, hk, q⟩ := h
  refine ⟨_, rfl, _, rfl, a, ns, k, rfl, hS, hk, fun v => ?_⟩
  refine ⟨v, rfl, fun d H1 ds nd e1 hd hl => ?_⟩
  refine ⟨by show 2 ≤ sizeLine; decide, fun p np => ?_⟩
  refine q p _ (fresh_back e1 np) (e1.trans (Ex.new np)) ⟨d, 0, ds, upd_same, ?_, hl⟩
  rw [upd_ne (ne_of_none hd np)]
  exact hd
theorem len__law_bag {K : PySem.W.Frag} {vs : List V} {H : Hp} {Q : VK} {E : XK} (h : sp__law_bag K vs H Q E) : vs.length = 2 := by
  obtain ⟨a, ns, k, rfl, _⟩ := h
  rfl
def sp__law_bags (K : PySem.W.Frag) : Sp := fun vs H Q _ => ∃ (a : Addr) (ns : List Int) (m : Int), vs = [.ref a, .int m] ∧ SqL K H a (ns.map V.int) ∧ 0 ≤ m ∧ m ≤ 63 ∧ ∀ p H' (bs : List Addr), H p = none → Ex H H' → H' p = some (.lst (bs.map V.ref)) → Bags bs H' → (∀ b ∈ bs, H b = none) → Q (.ref p) H'
abbrev N__law_bags : List Str := ["script", "limit", "k"]
def t__law_bags (K : PySem.W.Frag) : TS := (tRet (tLc (iRng1 (tCons (tCB rMax2 (tCons (tC (.int 1)) (tCons (tCB rMin2 (tCons (tVar 1) (tCons (tCB (rLenQ K) (tCons (tVar 0) tNil)) tNil))) tNil))) tNil)) (gName 2) tYes (tCall (sp__law_bag K) [] E0 (tCons (tVar 0) (tCons (tVar 2) tNil))) [2]))
theorem pure__law_bags {K : PySem.W.Frag} {vs : List V} {H : Hp} {Q : VK} {E : XK} (h : sp__law_bags K vs H Q E) : t__law_bags K { nx := fun _ H' => Q .non H', rt := Q } (start N__law_bags vs) H := by
  obtain ⟨a, ns, m, rfl, hS, h0, h1, q⟩ := h
  refine ⟨_, rfl, _, rfl, a, _, rfl, .inl hS, m, _, rfl, 1, _, rfl, _, rfl, ?_, ?_, fun D hD => ?_⟩
  · split <;> split <;> omega
  · split <;> split <;> omega
  generalize hn : (if (if ((List.map V.int ns).length : Int) < m then ((List.map V.int ns).length : Int) else m) > 1 then (if ((List.map V.int ns).length : Int) < m then ((List.map V.int ns).length : Int) else m) else 1) = n
  have n63 : n ≤ 63 := by
    rw [← hn]
    split <;> split <;> omega
  have hDl : ∀ {H' : Hp} {b : Addr} {bs : List Addr}, Bag1 H' b → H' D = some (.lst (bs.map V.ref)) → b ≠ D := fun {H' b bs} ⟨d, c, ds, h1, _⟩ h2 e => by
    subst e
    rw [h1] at h2
    have e2 := HO.lst.inj (Option.some.inj h2)
    match bs, e2 with
    | [_, _], e2 => simp at e2
  refine lc_range (lo := 0) (n := n.toNat) (fun i H' => ∃ bs : List Addr, bs.length = i ∧ Ex H H' ∧ H' D = some (.lst (bs.map V.ref)) ∧ Bags bs H' ∧ ∀ b ∈ bs, H b = none)
    ⟨[], rfl, Ex.new hD, upd_same, fun _ hb => (nomatch hb), fun _ hb => (nomatch hb)⟩ (fun i H' hi p => ?_) (fun H' p => ?_)
  · obtain ⟨bs, hl, he, hd, hb, hf⟩ := p
    refine ⟨rfl, ?_⟩
    dsimp only [tYes]
    rw [if_pos rfl]
    refine ⟨_, rfl, _, rfl, a, ns, _, rfl, ex_l he hS, by omega, fun b H2 nb e2 hB => ?_⟩
    have nbD : b ≠ D := hDl hB (e2 _ _ hd)
    refine ⟨_, e2 _ _ hd, ?_, bs ++ [b], ?_, (he.trans e2).mut hD, ?_, ?_, ?_⟩
    · rw [List.length_map, hl]
      exact small1000 (by omega)
    · rw [List.length_append, hl]
      rfl
    · rw [upd_same, List.map_append]
      rfl
    · have hB2 : Bags (bs ++ [b]) H2 := fun x hx => by
        rcases List.mem_append.mp hx with z | z
        · exact (hb x z).ex e2
        · rw [List.mem_singleton.mp z]
          exact hB
      refine hB2.mut (fun z => ?_) (fun d ds h2 h3 e => ?_)
      · exact hDl (hB2 D z) (e2 _ _ hd) rfl
      · subst e
        rw [e2 _ _ hd] at h2
        have e3 := HO.lst.inj (Option.some.inj h2)
        match bs, ds, e3, hl with
        | [], ds, e3, _ =>
          have e4 : ds = [] := by simpa using e3.symm
          rw [e4] at h3
          cases h3
        | _ :: _, _ :: _, e3, _ => simp at e3
        | _ :: _, [], e3, _ => simp at e3
    · intro x hx
      rcases List.mem_append.mp hx with z | z
      · exact hf x z
      · rw [List.mem_singleton.mp z]
        exact fresh_back he nb
  · obtain ⟨bs, hl, he, hd, hb, hf⟩ := p
    exact q D H' bs hD he hd hb hf
theorem len__law_bags {K : PySem.W.Frag} {vs : List V} {H : Hp} {Q : VK} {E : XK} (h : sp__law_bags K vs H Q E) : vs.length = 2 := by
  obtain ⟨a, ns, m, rfl, _⟩ := h
  rfl
def sp__law_take (K : PySem.W.Frag) : Sp := fun vs H Q _ => ∃ (bs : List Addr) (b : Addr) (m : Int), vs = [.ref b, .int m] ∧ b ∈ bs ∧ Bags bs H ∧ 0 < m ∧ ∀ r H', 0 ≤ r → r < m → Kp bs H H' → Bags bs H' → Q (.int r) H'
abbrev N__law_take : List Str := ["bag", "many"]
def t__law_take (K : PySem.W.Frag) : TS := (tSeq (tAsg (tOp (rI0 fun i j => .int (i + j)) (tOp (rIxL K) (tVar 0) (tC (.int 1))) (tC (.int 1))) (gSub (tVar 0) (tC (.int 1)) rSetL))
  (tRet (tOp (rI (fun _ j => 0 < j) fun i j => .int (i % j)) (tOp (rIxL K) (tOp (rIxL K) (tVar 0) (tC (.int 0))) (tOp (rI (fun _ j => 0 < j) fun i j => .int (i % j)) (tOp (rIxL K) (tVar 0) (tC (.int 1))) (tCB (rLenQ K) (tCons (tOp (rIxL K) (tVar 0) (tC (.int 0))) tNil)))) (tVar 1))))
theorem pure__law_take {K : PySem.W.Frag} {vs : List V} {H : Hp} {Q : VK} {E : XK} (h : sp__law_take K vs H Q E) : t__law_take K { nx := fun _ H' => Q .non H', rt := Q } (start N__law_take vs) H := by
  obtain ⟨bs, b, m, rfl, hb, hB, hm, q⟩ := h
  obtain ⟨d, c, ds, h1, h2, h3⟩ := hB b hb
  have ndb : d ≠ b := fun e => by
    rw [e, h1] at h2
    have e2 := congrArg List.length (HO.lst.inj (Option.some.inj h2))
    rw [List.length_map, h3] at e2
    cases e2
  refine ⟨_, rfl, b, _, 1, .int c, rfl, rfl, SqL.of h1, rfl, c, 1, rfl, rfl, _, rfl, b, _, 1, 1, rfl, rfl, h1, rfl, ?_⟩
  have g1 : upd H b (.lst [.ref d, .int (c + 1)]) b = some (.lst [.ref d, .int (c + 1)]) := upd_same
  have g2 : upd H b (.lst [.ref d, .int (c + 1)]) d = some (.lst (ds.map V.int)) := by
    rw [upd_ne ndb]
    exact h2
  have hj0 : 0 ≤ (c + 1) % 400 := Int.emod_nonneg _ (by decide)
  have hj1 : (c + 1) % 400 < 400 := Int.emod_lt_of_pos _ (by decide)
  obtain ⟨j, ej⟩ := Int.eq_ofNat_of_zero_le hj0
  have hj : j < ds.length := by omega
  have el : ((ds.map V.int).length : Int) = 400 := by
    rw [List.length_map, h3]
    rfl
  refine ⟨_, rfl, b, _, 0, .ref d, rfl, rfl, SqL.of g1, rfl, _, rfl, b, _, 1, .int (c + 1), rfl, rfl, SqL.of g1, rfl, _, rfl, b, _, 0, .ref d, rfl, rfl, SqL.of g1, rfl, d, _, rfl, .inl (SqL.of g2), c + 1, _, rfl, rfl, ?_, ?_⟩
  · show (0 : Int) < ((ds.map V.int).length : Int)
    rw [el]
    decide
  refine ⟨d, ds.map V.int, _, .int ds[j], rfl, rfl, SqL.of g2, ?_, _, rfl, ds[j], m, rfl, rfl, hm, ?_⟩
  · rw [el, ej]
    refine atI_nat ?_
    rw [List.getElem?_map, List.getElem?_eq_getElem hj]
    rfl
  · refine q _ _ (Int.emod_nonneg _ (by omega)) (Int.emod_lt_of_pos _ hm) (fun a o na ha => ?_) (fun b' hb' => ?_)
    · have nab : a ≠ b := fun e => na (e ▸ hb)
      rw [upd_ne nab]
      exact ha
    · by_cases e : b' = b
      · subst e
        exact ⟨d, c + 1, ds, upd_same, g2, h3⟩
      · obtain ⟨d', c', ds', k1, k2, k3⟩ := hB b' hb'
        have nd' : d' ≠ b := fun z => by
          rw [z, h1] at k2
          have e2 := congrArg List.length (HO.lst.inj (Option.some.inj k2))
          rw [List.length_map, k3] at e2
          cases e2
        exact ⟨d', c', ds', by rw [upd_ne e]; exact k1, by rw [upd_ne nd']; exact k2, k3⟩
theorem len__law_take {K : PySem.W.Frag} {vs : List V} {H : Hp} {Q : VK} {E : XK} (h : sp__law_take K vs H Q E) : vs.length = 2 := by
  obtain ⟨bs, b, m, rfl, _⟩ := h
  rfl
def sp__law_word (K : PySem.W.Frag) : Sp := fun vs H Q _ => ∃ f n : Int, vs = [.int f, .int n] ∧ Q (vW (word f n)) H
abbrev N__law_word : List Str := ["far", "near"]
def t__law_word (K : PySem.W.Frag) : TS := (tSeq (tIfS (tTest (tOp (rI0 fun i j => .bl (decide (i < j))) (tVar 1) (tVar 0))) (tRet (tC (.str (Str.ofString "warm")))) tNext)
  (tRet (tIf (tTest (tOp (rI0 fun i j => .bl (decide (j < i))) (tVar 1) (tVar 0))) (tC (.str (Str.ofString "cold"))) (tC (.str (Str.ofString "same"))))))
theorem pure__law_word {K : PySem.W.Frag} {vs : List V} {H : Hp} {Q : VK} {E : XK} (h : sp__law_word K vs H Q E) : t__law_word K { nx := fun _ H' => Q .non H', rt := Q } (start N__law_word vs) H := by
  obtain ⟨f, n, rfl, q⟩ := h
  refine ⟨_, rfl, _, rfl, n, f, rfl, rfl, _, rfl, ite2 (fun h1 => ?_) (fun h1 => ?_)⟩
  · have e1 : word f n = .warm := if_pos (of_decide_eq_true h1)
    rw [e1] at q
    exact q
  · have n1 : ¬ n < f := fun z => h1 (decide_eq_true z)
    refine ⟨_, rfl, _, rfl, n, f, rfl, rfl, _, rfl, ite2 (fun h2 => ?_) (fun h2 => ?_)⟩
    · have e2 : word f n = .cold := (if_neg n1).trans (if_pos (of_decide_eq_true h2))
      rw [e2] at q
      exact q
    · have n2 : ¬ f < n := fun z => h2 (decide_eq_true z)
      have e3 : word f n = .same := (if_neg n1).trans (if_neg n2)
      rw [e3] at q
      exact q
theorem len__law_word {K : PySem.W.Frag} {vs : List V} {H : Hp} {Q : VK} {E : XK} (h : sp__law_word K vs H Q E) : vs.length = 2 := by
  obtain ⟨f, n, rfl, _⟩ := h
  rfl
def sp__law_words (K : PySem.W.Frag) : Sp := fun vs H Q _ => ∃ (t : Int) (a : Addr) (ns : List Int), vs = [.int t, .ref a] ∧ SqL K H a (ns.map V.int) ∧ ns.length ≤ 1000 ∧ ∀ p H', H p = none → Ex H H' → H' p = some (.lst ((wordsOf t ns).map vW)) → Q (.ref p) H'
abbrev N__law_words : List Str := ["thing", "stands", "found", "place"]
def t__law_words (K : PySem.W.Frag) : TS := (tSeq (tAsg (tLst tNil) (gName 2))
  (tSeq (tFor (iRng2 (tCons (tC (.int 1)) (tCons (tCB (rLenQ K) (tCons (tVar 1) tNil)) tNil))) (gName 3) (tDrop (tBM K "list" rAppend (tVar 2) (tCons (tCall (sp__law_word K) [] E0 (tCons (tCB rAbs (tCons (tOp (rI0 fun i j => .int (i - j)) (tVar 0) (tOp (rIxL K) (tVar 1) (tOp (rI0 fun i j => .int (i - j)) (tVar 3) (tC (.int 1))))) tNil)) (tCons (tCB rAbs (tCons (tOp (rI0 fun i j => .int (i - j)) (tVar 0) (tOp (rIxL K) (tVar 1) (tVar 3))) tNil)) tNil))) tNil))))
  (tRet (tVar 2))))
theorem pure__law_words {K : PySem.W.Frag} {vs : List V} {H : Hp} {Q : VK} {E : XK} (h : sp__law_words K vs H Q E) : t__law_words K { nx := fun _ H' => Q .non H', rt := Q } (start N__law_words vs) H := by
  obtain ⟨t, a, ns, rfl, hS, hlen, q⟩ := h
  refine ⟨Nat.zero_le _, fun f nf => ?_⟩
  have e0 : Ex H (upd H f (.lst [])) := Ex.new nf
  have el : ((ns.map V.int).length : Int) = (ns.length : Int) := by rw [List.length_map]
  refine ⟨_, rfl, a, _, rfl, .inl (ex_l e0 hS), 1, _, rfl, ⟨by decide, by decide, by omega, by omega⟩, ?_⟩
  refine for_range (lo := 1) (n := (((ns.map V.int).length : Int) - 1).toNat) (fun i σ H' => ∃ kv : Option V, σ = [some (.int t), some (.ref a), some (.ref f), kv] ∧ Ex H H' ∧ H' f = some (.lst (((wordsOf t ns).take i).map vW)))
    ⟨none, rfl, e0, upd_same⟩ ?_ ?_
  · rintro i σ H' hi ⟨kv, rfl, he, hf⟩
    have h2 : i + 1 < ns.length := by omega
    have h1 : i < ns.length := by omega
    have gd : (wordsOf t ns)[i]? = some (mv t ns[i] ns[i + 1]) := wordsOf_get t ns i _ _ (List.getElem?_eq_getElem h1) (List.getElem?_eq_getElem h2)
    have a1 : atI (ns.map V.int) (1 + (i : Int) - 1) = some (.int ns[i]) := at_of (j := i) (by omega) (by
      rw [List.getElem?_map, List.getElem?_eq_getElem h1]
      rfl)
    have a2 : atI (ns.map V.int) (1 + (i : Int)) = some (.int ns[i + 1]) := at_of (j := i + 1) (by omega) (by
      rw [List.getElem?_map, List.getElem?_eq_getElem h2]
      rfl)
    refine ⟨_, rfl, .inl ⟨rfl, _, SqL.of hf⟩, _, rfl, _, rfl, _, rfl, _, _, rfl, rfl, a, _, _, _, rfl, rfl, ex_l he hS, a1, _, _, rfl, rfl, _, rfl, _, rfl, _, rfl, _, rfl, a, _, _, _, rfl, rfl, ex_l he hS, a2, _, _, rfl, rfl, _, rfl, _, _, rfl, ?_⟩
    refine ⟨f, _, _, rfl, rfl, hf, ?_, _, rfl, he.mut nf, ?_⟩
    · rw [List.length_map, List.length_take]
      exact Nat.lt_of_le_of_lt (Nat.min_le_left _ _) (small1000 (by omega))
    · rw [upd_same, List.take_add_one, gd, List.map_append]
      rfl
  · rintro σ H' ⟨kv, rfl, he, hf⟩
    have ei : (wordsOf t ns).take (((ns.map V.int).length : Int) - 1).toNat = wordsOf t ns := List.take_of_length_le (by
      rw [wordsOf_len]
      omega)
    rw [ei] at hf
    exact ⟨_, rfl, q f H' nf he hf⟩
theorem len__law_words {K : PySem.W.Frag} {vs : List V} {H : Hp} {Q : VK} {E : XK} (h : sp__law_words K vs H Q E) : vs.length = 2 := by
  obtain ⟨t, a, ns, rfl, _⟩ := h
  rfl
/-! ### the refusals -/
/-- the names of the refusals without fields -/
def rfN : List Str := ["NoLength", "NoPlace", "NotNow", "NoStands", "NoAnswers", "NoStretch", "NoAnswer", "Never", "NothingLeft"]
structure ExF (K : PySem.W.Frag) : Prop where
  tl : ∀ x ∈ rfN, PySem.W.exmOne K (.ref (He.ga K x)) (.ref (He.ga K "TooLong")) = some false
  se : ∀ x ∈ rfN, PySem.W.exmOne K (.ref (He.ga K x)) (.ref (He.ga K "SeekError")) = some true
  ec : ∀ x ∈ rfN, ExcC K (He.ga K x)
  kit : ∀ x ∈ rfN, ∀ y ∈ rfN, PySem.W.kitOne K (.ref (He.ga K x)) (.ref (He.ga K y)) = some (decide (x = y))
  ve : ∀ x ∈ rfN, PySem.W.kitOne K (.ref (He.ga K x)) (.type "ValueError") = some true
def exFB (K : PySem.W.Frag) : Bool := rfN.all fun x => decide (PySem.W.exmOne K (.ref (He.ga K x)) (.ref (He.ga K "TooLong")) = some false) && (decide (PySem.W.exmOne K (.ref (He.ga K x)) (.ref (He.ga K "SeekError")) = some true) && (excCB K x &&
  ((rfN.all fun y => decide (PySem.W.kitOne K (.ref (He.ga K x)) (.ref (He.ga K y)) = some (decide (x = y)))) && decide (PySem.W.kitOne K (.ref (He.ga K x)) (.type "ValueError") = some true))))
theorem exFB_ok {K : PySem.W.Frag} (h : exFB K = true) : ExF K := by
  have h := List.all_eq_true.mp h
  refine ⟨fun x hx => of_decide_eq_true (He.ba (h x hx)).1, fun x hx => of_decide_eq_true (He.ba (He.ba (h x hx)).2).1, fun x hx => excCB_ok (He.ba (He.ba (He.ba (h x hx)).2).2).1, fun x hx y hy => ?_, fun x hx => of_decide_eq_true (He.ba (He.ba (He.ba (He.ba (h x hx)).2).2).2).2⟩
  exact of_decide_eq_true (List.all_eq_true.mp (He.ba (He.ba (He.ba (He.ba (h x hx)).2).2).2).1 y hy)
theorem is_step {K : PySem.W.Frag} (F : ExF K) {nm y : Str} (hn : nm ∈ rfN) (hy : y ∈ rfN) {a : Addr} {σ : L2.St} {H : Hp} {Q : VK} (hs : σ[5]? = some (some (.ref a))) (q : Q (.bl (decide (nm = y))) H) :
    tCB (rIsN K (.ref (He.ga K nm)) none a) (tCons (tVar 5) (tCons (tC (.ref (He.ga K y))) tNil)) σ H Q :=
  ⟨_, hs, _, rfl, rfl, F.ec nm hn, _, _, _, rfl, fun u h => h, F.kit nm hn y hy, q⟩
/-- the tuple (name, is it) made -/
theorem tup_step {K : PySem.W.Frag} (F : ExF K) {nm y : Str} (hn : nm ∈ rfN) (hy : y ∈ rfN) {a : Addr} {σ : L2.St} {H : Hp} {Q : VK} (hs : σ[5]? = some (some (.ref a))) (q : ∀ u H', H u = none → Ex H H' → H' u = some (.tup [.str y, .bl (decide (nm = y))]) → Q (.ref u) H') :
    tTup (tCons (tC (.str y)) (tCons (tCB (rIsN K (.ref (He.ga K nm)) none a) (tCons (tVar 5) (tCons (tC (.ref (He.ga K y))) tNil))) tNil)) σ H Q :=
  is_step (Q := fun v H1 => ([V.str y, v] : List V).length ≤ sizeLine ∧ ∀ t, H1 t = none → Q (.ref t) (upd H1 t (.tup [.str y, v]))) F hn hy hs ⟨by show 2 ≤ sizeLine; decide, fun t nt => q t _ nt (Ex.new nt) upd_same⟩
/-- tuples (text, flag) at these places -/
inductive AtFlags (nm : Str) (H : Hp) : List Addr → List Str → Prop
  | nil : AtFlags nm H [] []
  | cons {u : Addr} {us : List Addr} {y : Str} {ys : List Str} : H u = some (.tup [.str y, .bl (decide (nm = y))]) → AtFlags nm H us ys → AtFlags nm H (u :: us) (y :: ys)
theorem AtFlags.ex {nm : Str} {H H' : Hp} (e : Ex H H') : ∀ {us : List Addr} {ys : List Str}, AtFlags nm H us ys → AtFlags nm H' us ys
  | _, _, .nil => .nil
  | _, _, .cons h t => .cons (e _ _ h) (t.ex e)
theorem AtFlags.app {nm : Str} {H : Hp} : ∀ {us vs : List Addr} {ys zs : List Str}, AtFlags nm H us ys → AtFlags nm H vs zs → AtFlags nm H (us ++ vs) (ys ++ zs)
  | _, _, _, _, .nil, h => h
  | _, _, _, _, .cons h t, h2 => .cons h (t.app h2)
theorem AtFlags.len {nm : Str} {H : Hp} : ∀ {us : List Addr} {ys : List Str}, AtFlags nm H us ys → us.length = ys.length
  | _, _, .nil => rfl
  | _, _, .cons _ t => congrArg (· + 1) t.len
theorem AtFlags.at {nm : Str} {H : Hp} : ∀ {us : List Addr} {ys : List Str}, AtFlags nm H us ys → ∀ {i : Nat} {u : Addr}, us[i]? = some u → ∃ y, ys[i]? = some y ∧ H u = some (.tup [.str y, .bl (decide (nm = y))])
  | _, _, .nil, _, _, h => by simp at h
  | _, _, .cons h t, 0, u, e => ⟨_, rfl, by rw [← Option.some.inj e]; exact h⟩
  | _, _, .cons h t, i + 1, u, e => t.at e
/-- what a refused call ends with: a new list of the refusal's name and True -/
def EndR (K : PySem.W.Frag) (Q : VK) : XK := fun cls d H' => ∃ nm, nm ∈ rfN ∧ cls = .ref (He.ga K nm) ∧ d = none ∧ ∀ q H2, H' q = none → Ex H' H2 → H2 q = some (.lst [.str nm, .bl true]) → Q (.ref q) H2
def sp__law_refused (K : PySem.W.Frag) (P : Program) (w : World) (mg : Str → Option Value) (base : Heap) : Sp := fun vs H Q _ => ∃ (f : Addr) (v1 v2 v3 : V) (sp : Sp), vs = [.ref f, v1, v2, v3] ∧ FnR P w K mg base (L2N.CX P w) 40 f sp ∧ (PySem.W.keepIn K (.ref f) = true ∨ ∃ F e, H f = some (LamO f F e)) ∧
  ∀ p Q' E', H p = none → (∀ v H', Q (.ref p) H' → Q' v H') → (∀ cls d H', EndR K Q cls d H' → E' cls d H') → sp [v1, v2, v3] (upd H p (.lst [])) Q' E'
abbrev tFlag (K : PySem.W.Frag) (nm : Str) (a : Addr) (y : Str) : TE := tTup (tCons (tC (.str y)) (tCons (tCB (rIsN K (.ref (He.ga K nm)) none a) (tCons (tVar 5) (tCons (tC (.ref (He.ga K y))) tNil))) tNil))
theorem lst1_step {K : PySem.W.Frag} (F : ExF K) {nm y : Str} (hn : nm ∈ rfN) (hy : y ∈ rfN) {a : Addr} {σ : L2.St} {H : Hp} {Q : VK} (hs : σ[5]? = some (some (.ref a))) (q : ∀ L us H', Ex H H' → H L = none → H' L = some (.lst (us.map V.ref)) → AtFlags nm H' us [y] → Q (.ref L) H') :
    tLst (tCons (tFlag K nm a y) tNil) σ H Q :=
  tup_step (Q := fun x1 H1 => ([x1] : List V).length ≤ sizeLine ∧ ∀ p, H1 p = none → Q (.ref p) (upd H1 p (.lst [x1]))) F hn hy hs fun u H1 n1 e1 g1 => ⟨by show 1 ≤ sizeLine; decide, fun p np => q p [u] _ (e1.trans (Ex.new np)) (fresh_back e1 np) upd_same (.cons ((Ex.new np) _ _ g1) .nil)⟩
theorem lst2_step {K : PySem.W.Frag} (F : ExF K) {nm y z : Str} (hn : nm ∈ rfN) (hy : y ∈ rfN) (hz : z ∈ rfN) {a : Addr} {σ : L2.St} {H : Hp} {Q : VK} (hs : σ[5]? = some (some (.ref a))) (q : ∀ L us H', Ex H H' → H L = none → H' L = some (.lst (us.map V.ref)) → AtFlags nm H' us [y, z] → Q (.ref L) H') :
    tLst (tCons (tFlag K nm a y) (tCons (tFlag K nm a z) tNil)) σ H Q :=
  tup_step (Q := fun x1 H1 => tFlag K nm a z σ H1 fun x2 H2 => ([x1, x2] : List V).length ≤ sizeLine ∧ ∀ p, H2 p = none → Q (.ref p) (upd H2 p (.lst [x1, x2]))) F hn hy hs fun u1 H1 n1 e1 g1 => tup_step (Q := fun x2 H2 => ([.ref u1, x2] : List V).length ≤ sizeLine ∧ ∀ p, H2 p = none → Q (.ref p) (upd H2 p (.lst [.ref u1, x2]))) F hn hz hs fun u2 H2 n2 e2 g2 =>
    ⟨by show 2 ≤ sizeLine; decide, fun p np => q p [u1, u2] _ ((e1.trans e2).trans (Ex.new np)) (fresh_back (e1.trans e2) np) upd_same (.cons ((Ex.new np) _ _ (e2 _ _ g1)) (.cons ((Ex.new np) _ _ g2) .nil))⟩
/-- words = words + [..] -/
theorem cat_step {nm : Str} {tl : TE} {σ : L2.St} {H : Hp} {Q : VK} {L : Addr} {us : List Addr} {ys zs : List Str} (hs : σ[6]? = some (some (.ref L))) (hL : H L = some (.lst (us.map V.ref))) (hf : AtFlags nm H us ys) (hl : ys.length + zs.length ≤ 100)
    (ht : ∀ Q2 : VK, (∀ L2 vs H', Ex H H' → H L2 = none → H' L2 = some (.lst (vs.map V.ref)) → AtFlags nm H' vs zs → Q2 (.ref L2) H') → tl σ H Q2)
    (q : ∀ L2 vs H', Ex H H' → H' L2 = some (.lst (vs.map V.ref)) → AtFlags nm H' vs (ys ++ zs) → Q (.ref L2) H') : tOp rCat (tVar 6) tl σ H Q := by
  refine ⟨_, hs, ht _ fun L2 vs H1 e1 n2 h2 f2 => ?_⟩
  refine ⟨L, L2, _, _, rfl, rfl, e1 _ _ hL, h2, ?_, fun p np => ?_⟩
  · rw [List.length_map, List.length_map, hf.len, f2.len]
    exact Nat.le_trans hl (by decide)
  · refine q p (us ++ vs) _ (e1.trans (Ex.new np)) ?_ (((hf.ex e1).app f2).ex (Ex.new np))
    rw [upd_same, List.map_append]
abbrev N__law_refused : List Str := ["call", "one", "two", "three", "kin", "e", "words", "word", "there"]
def t__law_refused (K : PySem.W.Frag) (P : Program) (w : World) (mg : Str → Option Value) (base : Heap) : TS := (tSeq (tAsg (tLst tNil) (gName 4))
  (tSeq (fun D σ H => (fun WW : WX => (tDrop (tCallW P w K mg base (L2N.CX P w) 40 0 (fun σ cls d H => WW cls d σ H) (tCons (tVar 1) (tCons (tVar 2) (tCons (tVar 3) tNil)))))) (wNam K (fun _ _ _ _ => False) D [(.ref (He.ga K "TooLong"), 5, (fun _ _ _ => tNever)), (.ref (He.ga K "SeekError"), 5, (fun a cls d => (tSeq (tAsg (tLst (tCons (tTup (tCons (tC (.str (Str.ofString "NoLength"))) (tCons (tCB (rIsN K cls d a) (tCons (tVar 5) (tCons (tC (.ref (He.ga K "NoLength"))) tNil))) tNil))) (tCons (tTup (tCons (tC (.str (Str.ofString "NoPlace"))) (tCons (tCB (rIsN K cls d a) (tCons (tVar 5) (tCons (tC (.ref (He.ga K "NoPlace"))) tNil))) tNil))) tNil))) (gName 6))
  (tSeq (tAsg (tOp rCat (tVar 6) (tLst (tCons (tTup (tCons (tC (.str (Str.ofString "NotNow"))) (tCons (tCB (rIsN K cls d a) (tCons (tVar 5) (tCons (tC (.ref (He.ga K "NotNow"))) tNil))) tNil))) tNil))) (gName 6))
  (tSeq (tAsg (tOp rCat (tVar 6) (tLst (tCons (tTup (tCons (tC (.str (Str.ofString "NoStands"))) (tCons (tCB (rIsN K cls d a) (tCons (tVar 5) (tCons (tC (.ref (He.ga K "NoStands"))) tNil))) tNil))) (tCons (tTup (tCons (tC (.str (Str.ofString "NoAnswers"))) (tCons (tCB (rIsN K cls d a) (tCons (tVar 5) (tCons (tC (.ref (He.ga K "NoAnswers"))) tNil))) tNil))) tNil)))) (gName 6))
  (tSeq (tAsg (tOp rCat (tVar 6) (tLst (tCons (tTup (tCons (tC (.str (Str.ofString "NoStretch"))) (tCons (tCB (rIsN K cls d a) (tCons (tVar 5) (tCons (tC (.ref (He.ga K "NoStretch"))) tNil))) tNil))) (tCons (tTup (tCons (tC (.str (Str.ofString "NoAnswer"))) (tCons (tCB (rIsN K cls d a) (tCons (tVar 5) (tCons (tC (.ref (He.ga K "NoAnswer"))) tNil))) tNil))) tNil)))) (gName 6))
  (tSeq (tAsg (tOp rCat (tVar 6) (tLst (tCons (tTup (tCons (tC (.str (Str.ofString "Never"))) (tCons (tCB (rIsN K cls d a) (tCons (tVar 5) (tCons (tC (.ref (He.ga K "Never"))) tNil))) tNil))) (tCons (tTup (tCons (tC (.str (Str.ofString "NothingLeft"))) (tCons (tCB (rIsN K cls d a) (tCons (tVar 5) (tCons (tC (.ref (He.ga K "NothingLeft"))) tNil))) tNil))) tNil)))) (gName 6))
  (tAsg (tOp rCat (tLc (iList K (tVar 6)) (gTup K 2 (gCons (gName 7) (gCons (gName 8) gNil))) (tB (tVar 8)) (tVar 7) [7, 8]) (tLst (tCons (tCB (rIsN K cls d a) (tCons (tVar 5) (tCons (tC (.ty "ValueError")) tNil))) tNil))) (gName 4)))))))))]) D σ H)
  (tRet (tVar 4))))
theorem pick_step {K : PySem.W.Frag} (F : ExF K) {nm : Str} (hn : nm ∈ rfN) {f p a L : Addr} {v1 v2 v3 : V} {us : List Addr} {H1 H : Hp} {Q : VK} {x7 x8 : Option V} (e : Ex H1 H) (hL : H L = some (.lst (us.map V.ref))) (hf : AtFlags nm H us rfN)
    (q : ∀ q H2, H1 q = none → Ex H1 H2 → H2 q = some (.lst [.str nm, .bl true]) → Q (.ref q) H2) :
    tOp rCat (tLc (iList K (tVar 6)) (gTup K 2 (gCons (gName 7) (gCons (gName 8) gNil))) (tB (tVar 8)) (tVar 7) [7, 8]) (tLst (tCons (tCB (rIsN K (.ref (He.ga K nm)) none a) (tCons (tVar 5) (tCons (tC (.ty "ValueError")) tNil))) tNil))
      [some (.ref f), some v1, some v2, some v3, some (.ref p), some (.ref a), some (.ref L), x7, x8] H fun x H2 => tVar 4 (([some (.ref f), some v1, some v2, some v3, some x, some (.ref a), some (.ref L), x7, x8] : L2.St).set 5 none) H2 Q := by
  refine ⟨_, rfl, L, rfl, ⟨_, SqL.of hL⟩, fun D nD => ?_⟩
  have hul := hf.len
  have hone : (rfN.filter fun y => decide (nm = y)) = [nm] := by
    have : ∀ x ∈ rfN, (rfN.filter fun y => decide (x = y)) = [x] := by decide +kernel
    exact this nm hn
  refine lc_list (K := K) (a := L) (xs := us.map V.ref) (fun i H' => Ex H H' ∧ H' D = some (.lst (((rfN.take i).filter fun y => decide (nm = y)).map V.str)))
    ⟨Ex.new nD, upd_same⟩ (fun i H' _ hp => SqL.of (hp.1 _ _ hL)) (fun i x H' hx hp => ?_) (fun H' hp => ?_)
  · obtain ⟨e', hD⟩ := hp
    obtain ⟨u, hu, rfl⟩ : ∃ u, us[i]? = some u ∧ x = .ref u := by
      rw [List.getElem?_map] at hx
      cases hg : us[i]? with
      | none => rw [hg] at hx; cases hx
      | some u =>
        rw [hg] at hx
        exact ⟨u, rfl, (Option.some.inj hx).symm⟩
    obtain ⟨y, hy, huy⟩ := hf.at hu
    refine ⟨u, _, rfl, SqT.of (e' _ _ huy), rfl, _, _, rfl, _, [], rfl, rfl, rfl, _, rfl, _, rfl, ?_⟩
    have etk : ((rfN.take (i + 1)).filter fun y => decide (nm = y)) = ((rfN.take i).filter fun y => decide (nm = y)) ++ (if nm = y then [y] else []) := by
      rw [List.take_add_one, hy, List.filter_append]
      congr 1
      by_cases hny : nm = y
      · rw [if_pos hny]
        simp [hny]
      · rw [if_neg hny]
        simp [hny]
    by_cases hny : nm = y
    · rw [decide_eq_true hny]
      rw [if_pos hny] at etk
      refine iteT ⟨_, rfl, _, hD, ?_, e'.mut nD, ?_⟩
      · rw [List.length_map]
        refine small1000 (Nat.le_trans (List.length_filter_le _ _) (Nat.le_trans (List.length_take_le _ _) ?_))
        have : i < us.length := (List.getElem?_eq_some_iff.mp hu).1
        rw [hul] at this
        exact Nat.le_of_lt (Nat.lt_of_lt_of_le this (by decide))
      · rw [upd_same, etk, List.map_append]
        rfl
    · rw [decide_eq_false hny]
      rw [if_neg hny, List.append_nil] at etk
      refine iteF ⟨e', ?_⟩
      rw [hD, etk]
  · obtain ⟨e', hD⟩ := hp
    rw [List.length_map, hul, List.take_length, hone] at hD
    refine ⟨_, rfl, _, rfl, rfl, F.ec nm hn, _, _, _, rfl, fun u h => h, F.ve nm hn, by show 1 ≤ sizeLine; decide, fun M nM => ?_⟩
    refine ⟨D, M, _, _, rfl, rfl, (Ex.new nM) _ _ hD, upd_same, by show 2 ≤ sizeLine; decide, fun R nR => ⟨_, rfl, ?_⟩⟩
    have e1 : Ex H1 (upd (upd H' M (.lst [.bl true])) R (.lst [.str nm, .bl true])) := ((e.trans e').trans (Ex.new nM)).trans (Ex.new nR)
    exact q R _ (fresh_back ((e.trans e').trans (Ex.new nM)) nR) e1 upd_same
theorem pure__law_refused {K : PySem.W.Frag} {P : Program} {w : World} {mg : Str → Option Value} {base : Heap} (F : ExF K) {vs : List V} {H : Hp} {Q : VK} {E : XK} (h : sp__law_refused K P w mg base vs H Q E) : t__law_refused K P w mg base { nx := fun _ H' => Q .non H', rt := Q } (start N__law_refused vs) H := by
  obtain ⟨f, v1, v2, v3, sp, rfl, hF, hcb, h⟩ := h
  refine ⟨by show 0 ≤ sizeLine; decide, fun p np => ?_⟩
  refine ⟨f, sp, rfl, hF, ?_⟩
  have key : ∀ {Q' : VK} {E' : XK}, (∀ v H', Q (.ref p) H' → Q' v H') → (∀ cls d H', EndR K Q cls d H' → E' cls d H') → sp [v1, v2, v3] (upd H p (.lst [])) Q' E' := fun {Q' E'} a b => h p Q' E' np a b
  have hQ : ∀ (v : V) (H' : Hp), Q (.ref p) H' → tVar 4 [some (.ref f), some v1, some v2, some v3, some (.ref p), none, none, none, none] H' Q := fun _ H' q => ⟨_, rfl, q⟩
  have hcb1 : PySem.W.keepIn K (.ref f) = true ∨ ∃ F e, (upd H p (.lst [])) f = some (LamO f F e) := by
    rcases hcb with hk | ⟨F', e', hf⟩
    · exact .inl hk
    · exact .inr ⟨F', e', (Ex.new np) _ _ hf⟩
  rcases hcb1 with hk | ⟨F', e', hf⟩
  · refine .inl ⟨hk, _, rfl, _, rfl, _, rfl, key hQ ?_⟩
    rintro cls d H1 ⟨nm, hn, rfl, rfl, q⟩
    refine ⟨false, F.tl nm hn, fun z => (by cases z), fun _ => ⟨true, F.se nm hn, fun _ a na => ?_, fun z => (by cases z)⟩⟩
    dsimp only [tSeq, tAsg, gName]
    refine lst2_step F hn (y := "NoLength") (z := "NoPlace") (by decide) (by decide) rfl fun L1 us1 H2 e2 m1 g1 f1 => ?_
    refine cat_step (zs := ["NotNow"]) rfl g1 f1 (by decide) (fun Q2 q2 => lst1_step F hn (y := "NotNow") (by decide) rfl q2) fun L2 us2 H3 e3 g2 f2 => ?_
    refine cat_step (zs := ["NoStands", "NoAnswers"]) rfl g2 f2 (by decide) (fun Q2 q2 => lst2_step F hn (y := "NoStands") (z := "NoAnswers") (by decide) (by decide) rfl q2) fun L3 us3 H4 e4 g3 f3 => ?_
    refine cat_step (zs := ["NoStretch", "NoAnswer"]) rfl g3 f3 (by decide) (fun Q2 q2 => lst2_step F hn (y := "NoStretch") (z := "NoAnswer") (by decide) (by decide) rfl q2) fun L4 us4 H5 e5 g4 f4 => ?_
    refine cat_step (zs := ["Never", "NothingLeft"]) rfl g4 f4 (by decide) (fun Q2 q2 => lst2_step F hn (y := "Never") (z := "NothingLeft") (by decide) (by decide) rfl q2) fun L5 us5 H6 e6 g5 f5 => ?_
    have e16 : Ex H1 H6 := (((e2.trans e3).trans e4).trans e5).trans e6
    exact pick_step F hn e16 g5 f5 q
  · refine .inr ⟨F', e', hf, _, rfl, _, rfl, _, rfl, hf, key hQ ?_⟩
    rintro cls d H1 ⟨nm, hn, rfl, rfl, q⟩
    refine ⟨false, F.tl nm hn, fun z => (by cases z), fun _ => ⟨true, F.se nm hn, fun _ a na => ?_, fun z => (by cases z)⟩⟩
    dsimp only [tSeq, tAsg, gName]
    refine lst2_step F hn (y := "NoLength") (z := "NoPlace") (by decide) (by decide) rfl fun L1 us1 H2 e2 m1 g1 f1 => ?_
    refine cat_step (zs := ["NotNow"]) rfl g1 f1 (by decide) (fun Q2 q2 => lst1_step F hn (y := "NotNow") (by decide) rfl q2) fun L2 us2 H3 e3 g2 f2 => ?_
    refine cat_step (zs := ["NoStands", "NoAnswers"]) rfl g2 f2 (by decide) (fun Q2 q2 => lst2_step F hn (y := "NoStands") (z := "NoAnswers") (by decide) (by decide) rfl q2) fun L3 us3 H4 e4 g3 f3 => ?_
    refine cat_step (zs := ["NoStretch", "NoAnswer"]) rfl g3 f3 (by decide) (fun Q2 q2 => lst2_step F hn (y := "NoStretch") (z := "NoAnswer") (by decide) (by decide) rfl q2) fun L4 us4 H5 e5 g4 f4 => ?_
    refine cat_step (zs := ["Never", "NothingLeft"]) rfl g4 f4 (by decide) (fun Q2 q2 => lst2_step F hn (y := "Never") (z := "NothingLeft") (by decide) (by decide) rfl q2) fun L5 us5 H6 e6 g5 f5 => ?_
    have e16 : Ex H1 H6 := (((e2.trans e3).trans e4).trans e5).trans e6
    exact pick_step F hn e16 g5 f5 q
theorem len__law_refused {K : PySem.W.Frag} {P : Program} {w : World} {mg : Str → Option Value} {base : Heap} {vs : List V} {H : Hp} {Q : VK} {E : XK} (h : sp__law_refused K P w mg base vs H Q E) : vs.length = 4 := by
  obtain ⟨f, v1, v2, v3, sp, rfl, _⟩ := h
  rfl
/-! ### paths: stretches, mirrors -/
theorem rng_nil {lo hi : Int} (h : hi ≤ lo) : rng lo hi = [] := by
  unfold rng
  have e : (hi - lo).toNat = 0 := by omega
  rw [e]
  rfl
theorem rng_cons {lo hi : Int} (h : lo < hi) : rng lo hi = lo :: rng (lo + 1) hi := by
  unfold rng
  have e : (hi - lo).toNat = (hi - (lo + 1)).toNat + 1 := by omega
  rw [e, List.range_succ_eq_map, List.map_cons, List.map_map]
  congr 1
  · exact Int.add_zero lo
  · refine List.map_congr_left fun k _ => ?_
    show lo + ((k + 1 : Nat) : Int) = lo + 1 + (k : Int)
    omega
theorem rng_snoc {lo hi : Int} (h : lo ≤ hi) : rng lo (hi + 1) = rng lo hi ++ [hi] := by
  unfold rng
  have e : (hi + 1 - lo).toNat = (hi - lo).toNat + 1 := by omega
  rw [e, List.range_succ, List.map_append]
  congr 1
  show [lo + (((hi - lo).toNat : Nat) : Int)] = [hi]
  congr 1
  omega
/-- what a convex wish leaves of a stretch is a stretch -/
theorem rng_convex {p : Int → Bool} (hp : ∀ x y z, x < y → y < z → p x = true → p z = true → p y = true) : ∀ (n : Nat) (lo hi : Int), (hi - lo).toNat = n → ∃ a b, (rng lo hi).filter p = rng a b
  | 0, lo, hi, hn => ⟨0, 0, by rw [rng_nil (by omega), rng_nil (by omega)]; rfl⟩
  | n + 1, lo, hi, hn => by
    have hlt : lo < hi := by omega
    obtain ⟨a, b, e⟩ := rng_convex hp n (lo + 1) hi (by omega)
    rw [rng_cons hlt]
    cases hl : p lo with
    | false =>
      rw [List.filter_cons_of_neg (by rw [hl]; decide)]
      exact ⟨a, b, e⟩
    | true =>
      rw [List.filter_cons_of_pos hl, e]
      by_cases hab : a < b
      · have ha : a ∈ (rng (lo + 1) hi).filter p := by
          rw [e]
          exact mem_rng.mpr ⟨by omega, hab⟩
        obtain ⟨m1, m2⟩ := List.mem_filter.mp ha
        have m3 := mem_rng.mp m1
        have q : p (lo + 1) = true := by
          by_cases z : a = lo + 1
          · rw [← z]
            exact m2
          · exact hp lo (lo + 1) a (by omega) (by omega) hl m2
        have m4 : lo + 1 ∈ rng a b := by
          rw [← e]
          exact List.mem_filter.mpr ⟨mem_rng.mpr ⟨by omega, by omega⟩, q⟩
        have m5 := mem_rng.mp m4
        have z : a = lo + 1 := by omega
        exact ⟨lo, b, by rw [rng_cons (show lo < b by omega), z]⟩
      · rw [rng_nil (by omega : b ≤ a)]
        exact ⟨lo, lo + 1, by rw [rng_cons (by omega), rng_nil (by omega)]⟩
theorem wordsOf_cons2 (t a b : Int) (r : List Int) : wordsOf t (a :: b :: r) = mv t a b :: wordsOf t (b :: r) := rfl
theorem wordsOf_takeS (t : Int) : ∀ (st : List Int) (i : Nat), (wordsOf t st).take i = wordsOf t (st.take (i + 1))
  | [], i => by simp [wordsOf]
  | [a], i => by
    rw [List.take_of_length_le (show ([a] : List Int).length ≤ i + 1 by simp)]
    show ([] : List Wo).take i = []
    rw [List.take_nil]
  | a :: b :: r, 0 => rfl
  | a :: b :: r, i + 1 => by
    rw [wordsOf_cons2, List.take_succ_cons, wordsOf_takeS t (b :: r) i]
    rfl
theorem wordsOf_one (t : Int) {st : List Int} (h : st.length ≤ 1) : wordsOf t st = [] := by
  match st, h with
  | [], _ => rfl
  | [_], _ => rfl
/-- one stand more -/
theorem wordsOf_step (t : Int) (st : List Int) (i : Nat) (h : i + 1 < st.length) : wordsOf t (st.take (i + 2)) = wordsOf t (st.take (i + 1)) ++ [mv t st[i] st[i + 1]] := by
  rw [← wordsOf_takeS, ← wordsOf_takeS, List.take_add_one, wordsOf_get t st i _ _ (List.getElem?_eq_getElem (by omega)) (List.getElem?_eq_getElem h)]
  rfl
theorem lies_step (l t0 : Int) (st : List Int) (i : Nat) (h : i + 1 < st.length) :
    lies l (st.take (i + 2)) ((wordsOf t0 st).take (i + 1)) = (lies l (st.take (i + 1)) ((wordsOf t0 st).take i)).filter fun t => decide (mv t st[i] st[i + 1] = mv t0 st[i] st[i + 1]) := by
  unfold lies
  rw [List.filter_filter]
  refine List.filter_congr fun t _ => ?_
  rw [wordsOf_takeS, wordsOf_takeS, wordsOf_step t st i h, wordsOf_step t0 st i h]
  have e : (wordsOf t (st.take (i + 1)) ++ [mv t st[i] st[i + 1]] = wordsOf t0 (st.take (i + 1)) ++ [mv t0 st[i] st[i + 1]]) ↔ (mv t st[i] st[i + 1] = mv t0 st[i] st[i + 1] ∧ wordsOf t (st.take (i + 1)) = wordsOf t0 (st.take (i + 1))) := by
    constructor
    · intro h2
      obtain ⟨h3, h4⟩ := List.append_inj' h2 rfl
      exact ⟨by simpa using h4, h3⟩
    · rintro ⟨h3, h4⟩
      rw [h3, h4]
  rw [← Bool.decide_and]
  exact decide_eq_decide.mpr e
theorem ab_cases (i : Int) : (0 ≤ i ∧ ab i = i) ∨ (i < 0 ∧ ab i = -i) := by
  unfold ab
  split
  · exact .inr ⟨by omega, rfl⟩
  · exact .inl ⟨by omega, rfl⟩
theorem mv_cases (t b n : Int) : (mv t b n = .warm ∧ ab (t - n) < ab (t - b)) ∨ (mv t b n = .cold ∧ ab (t - b) < ab (t - n)) ∨ (mv t b n = .same ∧ ab (t - b) = ab (t - n)) := by
  unfold mv word
  split
  · exact .inl ⟨rfl, by assumption⟩
  · split
    · exact .inr (.inl ⟨rfl, by assumption⟩)
    · exact .inr (.inr ⟨rfl, by omega⟩)
theorem mv_side (t b n : Int) : (mv t b n = .warm ∧ ((b < n ∧ b + n < 2 * t) ∨ (n < b ∧ 2 * t < b + n))) ∨ (mv t b n = .cold ∧ ((b < n ∧ 2 * t < b + n) ∨ (n < b ∧ b + n < 2 * t))) ∨ (mv t b n = .same ∧ (b = n ∨ 2 * t = b + n)) := by
  have h1 := ab_cases (t - b)
  have h2 := ab_cases (t - n)
  rcases mv_cases t b n with ⟨e, h⟩ | ⟨e, h⟩ | ⟨e, h⟩
  · exact .inl ⟨e, by omega⟩
  · exact .inr (.inl ⟨e, by omega⟩)
  · exact .inr (.inr ⟨e, by omega⟩)
theorem mv_warm {t b n : Int} : mv t b n = .warm ↔ (b < n ∧ b + n < 2 * t) ∨ (n < b ∧ 2 * t < b + n) := by
  rcases mv_side t b n with ⟨e, h⟩ | ⟨e, h⟩ | ⟨e, h⟩
  · exact ⟨fun _ => h, fun _ => e⟩
  · exact ⟨fun z => (by rw [e] at z; cases z), fun z => (by omega)⟩
  · exact ⟨fun z => (by rw [e] at z; cases z), fun z => (by omega)⟩
theorem mv_cold {t b n : Int} : mv t b n = .cold ↔ (b < n ∧ 2 * t < b + n) ∨ (n < b ∧ b + n < 2 * t) := by
  rcases mv_side t b n with ⟨e, h⟩ | ⟨e, h⟩ | ⟨e, h⟩
  · exact ⟨fun z => (by rw [e] at z; cases z), fun z => (by omega)⟩
  · exact ⟨fun _ => h, fun _ => e⟩
  · exact ⟨fun z => (by rw [e] at z; cases z), fun z => (by omega)⟩
theorem mv_same {t b n : Int} : mv t b n = .same ↔ b = n ∨ 2 * t = b + n := by
  rcases mv_side t b n with ⟨e, h⟩ | ⟨e, h⟩ | ⟨e, h⟩
  · exact ⟨fun z => (by rw [e] at z; cases z), fun z => (by omega)⟩
  · exact ⟨fun z => (by rw [e] at z; cases z), fun z => (by omega)⟩
  · exact ⟨fun _ => h, fun _ => e⟩
theorem mv_convex (w : Wo) (b n x y z : Int) (h1 : x < y) (h2 : y < z) (hx : mv x b n = w) (hz : mv z b n = w) : mv y b n = w := by
  cases w with
  | warm =>
    have := mv_warm.mp hx
    have := mv_warm.mp hz
    exact mv_warm.mpr (by omega)
  | cold =>
    have := mv_cold.mp hx
    have := mv_cold.mp hz
    exact mv_cold.mpr (by omega)
  | same =>
    have := mv_same.mp hx
    have := mv_same.mp hz
    exact mv_same.mpr (by omega)
theorem wordsOf_convex (x y z : Int) (h1 : x < y) (h2 : y < z) : ∀ (st : List Int) (ws : List Wo), wordsOf x st = ws → wordsOf z st = ws → wordsOf y st = ws
  | [], ws, hx, _ => hx
  | [_], ws, hx, _ => hx
  | a :: b :: r, ws, hx, hz => by
    rw [wordsOf_cons2] at hx hz ⊢
    cases ws with
    | nil => cases hx
    | cons w ws =>
      obtain ⟨p1, p2⟩ := List.cons.inj hx
      obtain ⟨q1, q2⟩ := List.cons.inj hz
      rw [mv_convex w a b x y z h1 h2 p1 q1, wordsOf_convex x y z h1 h2 (b :: r) ws p2 q2]
theorem lies_stretch (l : Int) (st : List Int) (ws : List Wo) : ∃ a b, lies l st ws = rng a b :=
  rng_convex (fun x y z h1 h2 hx hz => decide_eq_true (wordsOf_convex x y z h1 h2 st ws (of_decide_eq_true hx) (of_decide_eq_true hz))) _ 1 (l + 1) rfl
theorem mem_lies {l t : Int} {st : List Int} {ws : List Wo} : t ∈ lies l st ws ↔ (1 ≤ t ∧ t ≤ l) ∧ wordsOf t st = ws := by
  unfold lies
  rw [List.mem_filter, mem_rng, decide_eq_true_iff]
  constructor
  · rintro ⟨⟨h1, h2⟩, h3⟩
    exact ⟨⟨h1, by omega⟩, h3⟩
  · rintro ⟨⟨h1, h2⟩, h3⟩
    exact ⟨⟨h1, by omega⟩, h3⟩
theorem lies_all (l : Int) {st : List Int} (h : st.length ≤ 1) : lies l st [] = rng 1 (l + 1) := by
  unfold lies
  exact List.filter_eq_self.mpr fun t _ => decide_eq_true (wordsOf_one t h)
theorem mv_mirror (c t e l : Int) : mv (c - t) (c - e) (c - l) = mv t e l := by
  unfold mv
  have h1 : ab (c - t - (c - e)) = ab (t - e) := by
    unfold ab
    split <;> split <;> omega
  have h2 : ab (c - t - (c - l)) = ab (t - l) := by
    unfold ab
    split <;> split <;> omega
  rw [h1, h2]
theorem wordsOf_mirror (c t : Int) : ∀ st : List Int, wordsOf (c - t) (st.map fun p => c - p) = wordsOf t st
  | [] => rfl
  | [_] => rfl
  | a :: b :: r => by
    show mv (c - t) (c - a) (c - b) :: wordsOf (c - t) ((b :: r).map fun p => c - p) = _
    rw [mv_mirror, wordsOf_mirror c t (b :: r)]
    rfl
theorem rng_mirror : ∀ (n : Nat) (lo hi c : Int), (hi - lo).toNat = n → ((rng lo hi).reverse).map (fun x => c - x) = rng (c - hi + 1) (c - lo + 1)
  | 0, lo, hi, c, hn => by
    rw [rng_nil (by omega), rng_nil (by omega)]
    rfl
  | n + 1, lo, hi, c, hn => by
    rw [rng_cons (by omega), List.reverse_cons, List.map_append, rng_mirror n (lo + 1) hi c (by omega)]
    have e : c - (lo + 1) + 1 = c - lo := by omega
    rw [e, rng_snoc (by omega)]
    rfl
theorem lies_mirror (l : Int) (st : List Int) (ws : List Wo) : lies l (st.map fun p => l + 1 - p) ws = ((lies l st ws).reverse).map fun x => l + 1 - x := by
  have e : rng 1 (l + 1) = ((rng 1 (l + 1)).reverse).map fun x => l + 1 - x := by
    rw [rng_mirror _ 1 (l + 1) (l + 1) rfl]
    congr 1 <;> omega
  unfold lies
  rw [← List.filter_reverse]
  conv => lhs; rw [e]
  rw [List.filter_map]
  congr 1
  refine List.filter_congr fun t _ => ?_
  show decide (wordsOf (l + 1 - t) (st.map fun p => l + 1 - p) = ws) = decide (wordsOf t st = ws)
  rw [wordsOf_mirror]
def turn : Wo → Wo
  | .warm => .cold
  | .cold => .warm
  | .same => .same
theorem mv_turn (t e l : Int) : mv t l e = turn (mv t e l) := by
  unfold mv word
  by_cases h1 : ab (t - l) < ab (t - e)
  · rw [if_neg (by omega), if_pos h1, if_pos h1]
    rfl
  · by_cases h2 : ab (t - e) < ab (t - l)
    · rw [if_pos h2, if_neg h1, if_pos h2]
      rfl
    · rw [if_neg h2, if_neg h1, if_neg h1, if_neg h2]
      rfl
theorem wordsOf_snoc (t : Int) : ∀ (xs : List Int) (y x : Int), wordsOf t (xs ++ [y, x]) = wordsOf t (xs ++ [y]) ++ [mv t y x]
  | [], y, x => rfl
  | [a], y, x => rfl
  | a :: b :: r, y, x => by
    show mv t a b :: wordsOf t (b :: r ++ [y, x]) = (mv t a b :: wordsOf t (b :: r ++ [y])) ++ [mv t y x]
    rw [wordsOf_snoc t (b :: r) y x]
    rfl
theorem wordsOf_back (t : Int) : ∀ st : List Int, (wordsOf t st.reverse).reverse = (wordsOf t st).map turn
  | [] => rfl
  | [_] => rfl
  | a :: b :: r => by
    have e : (a :: b :: r).reverse = r.reverse ++ [b, a] := by simp
    have e2 : r.reverse ++ [b] = (b :: r).reverse := by simp
    rw [e, wordsOf_snoc, e2, List.reverse_append, wordsOf_back t (b :: r), wordsOf_cons2, List.map_cons, ← mv_turn]
    rfl
theorem in_ints (t : Int) (ns : List Int) : inV (V.int t) (ns.map V.int) = decide (t ∈ ns) := by
  unfold inV
  rw [List.any_map]
  induction ns with
  | nil => rfl
  | cons n r ih =>
    rw [List.any_cons, ih]
    show ((n == t) || decide (t ∈ r)) = decide (t ∈ n :: r)
    by_cases h1 : n = t
    · subst h1
      simp
    · have h2 : ¬ t = n := fun e => h1 e.symm
      simp [h1, h2]
theorem flat_ints (ns : List Int) : (ns.map V.int).all flatV = true := by
  rw [List.all_map, List.all_eq_true]
  intro n _
  rfl
theorem cut_to (xs : List V) (k : Nat) : cutV xs none (some (k : Int)) = xs.take k := by
  unfold cutV
  rw [HT.sIx_none, HT.sIx_nat, List.drop_zero, Nat.sub_zero]
  by_cases h : k ≤ xs.length
  · rw [Nat.min_eq_left h]
  · rw [Nat.min_eq_right (by omega), List.take_of_length_le (Nat.le_refl _), List.take_of_length_le (by omega)]
/-! ### deeds -/
theorem wordsOf_two (t e l : Int) : ∀ st0 : List Int, wordsOf t (st0 ++ [e, l]) = wordsOf t (st0 ++ [e]) ++ [mv t e l]
  | [] => rfl
  | [a] => rfl
  | a :: b :: r => by
    have := wordsOf_two t e l (b :: r)
    show mv t a b :: wordsOf t (b :: r ++ [e, l]) = mv t a b :: wordsOf t (b :: r ++ [e]) ++ [mv t e l]
    rw [this]
    rfl
inductive Deed where
  | stand (v : V)
  | answer (o : Option Wo)
  | back (v : V)
def Deed.word : Deed → Str
  | .stand _ => "stand"
  | .answer _ => "answer"
  | .back _ => "back"
def Deed.val : Deed → V
  | .stand v => v
  | .answer (some w) => vW w
  | .answer none => .str hotS
  | .back v => v
def Deed.ok : Deed → Prop
  | .stand v => Sm v
  | .answer _ => True
  | .back _ => True
def intOf : V → Int
  | .int i => i
  | _ => 0
abbrev Stt := List Int × List Wo
def waitsB (s : Stt) : Bool := decide (s.2.length + 1 < s.1.length)
/-- the state ahead of what was done last -/
def prevS (s : Stt) : Stt := if waitsB s = true ∨ s.1.length = 1 then (s.1.dropLast, s.2) else (s.1, s.2.dropLast)
def stepD (L : Int) (s : Stt) : Deed → Sum Str Stt
  | .stand v => if isPl v L = false then .inl "NoPlace" else if waitsB s = true then .inl "NotNow" else .inr (s.1 ++ [intOf v], s.2)
  | .answer none => .inl "NoAnswer"
  | .answer (some w) => if waitsB s = false then .inl "NotNow" else if lies L s.1 (s.2 ++ [w]) = [] then .inl "Never" else .inr (s.1, s.2 ++ [w])
  | .back _ => if s.1 = [] then .inl "NothingLeft" else .inr (prevS s)
/-- what stands and answers can be -/
structure Val (L : Int) (s : Stt) : Prop where
  pl : Places L s.1
  sh : (s.1 = [] ∧ s.2 = []) ∨ s.1.length = s.2.length + 1 ∨ s.1.length = s.2.length + 2
/-- the places left ahead of all answers and behind each -/
def pref (L : Int) (s : Stt) : List (List Int) := (List.range (s.2.length + 1)).map fun j => lies L (s.1.take (j + 1)) (s.2.take j)
theorem pref_len (L : Int) (s : Stt) : (pref L s).length = s.2.length + 1 := by
  unfold pref
  rw [List.length_map, List.length_range]
theorem pref_last (L : Int) (s : Stt) : ∃ fs, pref L s = fs ++ [lies L (s.1.take (s.2.length + 1)) s.2] ∧ fs.length = s.2.length := by
  refine ⟨(List.range s.2.length).map fun j => lies L (s.1.take (j + 1)) (s.2.take j), ?_, by rw [List.length_map, List.length_range]⟩
  unfold pref
  rw [List.range_succ, List.map_append]
  show _ ++ [lies L (s.1.take (s.2.length + 1)) (s.2.take s.2.length)] = _
  rw [List.take_length]
theorem lies_one (L p : Int) : lies L [p] [] = lies L [] [] := rfl
theorem pref_stand {L : Int} {s : Stt} (v : Val L s) (hw : waitsB s = false) (p : Int) : pref L (s.1 ++ [p], s.2) = pref L s := by
  have hw : ¬ s.2.length + 1 < s.1.length := of_decide_eq_false hw
  unfold pref
  refine List.map_congr_left fun j hj => ?_
  have hj := List.mem_range.mp hj
  dsimp only at hj ⊢
  rcases v.sh with ⟨h1, h2⟩ | h | h
  · rw [h1, h2]
    rw [h2] at hj
    have : j = 0 := by simp at hj; omega
    rw [this]
    rfl
  · rw [List.take_append_of_le_length (by omega)]
  · omega
theorem pref_answer {L : Int} {s : Stt} (hl : s.1.length = s.2.length + 2) (w : Wo) : pref L (s.1, s.2 ++ [w]) = pref L s ++ [lies L s.1 (s.2 ++ [w])] := by
  unfold pref
  have e1 : (s.2 ++ [w]).length + 1 = (s.2.length + 1) + 1 := by rw [List.length_append]; rfl
  show (List.range ((s.2 ++ [w]).length + 1)).map _ = _
  rw [e1, List.range_succ, List.map_append]
  have e2 : ([s.2.length + 1].map fun j => lies L (s.1.take (j + 1)) ((s.2 ++ [w]).take j)) = [lies L s.1 (s.2 ++ [w])] := by
    show [lies L (s.1.take (s.2.length + 1 + 1)) ((s.2 ++ [w]).take (s.2.length + 1))] = _
    rw [List.take_of_length_le (by omega), List.take_of_length_le (by rw [List.length_append]; show s.2.length + 1 ≤ _; omega)]
  rw [e2]
  congr 1
  refine List.map_congr_left fun j hj => ?_
  have hj := List.mem_range.mp hj
  dsimp only
  rw [List.take_append_of_le_length (by omega)]
theorem pref_back_stand {L : Int} {s : Stt} (v : Val L s) (hc : waitsB s = true ∨ s.1.length = 1) : pref L (s.1.dropLast, s.2) = pref L s := by
  unfold pref
  refine List.map_congr_left fun j hj => ?_
  have hj := List.mem_range.mp hj
  dsimp only at hj ⊢
  rcases v.sh with ⟨h1, h2⟩ | h | h
  · rw [h1, h2]
    rfl
  · have h1 : s.1.length = 1 := by
      rcases hc with z | z
      · have := of_decide_eq_true z
        omega
      · exact z
    have h0 : s.2 = [] := List.length_eq_zero_iff.mp (by omega)
    have hj0 : j = 0 := by
      rw [h0] at hj
      simp at hj
      omega
    obtain ⟨p, hp⟩ := List.length_eq_one_iff.mp h1
    rw [hp, h0, hj0]
    rfl
  · rw [List.dropLast_eq_take, List.take_take, Nat.min_eq_left (by omega)]
theorem pref_back_answer {L : Int} {s : Stt} (h : s.2 ≠ []) : pref L (s.1, s.2.dropLast) = (pref L s).dropLast := by
  have hl : 0 < s.2.length := List.length_pos_iff.mpr h
  unfold pref
  have e1 : s.2.dropLast.length + 1 = s.2.length := by rw [List.length_dropLast]; omega
  show (List.range (s.2.dropLast.length + 1)).map _ = _
  rw [e1, List.range_succ, List.map_append]
  show _ = (_ ++ [_]).dropLast
  rw [List.dropLast_concat]
  refine List.map_congr_left fun j hj => ?_
  have hj := List.mem_range.mp hj
  dsimp only
  rw [List.dropLast_eq_take, List.take_take, Nat.min_eq_left (by omega)]
theorem lies_more {L : Int} {st0 : List Int} {e l : Int} {ws : List Wo} (hl : st0.length = ws.length) (w : Wo) : lies L (st0 ++ [e, l]) (ws ++ [w]) = (lies L ((st0 ++ [e, l]).take (ws.length + 1)) ws).filter fun t => decide (mv t e l = w) := by
  have e1 : (st0 ++ [e, l]).take (ws.length + 1) = st0 ++ [e] := by
    rw [← hl, List.take_append]
    have : st0.take (st0.length + 1) = st0 := List.take_of_length_le (by omega)
    rw [this, show st0.length + 1 - st0.length = 1 by omega]
    rfl
  rw [e1]
  unfold lies
  rw [List.filter_filter]
  refine List.filter_congr fun t _ => ?_
  rw [wordsOf_two]
  have hwl : (wordsOf t (st0 ++ [e])).length = ws.length := by
    rw [wordsOf_len, List.length_append]
    show st0.length + 1 - 1 = ws.length
    omega
  have key : (wordsOf t (st0 ++ [e]) ++ [mv t e l] = ws ++ [w]) ↔ (mv t e l = w ∧ wordsOf t (st0 ++ [e]) = ws) := by
    constructor
    · intro z
      obtain ⟨z1, z2⟩ := List.append_inj z hwl
      exact ⟨(List.cons.inj z2).1, z1⟩
    · rintro ⟨z1, z2⟩
      rw [z1, z2]
  by_cases h1 : mv t e l = w <;> by_cases h2 : wordsOf t (st0 ++ [e]) = ws <;> simp [key, h1, h2]
theorem Val.prev {L : Int} {s : Stt} (v : Val L s) (h : s.1 ≠ []) : Val L (prevS s) := by
  unfold prevS
  have hp : 0 < s.1.length := List.length_pos_iff.mpr h
  split
  · rename_i hc
    refine ⟨fun n hn => v.pl n (List.dropLast_subset _ hn), ?_⟩
    dsimp only
    rcases v.sh with ⟨h1, _⟩ | h1 | h1
    · exact absurd h1 h
    · have h2 : s.1.length = 1 := by
        rcases hc with z | z
        · have := of_decide_eq_true z
          omega
        · exact z
      refine .inl ⟨List.length_eq_zero_iff.mp (by rw [List.length_dropLast]; omega), List.length_eq_zero_iff.mp (by omega)⟩
    · refine .inr (.inl ?_)
      rw [List.length_dropLast]
      omega
  · rename_i hc
    have hw : ¬ s.2.length + 1 < s.1.length := fun z => hc (.inl (decide_eq_true z))
    have h1 : ¬ s.1.length = 1 := fun z => hc (.inr z)
    refine ⟨v.pl, ?_⟩
    dsimp only
    rcases v.sh with ⟨h2, _⟩ | h2 | h2
    · exact absurd h2 h
    · refine .inr (.inr ?_)
      rw [List.length_dropLast]
      omega
    · omega
theorem Val.step {L : Int} {s s' : Stt} {D : Deed} (v : Val L s) (h : stepD L s D = .inr s') : Val L s' := by
  cases D with
  | stand x =>
    simp only [stepD] at h
    split at h
    · cases h
    · split at h
      · cases h
      · rename_i h1 h2
        obtain ⟨p, rfl, p1, p2⟩ := isPl_int (Bool.eq_false_or_eq_true _ |>.resolve_right h1)
        cases h
        have hw : ¬ s.2.length + 1 < s.1.length := fun z => h2 (decide_eq_true z)
        refine ⟨fun n hn => ?_, ?_⟩
        · rcases List.mem_append.mp hn with z | z
          · exact v.pl n z
          · rw [List.mem_singleton.mp z]
            exact ⟨p1, p2⟩
        · show (s.1 ++ [p] = [] ∧ _) ∨ (s.1 ++ [p]).length = _ ∨ (s.1 ++ [p]).length = _
          rw [List.length_append]
          show _ ∨ s.1.length + 1 = s.2.length + 1 ∨ s.1.length + 1 = s.2.length + 2
          rcases v.sh with ⟨z1, z2⟩ | z | z
          · rw [z1, z2]
            exact .inr (.inl rfl)
          · exact .inr (.inr (by omega))
          · omega
  | answer o =>
    cases o with
    | none => cases h
    | some w =>
      simp only [stepD] at h
      split at h
      · cases h
      · split at h
        · cases h
        · rename_i h1 h2
          cases h
          have hw : s.2.length + 1 < s.1.length := of_decide_eq_true (Bool.eq_false_or_eq_true _ |>.resolve_right h1)
          refine ⟨v.pl, ?_⟩
          show _ ∨ s.1.length = (s.2 ++ [w]).length + 1 ∨ _
          rw [List.length_append]
          rcases v.sh with ⟨z1, z2⟩ | z | z
          · rw [z1, z2] at hw
            simp at hw
          · omega
          · exact .inr (.inl (by show s.1.length = s.2.length + 1 + 1; omega))
  | back x =>
    simp only [stepD] at h
    split at h
    · cases h
    · rename_i h1
      cases h
      exact v.prev h1
theorem cut_take (xs : List V) (k : Nat) : cutV xs none (some (k : Int)) = xs.take k := by
  unfold cutV
  rw [HT.sIx_none, HT.sIx_nat, List.drop_zero, Nat.sub_zero]
  by_cases h : k ≤ xs.length
  · rw [Nat.min_eq_left h]
  · rw [Nat.min_eq_right (by omega), List.take_length, List.take_of_length_le (by omega)]
def sp__law_open (K : PySem.W.Frag) : Sp := fun vs H Q _ => ∃ (l : Int) (a b : Addr) (st : List Int) (ws : List Wo), vs = [.int l, .ref a, .ref b] ∧ 1 ≤ l ∧ l ≤ 60 ∧ SqL K H a (st.map V.int) ∧ SqL K H b (ws.map vW) ∧ st.length ≤ 900 ∧
  ∀ p H', H p = none → Ex H H' → H' p = some (.tup ((lies l (st.take (ws.length + 1)) ws).map V.int)) → Q (.ref p) H'
abbrev N__law_open : List Str := ["length", "stands", "words", "some", "thing"]
def t__law_open (K : PySem.W.Frag) : TS := (tSeq (tAsg (tLst tNil) (gName 3))
  (tSeq (tFor (iRng2 (tCons (tC (.int 1)) (tCons (tOp (rI0 fun i j => .int (i + j)) (tVar 0) (tC (.int 1))) tNil))) (gName 4) (tIfS (tTest (tOp (rEqD K) (tCall (sp__law_words K) [] E0 (tCons (tVar 4) (tCons (tSl (rSlL K) (tVar 1) tNoPart (tPart (tOp (rI0 fun i j => .int (i + j)) (tCB (rLenQ K) (tCons (tVar 2) tNil)) (tC (.int 1))))) tNil))) (tVar 2))) (tDrop (tBM K "list" rAppend (tVar 3) (tCons (tVar 4) tNil))) tNext))
  (tRet (tCB (rTupleOf K) (tCons (tVar 3) tNil)))))
theorem pure__law_open {K : PySem.W.Frag} {vs : List V} {H : Hp} {Q : VK} {E : XK} (h : sp__law_open K vs H Q E) : t__law_open K { nx := fun _ H' => Q .non H', rt := Q } (start N__law_open vs) H := by
  obtain ⟨l, a, b, st, ws, rfl, h1, h6, ha, hb, hl, q⟩ := h
  refine ⟨Nat.zero_le _, fun f nf => ?_⟩
  have e0 : Ex H (upd H f (.lst [])) := Ex.new nf
  refine ⟨_, rfl, l, 1, rfl, rfl, 1, _, rfl, ⟨by decide, by decide, by omega, by omega⟩, ?_⟩
  have en : (l + 1 - 1).toNat = l.toNat := by omega
  refine for_range (lo := 1) (n := (l + 1 - 1).toNat) (fun i σ H' => ∃ kv : Option V, σ = [some (.int l), some (.ref a), some (.ref b), some (.ref f), kv] ∧ Ex H H' ∧ H' f = some (.lst (((rng 1 (1 + (i : Int))).filter fun t => decide (wordsOf t (st.take (ws.length + 1)) = ws)).map V.int)))
    ⟨none, rfl, e0, by rw [rng_nil (by omega)]; exact upd_same⟩ ?_ ?_
  · rintro i σ H' hi ⟨kv, rfl, he, hf⟩
    refine ⟨_, rfl, _, rfl, _, rfl, b, _, rfl, .inl (ex_l he hb), _, 1, rfl, rfl, _, rfl, a, _, rfl, ex_l he ha, fun c nc => ?_⟩
    have ecut : cutV (st.map V.int) none (some (((ws.map vW).length : Nat) + 1 : Int)) = (st.take (ws.length + 1)).map V.int := by
      rw [List.length_map]
      have := cut_take (st.map V.int) (ws.length + 1)
      rw [List.map_take]
      exact this
    rw [ecut]
    have e1 : Ex H' (upd H' c (.lst ((st.take (ws.length + 1)).map V.int))) := Ex.new nc
    have hc : (upd H' c (.lst ((st.take (ws.length + 1)).map V.int))) c = some (.lst ((st.take (ws.length + 1)).map V.int)) := upd_same
    generalize upd H' c (.lst ((st.take (ws.length + 1)).map V.int)) = H1 at e1 hc ⊢
    refine ⟨_, c, _, rfl, SqL.of hc, ?_, fun p H2 np e2 hp => ?_⟩
    · exact Nat.le_trans (List.length_take_le' _ _) (by omega)
    refine ⟨_, rfl, ?_⟩
    have e02 := (he.trans e1).trans e2
    have nfH : H f = none := nf
    have hf2 := e2 _ _ (e1 _ _ hf)
    refine eqWW (SqL.of hp) (ex_l e02 hb) ⟨_, rfl, ?_⟩
    have esn : rng 1 (1 + ((i + 1 : Nat) : Int)) = rng 1 (1 + (i : Int)) ++ [1 + (i : Int)] := by
      have : (1 + ((i + 1 : Nat) : Int)) = (1 + (i : Int)) + 1 := by omega
      rw [this]
      exact rng_snoc (by omega)
    by_cases hw : wordsOf (1 + (i : Int)) (st.take (ws.length + 1)) = ws
    · rw [decide_eq_true hw]
      refine iteT ⟨_, rfl, .inl ⟨rfl, _, SqL.of hf2⟩, _, rfl, f, _, _, rfl, rfl, hf2, ?_, _, rfl, e02.mut nf, ?_⟩
      · rw [List.length_map]
        refine Nat.lt_of_le_of_lt (List.length_filter_le _ _) ?_
        rw [rng_len]
        exact small1000 (by omega)
      · have e1' : ([1 + (i : Int)].filter fun t => decide (wordsOf t (st.take (ws.length + 1)) = ws)) = [1 + (i : Int)] := List.filter_cons_of_pos (decide_eq_true hw)
        rw [upd_same, esn, List.filter_append, List.map_append, e1']
        rfl
    · rw [decide_eq_false hw]
      refine iteF ⟨_, rfl, e02, ?_⟩
      have e1' : ([1 + (i : Int)].filter fun t => decide (wordsOf t (st.take (ws.length + 1)) = ws)) = [] := List.filter_cons_of_neg (by rw [decide_eq_false hw]; decide)
      rw [esn, List.filter_append, e1', List.append_nil]
      exact hf2
  · rintro σ H' ⟨kv, rfl, he, hf⟩
    have ee : (1 + (((l + 1 - 1).toNat : Nat) : Int)) = l + 1 := by omega
    rw [ee] at hf
    refine ⟨_, rfl, f, _, rfl, .inl ⟨SqL.of hf, fun u nu => ?_⟩⟩
    exact q u _ (fresh_back he nu) (he.trans (Ex.new nu)) upd_same
theorem len__law_open {K : PySem.W.Frag} {vs : List V} {H : Hp} {Q : VK} {E : XK} (h : sp__law_open K vs H Q E) : vs.length = 3 := by
  obtain ⟨l, a, b, st, ws, rfl, _⟩ := h
  rfl
def sp__law_after (K : PySem.W.Frag) : Sp := fun vs H Q _ => ∃ (L : Int) (q d A B : Addr) (s : Stt) (D : Deed), vs = [.int L, .ref q, .ref d] ∧ D.ok ∧ (∀ y, D ≠ .back y) ∧ SqT K H q [.ref A, .ref B] ∧ H A = some (.lst (s.1.map V.int)) ∧ H B = some (.lst (s.2.map vW)) ∧ SqT K H d [.str D.word, D.val] ∧ Val L s ∧ 1 ≤ L ∧ L ≤ 60 ∧ s.1.length ≤ 800 ∧
  (∀ nm, stepD L s D = .inl nm → ∀ p H', H p = none → Ex H H' → H' p = some (.lst [.str nm, .bl true]) → Q (.ref p) H') ∧
  ∀ s', stepD L s D = .inr s' → ∀ p A' B' H', H p = none → (A' = A ∨ H A' = none) → (B' = B ∨ H B' = none) → Ex H H' → H' p = some (.tup [.ref A', .ref B']) → H' A' = some (.lst (s'.1.map V.int)) → H' B' = some (.lst (s'.2.map vW)) → Q (.ref p) H'
abbrev N__law_after : List Str := ["length", "state", "deed", "stands", "words", "word", "thing", "waits"]
def t__law_after (K : PySem.W.Frag) : TS := (tSeq (tAsg (tVar 1) (gTup K 2 (gCons (gName 3) (gCons (gName 4) gNil))))
  (tSeq (tAsg (tVar 2) (gTup K 2 (gCons (gName 5) (gCons (gName 6) gNil))))
  (tSeq (tAsg (tOp (rI0 fun i j => .bl (decide (j < i))) (tOp (rI0 fun i j => .int (i - j)) (tCB (rLenQ K) (tCons (tVar 3) tNil)) (tC (.int 1))) (tCB (rLenQ K) (tCons (tVar 4) tNil))) (gName 7))
  (tSeq (tIfS (tTest (tOp rEq (tVar 5) (tC (.str (Str.ofString "stand"))))) (tSeq (tIfS (tNot (tB (tCall (sp__law_from K) [] E0 (tCons (tVar 6) (tCons (tC (.int 1)) (tCons (tVar 0) tNil)))))) (tRet (tLst (tCons (tC (.str (Str.ofString "NoPlace"))) (tCons (tC (.bl true)) tNil)))) tNext)
  (tRet (tIf (tB (tVar 7)) (tLst (tCons (tC (.str (Str.ofString "NotNow"))) (tCons (tC (.bl true)) tNil))) (tTup (tCons (tOp rCat (tVar 3) (tLst (tCons (tVar 6) tNil))) (tCons (tVar 4) tNil)))))) tNext)
  (tSeq (tIfS (tOr (tNot (tB (tCB (rIsi K) (tCons (tVar 6) (tCons (tC (.ty "str")) tNil))))) (tTest (tOp (rIn K true) (tVar 6) (tLst (tCons (tC (.str (Str.ofString "warm"))) (tCons (tC (.str (Str.ofString "cold"))) (tCons (tC (.str (Str.ofString "same"))) tNil))))))) (tRet (tLst (tCons (tC (.str (Str.ofString "NoAnswer"))) (tCons (tC (.bl true)) tNil)))) tNext)
  (tSeq (tIfS (tNot (tB (tVar 7))) (tRet (tLst (tCons (tC (.str (Str.ofString "NotNow"))) (tCons (tC (.bl true)) tNil)))) tNext)
  (tSeq (tIfS (tTest (tOp (rEqD K) (tCall (sp__law_open K) [] E0 (tCons (tVar 0) (tCons (tVar 3) (tCons (tOp rCat (tVar 4) (tLst (tCons (tVar 6) tNil))) tNil)))) (tTup tNil))) (tRet (tLst (tCons (tC (.str (Str.ofString "Never"))) (tCons (tC (.bl true)) tNil)))) tNext)
  (tRet (tTup (tCons (tVar 3) (tCons (tOp rCat (tVar 4) (tLst (tCons (tVar 6) tNil))) tNil)))))))))))
theorem waits_so (s : Stt) : decide ((s.2.length : Int) < (s.1.length : Int) - 1) = waitsB s := decide_eq_decide.mpr ⟨fun z => (by omega), fun z => (by omega)⟩
theorem pure__law_after {K : PySem.W.Frag} {vs : List V} {H : Hp} {Q : VK} {E : XK} (h : sp__law_after K vs H Q E) : t__law_after K { nx := fun _ H' => Q .non H', rt := Q } (start N__law_after vs) H := by
  obtain ⟨L, q, d, A, B, s, D, rfl, hok, hnb, hq, hA, hB, hd, v, h1, h6, hl, hE, hQ⟩ := h
  have hwl : s.2.length ≤ 800 := by
    rcases v.sh with ⟨_, z⟩ | z | z
    · rw [z]
      exact Nat.zero_le _
    · omega
    · omega
  refine ⟨_, rfl, q, _, rfl, hq, rfl, _, _, rfl, _, [], rfl, rfl, ?_⟩
  refine ⟨_, rfl, d, _, rfl, hd, rfl, _, _, rfl, _, [], rfl, rfl, ?_⟩
  refine ⟨_, rfl, A, _, rfl, .inl (SqL.of hA), _, 1, rfl, rfl, _, rfl, B, _, rfl, .inl (SqL.of hB), _, _, rfl, rfl, ?_⟩
  have ew : decide ((((s.2.map vW).length : Nat) : Int) < (((s.1.map V.int).length : Nat) : Int) - 1) = waitsB s := by
    rw [List.length_map, List.length_map]
    exact waits_so s
  dsimp only [gName]
  rw [ew]
  -- a refusal of two entries
  have two : ∀ (nm : Str) (σ : L2.St) (H1 : Hp), Ex H H1 → stepD L s D = .inl nm → tLst (tCons (tC (.str nm)) (tCons (tC (.bl true)) tNil)) σ H1 Q := fun nm σ H1 e1 hs =>
    ⟨by show 2 ≤ sizeLine; decide, fun p np => hE nm hs p _ (fresh_back e1 np) (e1.trans (Ex.new np)) upd_same⟩
  cases D with
  | back y => exact absurd rfl (hnb y)
  | stand y =>
    dsimp only [Deed.val, Deed.word]
    refine ⟨_, rfl, rfl, _, rfl, ?_⟩
    have e : decide (V.str (Str.ofString "stand") = V.str (Str.ofString "stand")) = true := by decide +kernel
    rw [e]
    refine iteT ⟨_, rfl, _, rfl, y, L, hok, rfl, _, rfl, ?_⟩
    cases hp : isPl y L with
    | false => exact iteT (two "NoPlace" _ H (Ex.refl H) (by simp only [stepD]; rw [if_pos hp]))
    | true =>
      refine iteF ⟨_, rfl, waitsB s, rfl, ?_⟩
      cases hw : waitsB s with
      | true => exact iteT (two "NotNow" _ H (Ex.refl H) (by simp only [stepD]; rw [if_neg (by rw [hp]; decide), if_pos hw]))
      | false =>
        obtain ⟨p, rfl, hp1, hp2⟩ := isPl_int hp
        refine iteF ⟨_, rfl, _, rfl, by show 1 ≤ sizeLine; decide, fun m nm => ?_⟩
        have e1 : Ex H (upd H m (.lst [.int p])) := Ex.new nm
        refine ⟨A, m, _, _, rfl, rfl, e1 _ _ hA, upd_same, ?_, fun c nc => ?_⟩
        · rw [List.length_map]
          exact Nat.le_of_lt (small1000 (by show s.1.length + 1 ≤ 1000; omega))
        have e2 : Ex H (upd (upd H m (.lst [.int p])) c (.lst (s.1.map V.int ++ [.int p]))) := e1.trans (Ex.new nc)
        have hc : (upd (upd H m (.lst [.int p])) c (.lst (s.1.map V.int ++ [.int p]))) c = some (.lst ((s.1 ++ [p]).map V.int)) := by
          rw [upd_same, List.map_append]
          rfl
        generalize upd (upd H m (.lst [.int p])) c (.lst (s.1.map V.int ++ [.int p])) = H2 at e2 hc ⊢
        refine ⟨_, rfl, by show 2 ≤ sizeLine; decide, fun u nu => ?_⟩
        exact hQ (s.1 ++ [p], s.2) (by simp only [stepD]; rw [if_neg (by rw [hp]; decide), if_neg (by rw [hw]; decide)]; rfl) u c B _ (fresh_back e2 nu) (.inr (fresh_back e1 nc)) (.inl rfl) (e2.trans (Ex.new nu)) upd_same ((Ex.new nu) _ _ hc) ((Ex.new nu) _ _ (e2 _ _ hB))
  | answer o =>
    refine ⟨_, rfl, rfl, _, rfl, ?_⟩
    have e : decide (V.str (Deed.word (.answer o)) = V.str (Str.ofString "stand")) = false := (by decide +kernel : decide (V.str ("answer" : Str) = V.str (Str.ofString "stand")) = false)
    rw [e]
    refine iteF ?_
    cases o with
    | none =>
      dsimp only [Deed.val, Deed.word]
      refine ⟨_, rfl, .str hotS, .ty "str", _, _, true, rfl, .ty "str", .base (.str hotS), kit_ty (by decide +kernel), true, rfl, iteF ?_⟩
      refine ⟨_, rfl, by show 3 ≤ sizeLine; decide, fun m nm => ?_⟩
      refine ⟨m, _, rfl, .inl (SqL.of upd_same), by decide +kernel, by decide +kernel, ?_⟩
      have en : (if true = true then !inV (.str hotS) [V.str (Str.ofString "warm"), V.str (Str.ofString "cold"), V.str (Str.ofString "same")] else inV (.str hotS) [V.str (Str.ofString "warm"), V.str (Str.ofString "cold"), V.str (Str.ofString "same")]) = true := by decide +kernel
      rw [en]
      exact ⟨true, rfl, iteT (two "NoAnswer" _ _ (Ex.new nm) rfl)⟩
    | some w =>
      dsimp only [Deed.val, Deed.word]
      refine ⟨_, rfl, vW w, .ty "str", _, _, true, rfl, .ty "str", .base (.str w.str), kit_ty (by decide +kernel), true, rfl, iteF ?_⟩
      refine ⟨_, rfl, by show 3 ≤ sizeLine; decide, fun m nm => ?_⟩
      have e0 : Ex H (upd H m (.lst [V.str (Str.ofString "warm"), V.str (Str.ofString "cold"), V.str (Str.ofString "same")])) := Ex.new nm
      refine ⟨m, _, rfl, .inl (SqL.of upd_same), rfl, by decide +kernel, ?_⟩
      have en : (if true = true then !inV (vW w) [V.str (Str.ofString "warm"), V.str (Str.ofString "cold"), V.str (Str.ofString "same")] else inV (vW w) [V.str (Str.ofString "warm"), V.str (Str.ofString "cold"), V.str (Str.ofString "same")]) = false := by
        cases w <;> decide +kernel
      rw [en]
      generalize upd H m (.lst [V.str (Str.ofString "warm"), V.str (Str.ofString "cold"), V.str (Str.ofString "same")]) = H1 at e0 ⊢
      refine ⟨false, rfl, iteF ⟨_, rfl, waitsB s, rfl, ?_⟩⟩
      cases hw : waitsB s with
      | false => exact iteT (two "NotNow" _ H1 e0 (by simp only [stepD]; rw [if_pos hw]))
      | true =>
        have hl2 : s.1.length = s.2.length + 2 := by
          have hw' : s.2.length + 1 < s.1.length := of_decide_eq_true hw
          rcases v.sh with ⟨z, _⟩ | z | z
          · rw [z] at hw'
            simp at hw'
          · omega
          · exact z
        refine iteF ⟨_, rfl, _, rfl, _, rfl, _, rfl, by show 1 ≤ sizeLine; decide, fun m2 nm2 => ?_⟩
        have e1 : Ex H (upd H1 m2 (.lst [vW w])) := e0.trans (Ex.new nm2)
        refine ⟨B, m2, _, _, rfl, rfl, e1 _ _ hB, upd_same, ?_, fun c nc => ?_⟩
        · rw [List.length_map]
          exact Nat.le_of_lt (small1000 (by show s.2.length + 1 ≤ 1000; omega))
        have e2 : Ex H (upd (upd H1 m2 (.lst [vW w])) c (.lst (s.2.map vW ++ [vW w]))) := e1.trans (Ex.new nc)
        have hc : (upd (upd H1 m2 (.lst [vW w])) c (.lst (s.2.map vW ++ [vW w]))) c = some (.lst ((s.2 ++ [w]).map vW)) := by
          rw [upd_same, List.map_append]
          rfl
        generalize upd (upd H1 m2 (.lst [vW w])) c (.lst (s.2.map vW ++ [vW w])) = H2 at e2 hc ⊢
        refine ⟨L, A, c, s.1, s.2 ++ [w], rfl, h1, h6, SqL.of (e2 _ _ hA), SqL.of hc, by omega, fun p H3 np e3 hp3 => ?_⟩
        have etk : s.1.take ((s.2 ++ [w]).length + 1) = s.1 := List.take_of_length_le (by rw [List.length_append]; show s.1.length ≤ s.2.length + 1 + 1; omega)
        rw [etk] at hp3
        refine ⟨Nat.zero_le _, fun u nu => ?_⟩
        have e4 : Ex H (upd H3 u (.tup [])) := (e2.trans e3).trans (Ex.new nu)
        refine eqTT (ms := []) (SqT.of ((Ex.new nu) _ _ hp3)) (SqT.of upd_same) ⟨_, rfl, ?_⟩
        generalize upd H3 u (.tup []) = H4 at e4 ⊢
        by_cases hn : lies L s.1 (s.2 ++ [w]) = []
        · rw [decide_eq_true hn]
          exact iteT (two "Never" _ H4 e4 (by simp only [stepD]; rw [if_neg (by rw [hw]; decide), if_pos hn]))
        · rw [decide_eq_false hn]
          refine iteF ⟨_, rfl, _, rfl, _, rfl, by show 1 ≤ sizeLine; decide, fun m3 nm3 => ?_⟩
          have e5 : Ex H (upd H4 m3 (.lst [vW w])) := e4.trans (Ex.new nm3)
          refine ⟨B, m3, _, _, rfl, rfl, e5 _ _ hB, upd_same, ?_, fun c3 nc3 => ?_⟩
          · rw [List.length_map]
            exact Nat.le_of_lt (small1000 (by show s.2.length + 1 ≤ 1000; omega))
          have e6 : Ex H (upd (upd H4 m3 (.lst [vW w])) c3 (.lst (s.2.map vW ++ [vW w]))) := e5.trans (Ex.new nc3)
          have hc3 : (upd (upd H4 m3 (.lst [vW w])) c3 (.lst (s.2.map vW ++ [vW w]))) c3 = some (.lst ((s.2 ++ [w]).map vW)) := by
            rw [upd_same, List.map_append]
            rfl
          generalize upd (upd H4 m3 (.lst [vW w])) c3 (.lst (s.2.map vW ++ [vW w])) = H6 at e6 hc3 ⊢
          refine ⟨by show 2 ≤ sizeLine; decide, fun u6 nu6 => ?_⟩
          exact hQ (s.1, s.2 ++ [w]) (by simp only [stepD]; rw [if_neg (by rw [hw]; decide), if_neg hn]) u6 A c3 _ (fresh_back e6 nu6) (.inl rfl) (.inr (fresh_back e5 nc3)) (e6.trans (Ex.new nu6)) upd_same ((Ex.new nu6) _ _ (e6 _ _ hA)) ((Ex.new nu6) _ _ hc3)
theorem len__law_after {K : PySem.W.Frag} {vs : List V} {H : Hp} {Q : VK} {E : XK} (h : sp__law_after K vs H Q E) : vs.length = 3 := by
  obtain ⟨L, q, d, A, B, s, D, rfl, _⟩ := h
  rfl
def sp__law_do (K : PySem.W.Frag) : Sp := fun vs H Q E => ∃ (x dx S W F d : Addr) (L : Int) (s : Stt) (us : List Addr) (D : Deed), vs = [.ref x, .ref d] ∧ D.ok ∧ SqT K H d [.str D.word, D.val] ∧ Sr (SC K) H x dx S W F L s.1 s.2 us (pref L s) ∧ Val L s ∧ 1 ≤ L ∧ L ≤ 60 ∧ s.1.length ≤ 800 ∧
  (∀ nm, stepD L s D = .inl nm → ∀ H', Ex H H' → E (.ref (He.ga K nm)) none H') ∧
  ∀ s', stepD L s D = .inr s' → ∀ H' us', Kp [S, W, F] H H' → Sr (SC K) H' x dx S W F L s'.1 s'.2 us' (pref L s') → Q .non H'
abbrev N__law_do : List Str := ["search", "deed"]
def t__law_do (K : PySem.W.Frag) (E : XK) : TS := (tSeq (tIfS (tTest (tOp (rEqD K) (tOp (rIxT K) (tVar 1) (tC (.int 0))) (tC (.str (Str.ofString "stand"))))) (tRet (tMeth (He.ga K "Search") "stand" (sp_Search_stand K) [] E (tVar 0) (tCons (tOp (rIxT K) (tVar 1) (tC (.int 1))) tNil))) tNext)
  (tRet (tIf (tTest (tOp (rEqD K) (tOp (rIxT K) (tVar 1) (tC (.int 0))) (tC (.str (Str.ofString "back"))))) (tMeth (He.ga K "Search") "back" (sp_Search_back K) [] E (tVar 0) tNil) (tMeth (He.ga K "Search") "answer" (sp_Search_answer K) [] E (tVar 0) (tCons (tOp (rIxT K) (tVar 1) (tC (.int 1))) tNil)))))
theorem eqSS {K : PySem.W.Frag} {H : Hp} {x y : Str} {Q : VK} (hx : SeqAt.shaped (.str x) = true) (hy : SeqAt.shaped (.str y) = true) (q : Q (.bl (PyData.eqv (.str x) (.str y))) H) : rEqD K (.str x) (.str y) H Q := ⟨_, _, .str x, .str y, hx, hy, q⟩
theorem word_sh (D : Deed) : SeqAt.shaped (.str D.word) = true := by
  cases D
  · show SeqAt.shaped (.str ("stand" : Str)) = true
    decide +kernel
  · show SeqAt.shaped (.str ("answer" : Str)) = true
    decide +kernel
  · show SeqAt.shaped (.str ("back" : Str)) = true
    decide +kernel
theorem lies_len (L : Int) (st : List Int) (ws : List Wo) (h : L ≤ 60) : (lies L st ws).length ≤ 900 := by
  refine Nat.le_trans (List.length_filter_le _ _) ?_
  rw [rng_len]
  omega
theorem pure__law_do {K : PySem.W.Frag} {vs : List V} {H : Hp} {Q : VK} {E : XK} (h : sp__law_do K vs H Q E) : t__law_do K E { nx := fun _ H' => Q .non H', rt := Q } (start N__law_do vs) H := by
  obtain ⟨x, dx, S, W, F, d, L, s, us, D, rfl, hok, hd, r, v, h1, h6, hl, hE, hQ⟩ := h
  refine ⟨_, rfl, d, _, 0, .str D.word, rfl, rfl, hd, rfl, ?_⟩
  dsimp only [tC]
  refine eqSS (word_sh D) (by decide +kernel) ⟨_, rfl, ?_⟩
  cases D with
  | stand y =>
    have e : PyData.eqv (.str (Deed.word (.stand y))) (.str (Str.ofString "stand")) = true := (by decide +kernel : PyData.eqv (.str ("stand" : Str)) (.str (Str.ofString "stand")) = true)
    rw [e]
    refine iteT ⟨_, rfl, x, dx, _, rfl, r.ins, rfl, _, rfl, d, _, 1, y, rfl, rfl, hd, rfl, ?_⟩
    refine ⟨x, dx, S, W, F, L, y, s.1, s.2, us, pref L s, rfl, hok, r, by omega, h6, by omega, fun hp => ?_, fun hp hw => ?_, ?_⟩
    · exact hE "NoPlace" (by simp only [stepD]; rw [if_pos hp]) H (Ex.refl H)
    · exact hE "NotNow" (by simp only [stepD]; rw [if_neg (by rw [hp]; decide), if_pos (show waitsB s = true from decide_eq_true hw)]) H (Ex.refl H)
    · rintro p rfl hp1 hp2 hw H' k' r'
      have hpl : isPl (.int p) L = true := decide_eq_true ⟨hp1, hp2⟩
      have hwb : waitsB s = false := decide_eq_false hw
      refine hQ (s.1 ++ [p], s.2) (by simp only [stepD]; rw [if_neg (by rw [hpl]; decide), if_neg (by rw [hwb]; decide)]; rfl) H' us (k'.sub fun a ha => ?_) ?_
      · rw [List.mem_singleton.mp ha]
        exact List.mem_cons_self
      · rw [pref_stand v hwb p]
        exact r'
  | back y =>
    have e : PyData.eqv (.str (Deed.word (.back y))) (.str (Str.ofString "stand")) = false := (by decide +kernel : PyData.eqv (.str ("back" : Str)) (.str (Str.ofString "stand")) = false)
    rw [e]
    refine iteF ⟨_, rfl, d, _, 0, .str "back", rfl, rfl, hd, rfl, ?_⟩
    dsimp only [tC]
    refine eqSS (by decide +kernel) (by decide +kernel) ⟨_, rfl, ?_⟩
    have e2 : PyData.eqv (.str ("back" : Str)) (.str (Str.ofString "back")) = true := by decide +kernel
    rw [e2]
    refine iteT ⟨_, rfl, x, dx, _, rfl, r.ins, rfl, ?_⟩
    refine ⟨x, dx, S, W, F, L, s.1, s.2, us, pref L s, rfl, r, fun hs => ?_, fun hs hc H' k' r' => ?_, fun hs hc => ?_⟩
    · exact hE "NothingLeft" (by simp only [stepD]; rw [if_pos hs]) H (Ex.refl H)
    · have hc' : waitsB s = true ∨ s.1.length = 1 := hc.imp_left fun z => decide_eq_true z
      refine hQ (s.1.dropLast, s.2) (by simp only [stepD]; rw [if_neg hs]; unfold prevS; rw [if_pos hc']) H' us (k'.sub fun a ha => ?_) ?_
      · rw [List.mem_singleton.mp ha]
        exact List.mem_cons_self
      · rw [pref_back_stand v hc']
        exact r'
    · have hc' : ¬ (waitsB s = true ∨ s.1.length = 1) := fun z => hc (z.imp_left fun z => of_decide_eq_true z)
      have hpos : 0 < s.1.length := List.length_pos_iff.mpr hs
      have hws : s.2 ≠ [] := fun z => by
        have z0 : s.2.length = 0 := by rw [z]; rfl
        rcases v.sh with ⟨z1, _⟩ | z1 | z1
        · exact hs z1
        · exact hc (.inr (by omega))
        · exact hc (.inl (by omega))
      refine ⟨hws, fun z => ?_, fun H' k' r' => ?_⟩
      · have := pref_len L s
        rw [z] at this
        simp at this
      · refine hQ (s.1, s.2.dropLast) (by simp only [stepD]; rw [if_neg hs]; unfold prevS; rw [if_neg hc']) H' us.dropLast (k'.sub fun a ha => List.mem_cons_of_mem _ ha) ?_
        rw [pref_back_answer hws]
        exact r'
  | answer o =>
    have e : PyData.eqv (.str (Deed.word (.answer o))) (.str (Str.ofString "stand")) = false := (by decide +kernel : PyData.eqv (.str ("answer" : Str)) (.str (Str.ofString "stand")) = false)
    rw [e]
    refine iteF ⟨_, rfl, d, _, 0, .str "answer", rfl, rfl, hd, rfl, ?_⟩
    dsimp only [tC]
    refine eqSS (by decide +kernel) (by decide +kernel) ⟨_, rfl, ?_⟩
    have e2 : PyData.eqv (.str ("answer" : Str)) (.str (Str.ofString "back")) = false := by decide +kernel
    rw [e2]
    refine iteF ⟨_, rfl, x, dx, _, rfl, r.ins, rfl, _, rfl, d, _, 1, Deed.val (.answer o), rfl, rfl, hd, rfl, ?_⟩
    refine ⟨x, Deed.val (.answer o), rfl, ?_⟩
    cases o with
    | none => exact .inl ⟨rfl, hE "NoAnswer" rfl H (Ex.refl H)⟩
    | some w =>
      obtain ⟨fs, efs, hfl⟩ := pref_last L s
      have r0 := r
      rw [efs] at r0
      have hwl : s.2.length ≤ 800 := by
        rcases v.sh with ⟨_, z⟩ | z | z
        · rw [z]
          exact Nat.zero_le _
        · omega
        · omega
      refine .inr ⟨dx, S, W, F, L, w, s.1, s.2, us, fs, _, rfl, r0, by omega, by omega, lies_len L _ _ h6, fun hw => ?_, fun st0 a b est hw => ?_⟩
      · exact hE "NotNow" (by simp only [stepD]; rw [if_pos (show waitsB s = false from decide_eq_false hw)]) H (Ex.refl H)
      · have hwb : waitsB s = true := decide_eq_true hw
        have hl2 : s.1.length = s.2.length + 2 := by
          rcases v.sh with ⟨z, _⟩ | z | z
          · rw [z] at hw
            simp at hw
          · omega
          · exact z
        have hl0 : st0.length = s.2.length := by
          rw [est, List.length_append] at hl2
          have : ([a, b] : List Int).length = 2 := rfl
          omega
        have em := lies_more (L := L) (e := a) (l := b) hl0 w
        rw [← est] at em
        rw [← em]
        refine ⟨fun hn H' e' => ?_, fun hn H' u k' r' => ?_⟩
        · exact hE "Never" (by simp only [stepD]; rw [if_neg (by rw [hwb]; decide), if_pos hn]) H' e'
        · refine hQ (s.1, s.2 ++ [w]) (by simp only [stepD]; rw [if_neg (by rw [hwb]; decide), if_neg hn]) H' (us ++ [u]) (k'.sub fun a ha => List.mem_cons_of_mem _ ha) ?_
          rw [pref_answer hl2, efs]
          exact r'
theorem len__law_do {K : PySem.W.Frag} {vs : List V} {H : Hp} {Q : VK} {E : XK} (h : sp__law_do K vs H Q E) : vs.length = 2 := by
  obtain ⟨x, dx, S, W, F, d, L, s, us, D, rfl, _⟩ := h
  rfl
/-! ### comprehensions over zip and enumerate of lists that stay -/
theorem lc_zip {K : PySem.W.Frag} {a b : Addr} {xs ys : List V} {g : TG} {tt : TT} {te : TE} {vs : List Nat} {σ : L2.St} {H1 : Hp} {D : Addr} {Qd : Hp → Prop} (hl : xs.length = ys.length) (Pv : Nat → Hp → Prop) (h0 : Pv 0 (upd H1 D (.lst [])))
    (hq : ∀ i H, Pv i H → SqL K H a xs ∧ SqL K H b ys)
    (hs : ∀ (i : Nat) (x y : V) (T : Addr) (H : Hp), xs[i]? = some x → ys[i]? = some y → Pv i H → H T = none → g (.ref T) (wipe σ vs) (upd H T (.tup [x, y])) fun σ2 H2 => wipe σ2 vs = wipe σ vs ∧ tt σ2 H2 fun c H3 =>
      if c = true then te σ2 H3 fun v H4 => ∃ acc, H4 D = some (.lst acc) ∧ acc.length < sizeLine ∧ Pv (i + 1) (upd H4 D (.lst (acc ++ [v]))) else Pv (i + 1) H3) (hd : ∀ H, Pv xs.length H → Qd H) :
    ∃ W : Nat → Nat → Hp → Prop, (∃ m, W 0 m (upd H1 D (.lst []))) ∧ ∀ i m H, W i m H →
      ((Itz K a b).stop i H ∧ Qd H) ∨ ((Itz K a b).go i H ∧ ∃ Nx : Hp → Prop, (∀ H', Nx H' → ∃ m', m' < m ∧ W (i + 1) m' H') ∧ ∀ x H', (Itz K a b).yld i H x H' → g x (wipe σ vs) H' fun σ2 H2 => wipe σ2 vs = wipe σ vs ∧ tt σ2 H2 fun c H3 =>
        if c = true then te σ2 H3 fun v H4 => ∃ acc, H4 D = some (.lst acc) ∧ acc.length < sizeLine ∧ Nx (upd H4 D (.lst (acc ++ [v]))) else Nx H3) := by
  refine ⟨fun i m H => i + m = xs.length ∧ Pv i H, ⟨xs.length, Nat.zero_add _, h0⟩, ?_⟩
  rintro i m H ⟨hm, p⟩
  obtain ⟨qx, qy⟩ := hq i H p
  by_cases hi : i < xs.length
  · have hi2 : i < ys.length := by omega
    refine .inr ⟨⟨xs, ys, _, _, qx, qy, List.getElem?_eq_getElem hi, List.getElem?_eq_getElem hi2⟩, Pv (i + 1), fun H' p' => ⟨m - 1, by omega, by omega, p'⟩, ?_⟩
    rintro v H' ⟨T, x, y, rfl, nT, rfl, f1, f2⟩
    exact hs i x y T H (f1 xs qx) (f2 ys qy) p nT
  · have e : i = xs.length := by omega
    rw [e] at p
    exact .inl ⟨⟨xs, ys, qx, qy, .inl (by omega)⟩, hd H p⟩
theorem lc_enum {K : PySem.W.Frag} {a : Addr} {xs : List V} {g : TG} {tt : TT} {te : TE} {vs : List Nat} {σ : L2.St} {H1 : Hp} {D : Addr} {Qd : Hp → Prop} (Pv : Nat → Hp → Prop) (h0 : Pv 0 (upd H1 D (.lst []))) (hq : ∀ i H, Pv i H → SqL K H a xs)
    (hs : ∀ (i : Nat) (x : V) (T : Addr) (H : Hp), xs[i]? = some x → Pv i H → H T = none → g (.ref T) (wipe σ vs) (upd H T (.tup [.int (i : Nat), x])) fun σ2 H2 => wipe σ2 vs = wipe σ vs ∧ tt σ2 H2 fun c H3 =>
      if c = true then te σ2 H3 fun v H4 => ∃ acc, H4 D = some (.lst acc) ∧ acc.length < sizeLine ∧ Pv (i + 1) (upd H4 D (.lst (acc ++ [v]))) else Pv (i + 1) H3) (hd : ∀ H, Pv xs.length H → Qd H) :
    ∃ W : Nat → Nat → Hp → Prop, (∃ m, W 0 m (upd H1 D (.lst []))) ∧ ∀ i m H, W i m H →
      ((Ite K a).stop i H ∧ Qd H) ∨ ((Ite K a).go i H ∧ ∃ Nx : Hp → Prop, (∀ H', Nx H' → ∃ m', m' < m ∧ W (i + 1) m' H') ∧ ∀ x H', (Ite K a).yld i H x H' → g x (wipe σ vs) H' fun σ2 H2 => wipe σ2 vs = wipe σ vs ∧ tt σ2 H2 fun c H3 =>
        if c = true then te σ2 H3 fun v H4 => ∃ acc, H4 D = some (.lst acc) ∧ acc.length < sizeLine ∧ Nx (upd H4 D (.lst (acc ++ [v]))) else Nx H3) := by
  refine ⟨fun i m H => i + m = xs.length ∧ Pv i H, ⟨xs.length, Nat.zero_add _, h0⟩, ?_⟩
  rintro i m H ⟨hm, p⟩
  have qx := hq i H p
  by_cases hi : i < xs.length
  · refine .inr ⟨⟨xs, _, qx, List.getElem?_eq_getElem hi⟩, Pv (i + 1), fun H' p' => ⟨m - 1, by omega, by omega, p'⟩, ?_⟩
    rintro v H' ⟨T, x, rfl, nT, rfl, f1⟩
    exact hs i x T H (f1 xs qx) p nT
  · have e : i = xs.length := by omega
    rw [e] at p
    exact .inl ⟨⟨xs, qx, by omega⟩, hd H p⟩
/-! ### wrong answers -/
/-- how many of two rows of words are unlike -/
def diffs (xs ys : List Wo) : Nat := ((xs.zip ys).filter fun p => decide (p.1 ≠ p.2)).length
def wr (st : List Int) (ws : List Wo) (t : Int) : Int := (diffs (wordsOf t st) ws : Nat)
/-- m is the least number of wrong answers of all places -/
def Least (l : Int) (st : List Int) (ws : List Wo) (m : Int) : Prop := (∃ t, (1 ≤ t ∧ t ≤ l) ∧ wr st ws t = m) ∧ ∀ t, 1 ≤ t → t ≤ l → m ≤ wr st ws t
def wplaces (l : Int) (st : List Int) (ws : List Wo) (m : Int) : List Int := (rng 1 (l + 1)).filter fun t => decide (wr st ws t = m)
theorem Least.inj {l : Int} {st : List Int} {ws : List Wo} {m m' : Int} (h : Least l st ws m) (h' : Least l st ws m') : m = m' := by
  obtain ⟨⟨t, ⟨a1, a2⟩, a3⟩, a4⟩ := h
  obtain ⟨⟨u, ⟨b1, b2⟩, b3⟩, b4⟩ := h'
  have := a4 u b1 b2
  have := b4 t a1 a2
  omega
theorem diffs_take (xs ys : List Wo) (i : Nat) (x y : Wo) (hx : xs[i]? = some x) (hy : ys[i]? = some y) :
    ((xs.zip ys).take (i + 1)).filter (fun p => decide (p.1 ≠ p.2)) = ((xs.zip ys).take i).filter (fun p => decide (p.1 ≠ p.2)) ++ (if x = y then [] else [(x, y)]) := by
  have hz : (xs.zip ys)[i]? = some (x, y) := by
    rw [List.getElem?_zip_eq_some]
    exact ⟨hx, hy⟩
  rw [List.take_add_one, hz, List.filter_append]
  congr 1
  by_cases h : x = y
  · rw [if_pos h]
    simp [h]
  · rw [if_neg h]
    simp [h]
/-- [1 for one, other in zip(xs, ys) if one != other] -/
theorem lc_diffs {K : PySem.W.Frag} {σ : L2.St} {H1 : Hp} {i j : Nat} {a b D : Addr} {xs ys : List Wo} {Qd : Hp → Prop} (hlen : xs.length = ys.length) (hsz : xs.length ≤ 900) (hij : i ≠ j) (hi : i < σ.length) (hj : j < σ.length)
    (hw : ∀ x y, wipe (((wipe σ [i, j]).set i (some x)).set j (some y)) [i, j] = wipe σ [i, j]) (ha : SqL K H1 a (xs.map vW)) (hb : SqL K H1 b (ys.map vW)) (hD : H1 D = none)
    (hd : ∀ H2, Ex H1 H2 → H2 D = some (.lst (List.replicate (diffs xs ys) (V.int 1))) → Qd H2) :
    ∃ W : Nat → Nat → Hp → Prop, (∃ m, W 0 m (upd H1 D (.lst []))) ∧ ∀ k m H, W k m H →
      ((Itz K a b).stop k H ∧ Qd H) ∨ ((Itz K a b).go k H ∧ ∃ Nx : Hp → Prop, (∀ H', Nx H' → ∃ m', m' < m ∧ W (k + 1) m' H') ∧ ∀ x H', (Itz K a b).yld k H x H' → gTup K 2 (gCons (gName i) (gCons (gName j) gNil)) x (wipe σ [i, j]) H' fun σ2 H2 => wipe σ2 [i, j] = wipe σ [i, j] ∧ tTest (tOp rNe (tVar i) (tVar j)) σ2 H2 fun c H3 =>
        if c = true then tC (.int 1) σ2 H3 fun v H4 => ∃ acc, H4 D = some (.lst acc) ∧ acc.length < sizeLine ∧ Nx (upd H4 D (.lst (acc ++ [v]))) else Nx H3) := by
  refine lc_zip (K := K) (xs := xs.map vW) (ys := ys.map vW) (by rw [List.length_map, List.length_map, hlen]) (fun k H2 => Ex H1 H2 ∧ H2 D = some (.lst (List.replicate (((xs.zip ys).take k).filter fun p => decide (p.1 ≠ p.2)).length (V.int 1))))
    ⟨Ex.new hD, upd_same⟩ (fun k H2 p => ⟨ex_l p.1 ha, ex_l p.1 hb⟩) (fun k x y T H2 hx hy p nT => ?_) (fun H2 p => ?_)
  · obtain ⟨e2, hdd⟩ := p
    obtain ⟨x', hx', rfl⟩ : ∃ w, xs[k]? = some w ∧ x = vW w := by
      rw [List.getElem?_map] at hx
      cases hg : xs[k]? with
      | none => rw [hg] at hx; cases hx
      | some w =>
        rw [hg] at hx
        exact ⟨w, rfl, (Option.some.inj hx).symm⟩
    obtain ⟨y', hy', rfl⟩ : ∃ w, ys[k]? = some w ∧ y = vW w := by
      rw [List.getElem?_map] at hy
      cases hg : ys[k]? with
      | none => rw [hg] at hy; cases hy
      | some w =>
        rw [hg] at hy
        exact ⟨w, rfl, (Option.some.inj hy).symm⟩
    have e3 : Ex H2 (upd H2 T (.tup [vW x', vW y'])) := Ex.new nT
    have hd3 := e3 _ _ hdd
    have g1 : (((wipe σ [i, j]).set i (some (vW x'))).set j (some (vW y')))[i]? = some (some (vW x')) := by
      rw [List.getElem?_set_ne (Ne.symm hij), List.getElem?_set_self (by rw [wipe_length]; exact hi)]
    have g2 : (((wipe σ [i, j]).set i (some (vW x'))).set j (some (vW y')))[j]? = some (some (vW y')) := by
      rw [List.getElem?_set_self (by rw [List.length_set, wipe_length]; exact hj)]
    refine ⟨T, _, rfl, SqT.of upd_same, rfl, _, _, rfl, _, [], rfl, rfl, hw _ _, _, g1, _, g2, rfl, _, rfl, ?_⟩
    have dt := diffs_take xs ys k x' y' hx' hy'
    have hk : k < xs.length := (List.getElem?_eq_some_iff.mp hx').1
    by_cases hxy : x' = y'
    · rw [if_pos hxy, List.append_nil] at dt
      have e : vW x' = vW y' := by rw [hxy]
      rw [decide_eq_true e]
      refine iteF ⟨e2.trans e3, ?_⟩
      rw [hd3, dt]
    · rw [if_neg hxy] at dt
      have e : ¬ vW x' = vW y' := fun z => hxy (vW_inj z)
      rw [decide_eq_false e]
      refine iteT ⟨_, hd3, ?_, (e2.trans e3).mut hD, ?_⟩
      · rw [List.length_replicate]
        refine small1000 (Nat.le_trans (List.length_filter_le _ _) ?_)
        rw [List.length_take]
        omega
      · rw [upd_same, dt, List.length_append]
        show some (HO.lst (List.replicate _ (V.int 1) ++ [V.int 1])) = some (HO.lst (List.replicate (_ + 1) (V.int 1)))
        rw [List.replicate_succ']
  · obtain ⟨e2, hdd⟩ := p
    refine hd H2 e2 ?_
    rw [hdd, List.take_of_length_le (by rw [List.length_zip, List.length_map]; omega)]
    rfl
theorem shP (m : Int) (ps : List Int) : SeqAt.shaped (.tuple [.int m, .tuple (ps.map PyData.int)]) = true := by
  obtain ⟨h1, h2⟩ := shI ps
  unfold SeqAt.shaped
  have e1 : PyData.canLay0 (.tuple [.int m, .tuple (ps.map PyData.int)]) = true := by
    show (PyData.canLay0 (.int m) && (PyData.canLayAll0 (ps.map PyData.int) && true)) = true
    rw [h1]
    rfl
  have e2 : PyData.depth (.tuple [.int m, .tuple (ps.map PyData.int)]) = 2 := by
    show max (PyData.depth (.int m)) (max (PyData.depthAll (ps.map PyData.int) + 1) 0) + 1 = 2
    rw [h2]
    rfl
  rw [e1, e2]
  rfl
theorem eqvP (m m' : Int) (ps ps' : List Int) : PyData.eqv (.tuple [.int m, .tuple (ps.map PyData.int)]) (.tuple [.int m', .tuple (ps'.map PyData.int)]) = decide (m = m' ∧ ps = ps') := by
  show ((m == m') && (PyData.eqvAll (ps.map PyData.int) (ps'.map PyData.int) && true)) = _
  rw [eqvI, Bool.and_true]
  by_cases h1 : m = m' <;> by_cases h2 : ps = ps' <;> simp [h1, h2]
theorem dpP {K : PySem.W.Frag} {H : Hp} {u v : Addr} {m : Int} {ps : List Int} (h1 : H u = some (.tup [.int m, .ref v])) (h2 : H v = some (.tup (ps.map V.int))) : Dp K H (.ref u) (.tuple [.int m, .tuple (ps.map PyData.int)]) :=
  .tup (SqT.of h1) (.cons (.int m) (.cons (.tup (SqT.of h2) (dpI ps)) .nil))
theorem nePP {K : PySem.W.Frag} {H : Hp} {u v u' v' : Addr} {m m' : Int} {ps ps' : List Int} {Q : VK} (h1 : H u = some (.tup [.int m, .ref v])) (h2 : H v = some (.tup (ps.map V.int))) (h3 : H u' = some (.tup [.int m', .ref v'])) (h4 : H v' = some (.tup (ps'.map V.int)))
    (q : Q (.bl (!decide (m = m' ∧ ps = ps'))) H) : rNeD K (.ref u) (.ref u') H Q := by
  refine ⟨_, _, dpP h1 h2, dpP h3 h4, shP _ _, shP _ _, ?_⟩
  rw [eqvP]
  exact q
theorem eqPP {K : PySem.W.Frag} {H : Hp} {u v u' v' : Addr} {m m' : Int} {ps ps' : List Int} {Q : VK} (h1 : H u = some (.tup [.int m, .ref v])) (h2 : H v = some (.tup (ps.map V.int))) (h3 : H u' = some (.tup [.int m', .ref v'])) (h4 : H v' = some (.tup (ps'.map V.int)))
    (q : Q (.bl (decide (m = m' ∧ ps = ps'))) H) : rEqD K (.ref u) (.ref u') H Q := by
  refine ⟨_, _, dpP h1 h2, dpP h3 h4, shP _ _, shP _ _, ?_⟩
  rw [eqvP]
  exact q
theorem rng_more (i : Nat) : rng 1 (1 + ((i + 1 : Nat) : Int)) = rng 1 (1 + (i : Int)) ++ [1 + (i : Int)] := by
  unfold rng
  have e1 : (1 + ((i + 1 : Nat) : Int) - 1).toNat = i + 1 := by omega
  have e2 : (1 + (i : Int) - 1).toNat = i := by omega
  rw [e1, e2, List.range_succ, List.map_append]
  rfl
/-! ### more of wrong answers -/
theorem diffs_zero : ∀ {xs ys : List Wo}, xs.length = ys.length → (diffs xs ys = 0 ↔ xs = ys)
  | [], [], _ => ⟨fun _ => rfl, fun _ => rfl⟩
  | [], _ :: _, h => by cases h
  | _ :: _, [], h => by cases h
  | x :: xs, y :: ys, h => by
    have h' : xs.length = ys.length := Nat.succ.inj h
    have ih := diffs_zero h'
    unfold diffs at ih ⊢
    rw [List.zip_cons_cons, List.filter_cons]
    by_cases e : x = y
    · subst e
      simp at ih ⊢
      exact ih
    · simp [e]
theorem wr_zero {st : List Int} {ws : List Wo} (h : ws.length = st.length - 1) (t : Int) : wr st ws t = 0 ↔ wordsOf t st = ws := by
  unfold wr
  have := diffs_zero (xs := wordsOf t st) (ys := ws) (by rw [wordsOf_len, h])
  constructor
  · intro z
    exact this.mp (by omega)
  · intro z
    have := this.mpr z
    omega
theorem wr_nonneg (st : List Int) (ws : List Wo) (t : Int) : 0 ≤ wr st ws t := by
  unfold wr
  omega
theorem Least.nonneg {l : Int} {st : List Int} {ws : List Wo} {m : Int} (h : Least l st ws m) : 0 ≤ m := by
  obtain ⟨⟨t, _, rfl⟩, _⟩ := h
  exact wr_nonneg st ws t
theorem mem_wplaces {l t m : Int} {st : List Int} {ws : List Wo} : t ∈ wplaces l st ws m ↔ (1 ≤ t ∧ t ≤ l) ∧ wr st ws t = m := by
  unfold wplaces
  rw [List.mem_filter, mem_rng, decide_eq_true_iff]
  constructor
  · rintro ⟨⟨h1, h2⟩, h3⟩
    exact ⟨⟨h1, by omega⟩, h3⟩
  · rintro ⟨⟨h1, h2⟩, h3⟩
    exact ⟨⟨h1, by omega⟩, h3⟩
theorem wplaces_len (l : Int) (st : List Int) (ws : List Wo) (m : Int) : (wplaces l st ws m).length ≤ l.toNat := by
  unfold wplaces
  refine Nat.le_trans (List.length_filter_le _ _) ?_
  rw [rng_len]
  omega
theorem lies_wplaces {l : Int} {st : List Int} {ws : List Wo} (h : ws.length = st.length - 1) : lies l st ws = wplaces l st ws 0 := by
  unfold lies wplaces
  exact List.filter_congr fun t _ => decide_eq_decide.mpr (wr_zero h t).symm
theorem Least.zero {l : Int} {st : List Int} {ws : List Wo} {m : Int} (h : Least l st ws m) (hw : ws.length = st.length - 1) : m = 0 ↔ lies l st ws ≠ [] := by
  constructor
  · rintro rfl e
    obtain ⟨⟨t, ht, hz⟩, _⟩ := h
    have : t ∈ lies l st ws := mem_lies.mpr ⟨ht, (wr_zero hw t).mp hz⟩
    rw [e] at this
    cases this
  · intro e
    obtain ⟨t, ht⟩ := List.exists_mem_of_ne_nil _ e
    obtain ⟨⟨h1, h2⟩, h3⟩ := mem_lies.mp ht
    have := h.2 t h1 h2
    have z := (wr_zero hw t).mpr h3
    have := h.nonneg
    omega
theorem Least.some {l : Int} {st : List Int} {ws : List Wo} {m : Int} (h : Least l st ws m) : wplaces l st ws m ≠ [] := fun e => by
  obtain ⟨⟨t, ht, hz⟩, _⟩ := h
  have : t ∈ wplaces l st ws m := mem_wplaces.mpr ⟨ht, hz⟩
  rw [e] at this
  cases this
theorem diffs_append : ∀ {xs ys us vs : List Wo}, xs.length = ys.length → diffs (xs ++ us) (ys ++ vs) = diffs xs ys + diffs us vs := by
  intro xs ys us vs h
  unfold diffs
  rw [List.zip_append h, List.filter_append, List.length_append]
theorem diffs_one (x y : Wo) : diffs [x] [y] = if x = y then 0 else 1 := by
  cases x <;> cases y <;> rfl
theorem wordsOf_more (t x : Int) {st : List Int} (h : st ≠ []) : ∃ w, wordsOf t (st ++ [x]) = wordsOf t st ++ [w] := by
  obtain ⟨ys, y, rfl⟩ : ∃ ys y, st = ys ++ [y] := ⟨st.dropLast, st.getLast h, (List.dropLast_concat_getLast h).symm⟩
  rw [List.append_assoc]
  exact ⟨mv t y x, wordsOf_snoc t ys y x⟩
theorem wr_more {st : List Int} {ws : List Wo} (hne : st ≠ []) (hw : ws.length = st.length - 1) (x : Int) (w : Wo) (t : Int) : wr st ws t ≤ wr (st ++ [x]) (ws ++ [w]) t ∧ wr (st ++ [x]) (ws ++ [w]) t ≤ wr st ws t + 1 := by
  obtain ⟨u, hu⟩ := wordsOf_more t x hne
  unfold wr
  rw [hu, diffs_append (by rw [wordsOf_len, hw]), diffs_one]
  split <;> omega
theorem Least.more {l : Int} {st : List Int} {ws : List Wo} {m m' x : Int} {w : Wo} (h : Least l st ws m) (hne : st ≠ []) (hw : ws.length = st.length - 1) (h' : Least l (st ++ [x]) (ws ++ [w]) m') : m ≤ m' ∧ m' ≤ m + 1 := by
  obtain ⟨⟨t, ⟨a1, a2⟩, a3⟩, a4⟩ := h
  obtain ⟨⟨u, ⟨b1, b2⟩, b3⟩, b4⟩ := h'
  have c1 := wr_more hne hw x w t
  have c2 := wr_more hne hw x w u
  have c3 := a4 u b1 b2
  have c4 := b4 t a1 a2
  omega
theorem wr_mirror (c : Int) (st : List Int) (ws : List Wo) (t : Int) : wr (st.map fun p => c - p) ws (c - t) = wr st ws t := by
  unfold wr
  rw [wordsOf_mirror]
theorem Least.mirror {l : Int} {st : List Int} {ws : List Wo} {m : Int} (h : Least l st ws m) : Least l (st.map fun p => l + 1 - p) ws m := by
  obtain ⟨⟨t, ⟨a1, a2⟩, a3⟩, a4⟩ := h
  refine ⟨⟨l + 1 - t, ⟨by omega, by omega⟩, by rw [wr_mirror]; exact a3⟩, fun u h1 h2 => ?_⟩
  have := wr_mirror (l + 1) st ws (l + 1 - u)
  rw [show l + 1 - (l + 1 - u) = u by omega] at this
  rw [this]
  exact a4 _ (by omega) (by omega)
theorem wplaces_mirror (l : Int) (st : List Int) (ws : List Wo) (m : Int) : wplaces l (st.map fun p => l + 1 - p) ws m = ((wplaces l st ws m).reverse).map fun x => l + 1 - x := by
  have e : rng 1 (l + 1) = ((rng 1 (l + 1)).reverse).map fun x => l + 1 - x := by
    rw [rng_mirror _ 1 (l + 1) (l + 1) rfl]
    congr 1 <;> omega
  unfold wplaces
  rw [← List.filter_reverse]
  conv => lhs; rw [e]
  rw [List.filter_map]
  congr 1
  refine List.filter_congr fun t _ => ?_
  show decide (wr (st.map fun p => l + 1 - p) ws (l + 1 - t) = m) = decide (wr st ws t = m)
  rw [wr_mirror]
theorem diffs_step (xs ys : List Wo) (i : Nat) (x y : Wo) (hx : xs[i]? = some x) (hy : ys[i]? = some y) : diffs (xs.take (i + 1)) (ys.take (i + 1)) = diffs (xs.take i) (ys.take i) + if x = y then 0 else 1 := by
  rw [List.take_add_one, List.take_add_one, hx, hy]
  have h1 := (List.getElem?_eq_some_iff.mp hx).1
  have h2 := (List.getElem?_eq_some_iff.mp hy).1
  rw [diffs_append (by rw [List.length_take, List.length_take]; omega)]
  show _ + diffs [x] [y] = _
  rw [diffs_one]
theorem Kp.back {bs : List Addr} {H H' : Hp} {p : Addr} (k : Kp bs H H') (B : Bags bs H') (n : H' p = none) : H p = none := by
  cases h : H p with
  | none => rfl
  | some o =>
    have := k p o (B.fresh n) h
    rw [n] at this
    cases this
theorem sl_take {K : PySem.W.Frag} {H : Hp} {v : Addr} {xs : List V} {k : Nat} {Q : VK} (hv : H v = some (.tup xs)) (q : ∀ p H', Ex H H' → H' p = some (.tup (xs.take k)) → Q (.ref p) H') : rSlA K (.ref v) none (some (k : Int)) H Q := by
  refine ⟨v, xs, rfl, SqT.of hv, fun h => ?_, fun _ p np => ?_⟩
  · refine q v H (Ex.refl H) ?_
    have h2 := h.2
    have e1 : HT.sIx xs.length xs.length (some (k : Int)) = min k xs.length := HT.sIx_nat xs.length xs.length k
    rw [e1] at h2
    rw [List.take_of_length_le (by omega)]
    exact hv
  · refine q p _ (Ex.new np) ?_
    rw [upd_same, cut_to]
theorem notInI {K : PySem.W.Frag} {H : Hp} {t : Int} {p : Addr} {ns : List Int} {Q : VK} (h : SqL K H p (ns.map V.int) ∨ SqT K H p (ns.map V.int)) (q : Q (.bl (!decide (t ∈ ns))) H) : rIn K true (.int t) (.ref p) H Q :=
  ⟨p, _, rfl, h, rfl, flat_ints _, by rw [if_pos rfl, in_ints]; exact q⟩
theorem places_mirror {l : Int} {st : List Int} (h : Places l st) : Places l (st.map fun p => l + 1 - p) := fun n hn => by
  obtain ⟨p, hp, rfl⟩ := List.mem_map.mp hn
  have := h p hp
  omega
theorem word_at {c : Int} (h0 : 0 ≤ c) (h1 : c < 3) : ∃ u : Wo, atI ([Wo.warm, .cold, .same].map vW) c = some (vW u) := by
  have hc : c = 0 ∨ c = 1 ∨ c = 2 := by omega
  rcases hc with rfl | rfl | rfl
  · exact ⟨.warm, rfl⟩
  · exact ⟨.cold, rfl⟩
  · exact ⟨.same, rfl⟩
theorem Bags.mutL {bs : List Addr} {H : Hp} {p : Addr} {xs ys : List V} (h : Bags bs H) (n1 : p ∉ bs) (hp : H p = some (.lst xs)) (hl : xs.length ≠ 400) : Bags bs (upd H p (.lst ys)) :=
  h.mut n1 fun d ds hd hdl e => by
    subst e
    rw [hp] at hd
    have e2 := congrArg List.length (HO.lst.inj (Option.some.inj hd))
    rw [List.length_map, hdl] at e2
    exact hl e2
/-! ### what was done, in order -/
section
open LamX
inductive Ch : List Stt → Prop
  | base : Ch [([], [])]
  | step {s t : Stt} {r : List Stt} : s.1 ≠ [] → prevS s = t → Ch (t :: r) → Ch (s :: t :: r)
theorem Ch.one {s t : Stt} {r : List Stt} (h : Ch (s :: t :: r)) : s.1 ≠ [] ∧ prevS s = t ∧ Ch (t :: r) := by
  cases h with
  | step a b c => exact ⟨a, b, c⟩
theorem Ch.low {s : Stt} (h : Ch [s]) : s = ([], []) := by
  cases h
  rfl
theorem step_rf {L : Int} {s : Stt} {D : Deed} {nm : Str} (h : stepD L s D = .inl nm) : nm ∈ rfN := by
  cases D with
  | stand y =>
    simp only [stepD] at h
    split at h
    · cases h
      decide
    · split at h
      · cases h
        decide
      · cases h
  | answer o =>
    cases o with
    | none =>
      cases h
      decide
    | some w =>
      simp only [stepD] at h
      split at h
      · cases h
        decide
      · split at h
        · cases h
          decide
        · cases h
  | back y =>
    simp only [stepD] at h
    split at h
    · cases h
      decide
    · cases h
theorem prev_step {L : Int} {s s' : Stt} {D : Deed} (v : Val L s) (hb : ∀ y, D ≠ .back y) (h : stepD L s D = .inr s') : s'.1 ≠ [] ∧ prevS s' = s ∧ s'.1.length ≤ s.1.length + 1 := by
  cases D with
  | back y => exact absurd rfl (hb y)
  | stand y =>
    simp only [stepD] at h
    split at h
    · cases h
    · split at h
      · cases h
      · rename_i h1 h2
        cases h
        have hw : ¬ s.2.length + 1 < s.1.length := fun z => h2 (decide_eq_true z)
        refine ⟨fun z => (by simp at z), ?_, by rw [List.length_append]; exact Nat.le_refl _⟩
        have hc : waitsB (s.1 ++ [intOf y], s.2) = true ∨ (s.1 ++ [intOf y]).length = 1 := by
          rcases v.sh with ⟨z1, z2⟩ | z | z
          · exact .inr (by rw [z1]; rfl)
          · exact .inl (decide_eq_true (by show s.2.length + 1 < (s.1 ++ [intOf y]).length; rw [List.length_append]; show _ < s.1.length + 1; omega))
          · omega
        unfold prevS
        rw [if_pos hc]
        show ((s.1 ++ [intOf y]).dropLast, s.2) = s
        rw [List.dropLast_concat]
  | answer o =>
    cases o with
    | none => cases h
    | some w =>
      simp only [stepD] at h
      split at h
      · cases h
      · split at h
        · cases h
        · rename_i h1 h2
          cases h
          have hw : s.2.length + 1 < s.1.length := of_decide_eq_true (Bool.eq_false_or_eq_true _ |>.resolve_right h1)
          refine ⟨fun z => (by rw [show s.1 = [] from z] at hw; simp at hw), ?_, Nat.le_succ _⟩
          have hc : ¬ (waitsB (s.1, s.2 ++ [w]) = true ∨ s.1.length = 1) := by
            rcases v.sh with ⟨z1, z2⟩ | z | z
            · rw [z1] at hw
              simp at hw
            · omega
            · rintro (z' | z')
              · have := of_decide_eq_true z'
                rw [List.length_append] at this
                have h1 : ([w] : List Wo).length = 1 := rfl
                dsimp only at this
                omega
              · omega
          unfold prevS
          rw [if_neg hc]
          show (s.1, (s.2 ++ [w]).dropLast) = s
          rw [List.dropLast_concat]
theorem prev_len (s : Stt) : (prevS s).1.length ≤ s.1.length := by
  unfold prevS
  split
  · show s.1.dropLast.length ≤ _
    rw [List.length_dropLast]
    omega
  · exact Nat.le_refl _
/-! ### what stays -/
def KN (cs : List Addr) (H H' : Hp) : Prop := ∀ a o, a ∉ cs → H a = some o → (∀ ps, o ≠ .tbl ps) → H' a = some o
theorem KN.ex {H H' : Hp} (e : Ex H H') : KN [] H H' := fun a o _ h _ => e a o h
theorem KN.kp {cs : List Addr} {H H' : Hp} (k : Kp cs H H') : KN cs H H' := fun a o n h _ => k a o n h
theorem KN.tab {H H' : Hp} (e : ExtN H H') : KN [] H H' := fun a o _ h n => e a o h n
theorem tabs_kp {T : List (Addr × Str)} {cs : List Addr} {H H' : Hp} (t : Tabs T H) (k : Kp cs H H') (hc : ∀ a ∈ cs, ∃ xs, H a = some (.lst xs)) : Tabs T H' := fun p hp => by
  obtain ⟨ps, h1, h2, h3⟩ := t p hp
  refine ⟨ps, k _ _ (fun z => ?_) h1, h2, fun pos cv e => ?_⟩
  · obtain ⟨xs, hx⟩ := hc _ z
    rw [h1] at hx
    cases hx
  · obtain ⟨c, e1, e2⟩ := h3 pos cv e
    refine ⟨c, e1, k _ _ (fun z => ?_) e2⟩
    obtain ⟨xs, hx⟩ := hc _ z
    rw [e2] at hx
    unfold CodeO at hx
    cases hx
theorem bags_kp {bs cs : List Addr} {H H' : Hp} (B : Bags bs H) (k : KN cs H H') (hc : ∀ a ∈ cs, a ∉ bs ∧ ∃ xs, H a = some (.lst xs) ∧ xs.length ≠ 400) : Bags bs H' := fun b hb => by
  obtain ⟨d, c, ds, h1, h2, h3⟩ := B b hb
  refine ⟨d, c, ds, k _ _ (fun z => (hc _ z).1 hb) h1 (fun _ z => by cases z), k _ _ (fun z => ?_) h2 (fun _ z => by cases z), h3⟩
  obtain ⟨_, xs, hx, hl⟩ := hc _ z
  rw [h2] at hx
  have := HO.lst.inj (Option.some.inj hx)
  rw [← this, List.length_map] at hl
  exact hl h3
theorem bag_not {bs : List Addr} {H : Hp} (B : Bags bs H) {a : Addr} {xs : List V} (ha : H a = some (.lst xs)) (hx : ∀ d c, xs ≠ [.ref d, .int c]) : a ∉ bs := fun z => by
  obtain ⟨d, c, ds, h1, _⟩ := B a z
  rw [ha] at h1
  exact hx d c (HO.lst.inj (Option.some.inj h1))
theorem bag_lst {bs : List Addr} {H : Hp} (B : Bags bs H) : ∀ a ∈ bs, ∃ xs, H a = some (.lst xs) := fun a ha => by
  obtain ⟨d, c, ds, h1, _⟩ := B a ha
  exact ⟨_, h1⟩
theorem ints_no (ns : List Int) (d : Addr) (c : Int) : ns.map V.int ≠ [.ref d, .int c] := fun z => by
  match ns with
  | [] => cases z
  | a :: r => cases (List.cons.inj z).1
theorem words_no (ws : List Wo) (d : Addr) (c : Int) : ws.map vW ≠ [.ref d, .int c] := fun z => by
  match ws with
  | [] => cases z
  | a :: r => cases (List.cons.inj z).1
theorem refs_no (us : List Addr) (d : Addr) (c : Int) : us.map V.ref ≠ [.ref d, .int c] := fun z => by
  match us with
  | [] => cases z
  | [a] => cases (List.cons.inj z).2
  | a :: b :: r => cases (List.cons.inj (List.cons.inj z).2).1
/-! ### a search at its addresses -/
structure At where
  x : Addr
  dx : Addr
  S : Addr
  W : Addr
  F : Addr
def At.m (p : At) : List Addr := [p.S, p.W, p.F]
def SrA (K : PySem.W.Frag) (H : Hp) (l : Int) (p : At) (s : Stt) : Prop := ∃ us, Sr (SC K) H p.x p.dx p.S p.W p.F l s.1 s.2 us (pref l s)
theorem SrA.kn {K : PySem.W.Frag} {cs : List Addr} {H H' : Hp} {l : Int} {p : At} {s : Stt} (r : SrA K H l p s) (k : KN cs H H') (n : ∀ a ∈ p.m, a ∉ cs) (hc : ∀ a ∈ cs, ∃ xs, H a = some (.lst xs)) : SrA K H' l p s := by
  obtain ⟨us, r⟩ := r
  refine ⟨us, ⟨k _ _ (fun z => ?_) r.ins (fun _ z => by cases z), k _ _ (n _ List.mem_cons_self) r.hS (fun _ z => by cases z), k _ _ (n _ (List.mem_cons_of_mem _ List.mem_cons_self)) r.hW (fun _ z => by cases z), k _ _ (n _ (List.mem_cons_of_mem _ (List.mem_cons_of_mem _ List.mem_cons_self))) r.hF (fun _ z => by cases z), r.hT.imp fun a xs h => k _ _ (fun z => ?_) h (fun _ z => by cases z), r.nSW, r.nSF, r.nWF⟩⟩
  · obtain ⟨xs, hx⟩ := hc _ z
    rw [r.ins] at hx
    cases hx
  · obtain ⟨ys, hx⟩ := hc _ z
    rw [h] at hx
    cases hx
theorem SrA.lists {K : PySem.W.Frag} {bs : List Addr} {H : Hp} {l : Int} {p : At} {s : Stt} (r : SrA K H l p s) (v : Val l s) (hl : s.1.length ≤ 100) (B : Bags bs H) : ∀ a ∈ p.m, a ∉ bs ∧ ∃ xs, H a = some (.lst xs) ∧ xs.length ≠ 400 := fun a ha => by
  obtain ⟨us, r⟩ := r
  have hwl : s.2.length ≤ 100 := by
    rcases v.sh with ⟨_, z⟩ | z | z
    · rw [z]
      exact Nat.zero_le _
    · omega
    · omega
  have hul := r.hT.len
  rw [pref_len] at hul
  rcases List.mem_cons.mp ha with rfl | ha
  · exact ⟨bag_not B r.hS (ints_no _), _, r.hS, by rw [List.length_map]; omega⟩
  rcases List.mem_cons.mp ha with rfl | ha
  · exact ⟨bag_not B r.hW (words_no _), _, r.hW, by rw [List.length_map]; omega⟩
  rw [List.mem_singleton.mp ha]
  exact ⟨bag_not B r.hF (refs_no _), _, r.hF, by rw [List.length_map]; omega⟩
/-- states at these places, the last one first -/
inductive AtSts (bad : List Addr) (H : Hp) : List Addr → List Stt → Prop
  | nil : AtSts bad H [] []
  | cons {q A B : Addr} {s : Stt} {qs : List Addr} {hs : List Stt} : H q = some (.tup [.ref A, .ref B]) → H A = some (.lst (s.1.map V.int)) → H B = some (.lst (s.2.map vW)) → A ∉ bad → B ∉ bad → AtSts bad H qs hs → AtSts bad H (q :: qs) (s :: hs)
theorem AtSts.len {bad : List Addr} {H : Hp} : ∀ {qs : List Addr} {hs : List Stt}, AtSts bad H qs hs → qs.length = hs.length
  | _, _, .nil => rfl
  | _, _, .cons _ _ _ _ _ t => congrArg (· + 1) t.len
theorem AtSts.kn {bad cs : List Addr} {H H' : Hp} (k : KN cs H H') (hc : ∀ a ∈ cs, ∃ xs, H a = some (.lst xs) ∧ (a ∈ bad ∨ ∃ d c, xs = [.ref d, .int c])) : ∀ {qs : List Addr} {hs : List Stt}, AtSts bad H qs hs → AtSts bad H' qs hs
  | _, _, .nil => .nil
  | _, _, .cons h1 h2 h3 n1 n2 t => by
    refine .cons (k _ _ (fun z => ?_) h1 (fun _ z => by cases z)) (k _ _ (fun z => ?_) h2 (fun _ z => by cases z)) (k _ _ (fun z => ?_) h3 (fun _ z => by cases z)) n1 n2 (t.kn k hc)
    · obtain ⟨xs, hx, _⟩ := hc _ z
      rw [h1] at hx
      cases hx
    · obtain ⟨xs, hx, hb | ⟨d, c, e⟩⟩ := hc _ z
      · exact n1 hb
      · rw [h2] at hx
        exact ints_no _ d c ((HO.lst.inj (Option.some.inj hx)).trans e)
    · obtain ⟨xs, hx, hb | ⟨d, c, e⟩⟩ := hc _ z
      · exact n2 hb
      · rw [h3] at hx
        exact words_no _ d c ((HO.lst.inj (Option.some.inj hx)).trans e)
/-- all that lies in the heap while the searches go on -/
structure Core (K : PySem.W.Frag) (T : List (Addr × Str)) (bs : List Addr) (L0 : Addr) (l : Int) (p q : At) (sx sy : Stt) (M : Addr) (qs : List Addr) (hs : List Stt) (H : Hp) : Prop where
  bag : Bags bs H
  tb : Tabs T H
  hL : H L0 = some (.lst (bs.map V.ref))
  rx : SrA K H l p sx
  ry : SrA K H l q sy
  hM : H M = some (.lst (qs.reverse.map V.ref))
  st : AtSts (p.m ++ q.m) H qs hs
  d1 : ∀ a ∈ p.m, a ∉ q.m
  nL : L0 ∉ p.m ++ q.m
  nM : M ∉ p.m ++ q.m
variable {K : PySem.W.Frag} {T : List (Addr × Str)} {bs : List Addr} {L0 : Addr} {l : Int} {p q : At} {sx sy : Stt} {M : Addr} {qs : List Addr} {hs : List Stt} {H H' : Hp}
theorem SrA.m_lst {s : Stt} (r : SrA K H l p s) : ∀ a ∈ p.m, ∃ xs, H a = some (.lst xs) ∧ ∀ d c, xs ≠ [.ref d, .int c] := fun a ha => by
  obtain ⟨us, r⟩ := r
  rcases List.mem_cons.mp ha with rfl | ha
  · exact ⟨_, r.hS, ints_no _⟩
  rcases List.mem_cons.mp ha with rfl | ha
  · exact ⟨_, r.hW, words_no _⟩
  rw [List.mem_singleton.mp ha]
  exact ⟨_, r.hF, refs_no _⟩
theorem Core.kn {cs : List Addr} (C : Core K T bs L0 l p q sx sy M qs hs H) (k : KN cs H H') (B : Bags bs H') (t : Tabs T H') (hc : ∀ a ∈ cs, a ∈ bs) : Core K T bs L0 l p q sx sy M qs hs H' := by
  have nb : ∀ {a : Addr} {xs : List V}, H a = some (.lst xs) → (∀ d c, xs ≠ [.ref d, .int c]) → a ∉ cs := fun ha hx z => bag_not C.bag ha hx (hc _ z)
  have hcl : ∀ a ∈ cs, ∃ xs, H a = some (.lst xs) := fun a ha => bag_lst C.bag a (hc a ha)
  refine ⟨B, t, k _ _ (nb C.hL (refs_no _)) C.hL (fun _ z => by cases z), C.rx.kn k (fun a ha => ?_) hcl, C.ry.kn k (fun a ha => ?_) hcl, k _ _ (nb C.hM (refs_no _)) C.hM (fun _ z => by cases z), C.st.kn k fun a ha => ?_, C.d1, C.nL, C.nM⟩
  · obtain ⟨xs, hx, h⟩ := C.rx.m_lst a ha
    exact nb hx h
  · obtain ⟨xs, hx, h⟩ := C.ry.m_lst a ha
    exact nb hx h
  · obtain ⟨d, c, ds, h1, _⟩ := C.bag a (hc a ha)
    exact ⟨_, h1, .inr ⟨d, c, rfl⟩⟩
theorem Core.ex (C : Core K T bs L0 l p q sx sy M qs hs H) (e : Ex H H') : Core K T bs L0 l p q sx sy M qs hs H' := C.kn (KN.ex e) (C.bag.ex e) (C.tb.ext e) fun a h => by cases h
theorem Core.take (C : Core K T bs L0 l p q sx sy M qs hs H) (k : Kp bs H H') (B : Bags bs H') : Core K T bs L0 l p q sx sy M qs hs H' := C.kn (KN.kp k) B (tabs_kp C.tb k (bag_lst C.bag)) fun _ h => h
theorem Core.tab (C : Core K T bs L0 l p q sx sy M qs hs H) (e : ExtN H H') (t : Tabs T H') : Core K T bs L0 l p q sx sy M qs hs H' := C.kn (KN.tab e) (bags_kp C.bag (KN.tab e) fun a h => by cases h) t fun a h => by cases h
theorem Core.doX {s' : Stt} (C : Core K T bs L0 l p q sx sy M qs hs H) (v : Val l sx) (hl : sx.1.length ≤ 100) (k : Kp p.m H H') (r : SrA K H' l p s') : Core K T bs L0 l p q s' sy M qs hs H' := by
  have hc := C.rx.lists v hl C.bag
  have hcl : ∀ a ∈ p.m, ∃ xs, H a = some (.lst xs) := fun a ha => by
    obtain ⟨_, xs, hx, _⟩ := hc a ha
    exact ⟨xs, hx⟩
  refine ⟨bags_kp C.bag (KN.kp k) hc, tabs_kp C.tb k hcl, k _ _ (fun z => C.nL (List.mem_append_left _ z)) C.hL, r, C.ry.kn (KN.kp k) (fun a ha z => C.d1 a z ha) hcl, k _ _ (fun z => C.nM (List.mem_append_left _ z)) C.hM, C.st.kn (KN.kp k) fun a ha => ?_, C.d1, C.nL, C.nM⟩
  obtain ⟨xs, hx⟩ := hcl a ha
  exact ⟨xs, hx, .inl (List.mem_append_left _ ha)⟩
theorem Core.doY {s' : Stt} (C : Core K T bs L0 l p q sx sy M qs hs H) (v : Val l sy) (hl : sy.1.length ≤ 100) (k : Kp q.m H H') (r : SrA K H' l q s') : Core K T bs L0 l p q sx s' M qs hs H' := by
  have hc := C.ry.lists v hl C.bag
  have hcl : ∀ a ∈ q.m, ∃ xs, H a = some (.lst xs) := fun a ha => by
    obtain ⟨_, xs, hx, _⟩ := hc a ha
    exact ⟨xs, hx⟩
  refine ⟨bags_kp C.bag (KN.kp k) hc, tabs_kp C.tb k hcl, k _ _ (fun z => C.nL (List.mem_append_right _ z)) C.hL, C.rx.kn (KN.kp k) (fun a ha z => C.d1 a ha z) hcl, r, k _ _ (fun z => C.nM (List.mem_append_right _ z)) C.hM, C.st.kn (KN.kp k) fun a ha => ?_, C.d1, C.nL, C.nM⟩
  obtain ⟨xs, hx⟩ := hcl a ha
  exact ⟨xs, hx, .inl (List.mem_append_right _ ha)⟩
theorem Core.low (C : Core K T bs L0 l p q sx sy M qs hs H) : ∀ a, H a = none → a ∉ p.m ++ q.m := fun a n z => by
  rcases List.mem_append.mp z with z | z
  · obtain ⟨xs, hx, _⟩ := C.rx.m_lst a z
    rw [hx] at n
    cases n
  · obtain ⟨xs, hx, _⟩ := C.ry.m_lst a z
    rw [hx] at n
    cases n
end
open LamX in
def sp_law (K : PySem.W.Frag) (T : List (Addr × Str)) : Sp := fun vs H Q _ => ∃ (a : Addr) (ns : List Int), vs = [.ref a] ∧ SqL K H a (ns.map V.int) ∧ ns.length ≤ 63 ∧ Tabs T H ∧ ∀ H', Q (.bl true) H'
abbrev N_law : List Str := ["script", "bag", "length", "hidden", "search", "other", "states", "turn", "stands", "words", "word", "thing", "true", "deed", "due", "kin"]
def t_law (K : PySem.W.Frag) (P : Program) (w : World) (mg : Str → Option Value) (base : Heap) (T : List (Addr × Str)) (qL : Str) (prL : Arguments) (boL : Expr) (scL : Scope) : TS := (tSeq (tFor (iList K (tCall (sp__law_bags K) [] E0 (tCons (tVar 0) (tCons (tC (.int 6)) tNil)))) (gName 1) (tSeq (tAsg (tOp (rI0 fun i j => .int (i + j)) (tC (.int 1)) (tCall (sp__law_take K) [] E0 (tCons (tVar 1) (tCons (tC (.int 20)) tNil)))) (gName 2))
  (tSeq (tAsg (tOp (rI0 fun i j => .int (i + j)) (tC (.int 1)) (tCall (sp__law_take K) [] E0 (tCons (tVar 1) (tCons (tVar 2) tNil)))) (gName 3))
  (tSeq (tPar3 4 5 6 (tCons (tMake (He.ga K "Search") (sp_Search___init__ K) [] E0 (tCons (tVar 2) tNil)) (tCons (tMake (He.ga K "Search") (sp_Search___init__ K) [] E0 (tCons (tVar 2) tNil)) (tCons (tLst (tCons (tTup (tCons (tLst tNil) (tCons (tLst tNil) tNil))) tNil)) tNil))))
  (tSeq (tFor (iRng1 (tCons (tCall (sp__law_take K) [] E0 (tCons (tVar 1) (tCons (tC (.int 41)) tNil))) tNil)) (gName 7) (tSeq (tAsg (tOp (rIxL K) (tVar 6) (tUn (rU fun i => .int (-i)) (tC (.int 1)))) (gTup K 2 (gCons (gName 8) (gCons (gName 9) gNil))))
  (tSeq (tAsg (tOp (rIxL K) (tLst (tCons (tC (.str (Str.ofString "stand"))) (tCons (tC (.str (Str.ofString "answer"))) (tCons (tC (.str (Str.ofString "back"))) tNil)))) (tOp (rIxL K) (tLst (tCons (tC (.int 0)) (tCons (tC (.int 0)) (tCons (tC (.int 0)) (tCons (tC (.int 1)) (tCons (tC (.int 1)) (tCons (tC (.int 1)) (tCons (tC (.int 1)) (tCons (tC (.int 2)) tNil))))))))) (tCall (sp__law_take K) [] E0 (tCons (tVar 1) (tCons (tC (.int 8)) tNil))))) (gName 10))
  (tSeq (tAsg (tOp rCat (tOp rRep (tLst (tCons (tOp (rI0 fun i j => .int (i + j)) (tC (.int 1)) (tCall (sp__law_take K) [] E0 (tCons (tVar 1) (tCons (tVar 2) tNil)))) tNil)) (tC (.int 6))) (tLst (tCons (tC (.int 0)) (tCons (tOp (rI0 fun i j => .int (i + j)) (tVar 2) (tC (.int 1))) (tCons (tC .non) (tCons (tC (.bl true)) (tCons (tC (.str (Str.ofString "1"))) tNil))))))) (gName 11))
  (Evl.tCut (tIfS (tTest (tOp rEq (tVar 10) (tC (.str (Str.ofString "answer"))))) (tSeq (tAsg (tOp (rIxL K) (tOp rCat (tCall (sp__law_words K) [] E0 (tCons (tVar 3) (tCons (tVar 8) tNil))) (tLst (tCons (tC (.str (Str.ofString "same"))) tNil))) (tCB (rLenQ K) (tCons (tVar 9) tNil))) (gName 12))
  (tAsg (tOp rCat (tOp rRep (tLst (tCons (tVar 12) tNil)) (tC (.int 7))) (tLst (tCons (tC (.str (Str.ofString "warm"))) (tCons (tC (.str (Str.ofString "cold"))) (tCons (tC (.str (Str.ofString "same"))) (tCons (tC (.str (Str.ofString "hot"))) tNil)))))) (gName 11))) tNext)
  (tSeq (tPar 13 14 (tCons (tTup (tCons (tVar 10) (tCons (tOp (rIxL K) (tVar 11) (tCall (sp__law_take K) [] E0 (tCons (tVar 1) (tCons (tC (.int 11)) tNil)))) tNil))) (tCons (tLst (tCons (tC (.str (Str.ofString "NothingLeft"))) (tCons (tC (.bl true)) tNil))) tNil)))
  (Evl.tCut (tIfS (tTest (tOp rNe (tVar 10) (tC (.str (Str.ofString "back"))))) (tAsg (tCall (sp__law_after K) [] E0 (tCons (tVar 2) (tCons (tOp (rIxL K) (tVar 6) (tUn (rU fun i => .int (-i)) (tC (.int 1)))) (tCons (tVar 13) tNil)))) (gName 14)) (tIfS (tTest (tOp (rI0 fun i j => .bl (decide (j < i))) (tCB (rLenQ K) (tCons (tVar 6) tNil)) (tC (.int 1)))) (tAsg (tOp (rIxL K) (tVar 6) (tUn (rU fun i => .int (-i)) (tC (.int 2)))) (gName 14)) tNext))
  (tSeq (tAsg (tCall (sp__law_refused K P w mg base) [] E0 (tCons (tLamb T qL prL boL scL) (tCons (tVar 4) (tCons (tVar 13) (tCons (tC (.int 0)) tNil))))) (gName 15))
  (tSeq (tIfS (tTest (tOp (rNeD K) (tVar 15) (tIf (tB (tCB (rIsi K) (tCons (tVar 14) (tCons (tC (.ty "list")) tNil)))) (tVar 14) (tLst tNil)))) (tRet (tC (.bl false))) tNext)
  (Evl.tCut (tIfS (tTest (tOp (rEqD K) (tVar 15) (tLst tNil))) (tSeq (tAsg (tIf (tTest (tOp rEq (tVar 10) (tC (.str (Str.ofString "back"))))) (tSl (rSlL K) (tVar 6) tNoPart (tPart (tUn (rU fun i => .int (-i)) (tC (.int 1))))) (tOp rCat (tVar 6) (tLst (tCons (tVar 14) tNil)))) (gName 6))
  (tDrop (tCall (sp__law_do K) [] E0 (tCons (tVar 5) (tCons (tVar 13) tNil))))) tNext)
  (tSeq (tAsg (tOp (rIxL K) (tVar 6) (tUn (rU fun i => .int (-i)) (tC (.int 1)))) (gTup K 2 (gCons (gName 8) (gCons (gName 9) gNil))))
  (tSeq (tIfS (tOr (tTest (tOp (rNeD K) (tMeth (He.ga K "Search") "stands" (sp_Search_stands K) [] E0 (tVar 4) tNil) (tVar 8))) (tOr (tTest (tOp (rNeD K) (tMeth (He.ga K "Search") "answers" (sp_Search_answers K) [] E0 (tVar 4) tNil) (tVar 9))) (tTest (tOp rNe (tCB (rLenI (He.ga K "Search") (sp_Search___len__ K) E0) (tCons (tVar 4) tNil)) (tCB (rLenQ K) (tCons (tVar 8) tNil)))))) (tRet (tC (.bl false))) tNext)
  (tSeq (tIfS (tTest (tOp rNe (tCB rReprB (tCons (tMeth (He.ga K "Search") "waits" (sp_Search_waits K) [] E0 (tVar 4) tNil) tNil)) (tCB rReprB (tCons (tOp (rI0 fun i j => .bl (decide (j < i))) (tOp (rI0 fun i j => .int (i - j)) (tCB (rLenQ K) (tCons (tVar 8) tNil)) (tC (.int 1))) (tCB (rLenQ K) (tCons (tVar 9) tNil))) tNil)))) (tRet (tC (.bl false))) tNext)
  (tSeq (tIfS (tTest (tOp (rNeD K) (tMeth (He.ga K "Search") "can_lie" (sp_Search_can_lie K) [] E0 (tVar 4) tNil) (tCall (sp__law_open K) [] E0 (tCons (tVar 2) (tCons (tVar 8) (tCons (tVar 9) tNil)))))) (tRet (tC (.bl false))) tNext)
  (tSeq (tDrop (tBM K "list" rAppend (tMeth (He.ga K "Search") "stands" (sp_Search_stands K) [] E0 (tVar 4) tNil) (tCons (tC (.int 0)) tNil)))
  (tSeq (tDrop (tBM K "list" rAppend (tMeth (He.ga K "Search") "answers" (sp_Search_answers K) [] E0 (tVar 4) tNil) (tCons (tC (.int 0)) tNil)))
  (tIfS (tOr (tNot (tTest (tOp (rEqI (He.ga K "Search") (sp_Search___eq__ K) E0) (tVar 4) (tVar 5)))) (tTest (tOp (rEqI (He.ga K "Search") (sp_Search___eq__ K) E0) (tVar 4) (tVar 8)))) (tRet (tC (.bl false))) tNext)))))))))))))))))
  (tSeq (tFor (iRng1 (tCons (tOp (rI0 fun i j => .int (i - j)) (tCB (rLenQ K) (tCons (tVar 6) tNil)) (tC (.int 1))) tNil)) (gName 7) (tDrop (tMeth (He.ga K "Search") "back" (sp_Search_back K) [] E0 (tVar 4) tNil)))
  (tIfS (tOr (tNot (tTest (tOp (rEqI (He.ga K "Search") (sp_Search___eq__ K) E0) (tVar 4) (tMake (He.ga K "Search") (sp_Search___init__ K) [] E0 (tCons (tVar 2) tNil))))) (tTest (tOp rNe (tOp (rEqI (He.ga K "Search") (sp_Search___eq__ K) E0) (tVar 4) (tVar 5)) (tOp (rEqD K) (tOp (rIxL K) (tVar 6) (tUn (rU fun i => .int (-i)) (tC (.int 1)))) (tTup (tCons (tLst tNil) (tCons (tLst tNil) tNil))))))) (tRet (tC (.bl false))) tNext)))))))
  (tRet (tNotV (tOp (rEqI (He.ga K "Search") (sp_Search___eq__ K) E0) (tMake (He.ga K "Search") (sp_Search___init__ K) [] E0 (tCons (tC (.int 3)) tNil)) (tMake (He.ga K "Search") (sp_Search___init__ K) [] E0 (tCons (tC (.int 4)) tNil))))))
section
open LamX
theorem KN.ex' {cs : List Addr} {H H' : Hp} (e : Ex H H') : KN cs H H' := fun a o _ h _ => e a o h
theorem KN.trans {cs : List Addr} {H H1 H2 : Hp} (a : KN cs H H1) (b : KN cs H1 H2) : KN cs H H2 := fun c o n h z => b c o n (a c o n h z) z
def DeedOf (wd : Str) (v : V) : Prop := ∃ D : Deed, D.ok ∧ D.word = wd ∧ D.val = v
def spL (K : PySem.W.Frag) : Sp := fun vs H Q E => ∃ a b c, vs = [a, b, c] ∧ sp__law_do K [a, b] H Q E
variable {K : PySem.W.Frag} {T : List (Addr × Str)} {bs : List Addr} {L0 : Addr} {l : Int} {p q : At} {sx sy : Stt} {M : Addr} {qs : List Addr} {hs : List Stt} {H : Hp}
def IsWd (wd : Str) : Prop := wd = "stand" ∨ wd = "answer" ∨ wd = "back"
theorem stg_word {σ : L2.St} {b : Addr} {Q : VK} (h1 : σ[1]? = some (some (.ref b))) (hb : b ∈ bs) (C : Core K T bs L0 l p q sx sy M qs hs H)
    (k : ∀ wd H', IsWd wd → KN bs H H' → Core K T bs L0 l p q sx sy M qs hs H' → Q (.str wd) H') :
    (tOp (rIxL K) (tLst (tCons (tC (.str (Str.ofString "stand"))) (tCons (tC (.str (Str.ofString "answer"))) (tCons (tC (.str (Str.ofString "back"))) tNil)))) (tOp (rIxL K) (tLst (tCons (tC (.int 0)) (tCons (tC (.int 0)) (tCons (tC (.int 0)) (tCons (tC (.int 1)) (tCons (tC (.int 1)) (tCons (tC (.int 1)) (tCons (tC (.int 1)) (tCons (tC (.int 2)) tNil))))))))) (tCall (sp__law_take K) [] E0 (tCons (tVar 1) (tCons (tC (.int 8)) tNil))))) σ H Q := by
  refine ⟨by show 3 ≤ sizeLine; decide, fun m nm => ⟨by show 8 ≤ sizeLine; decide, fun m2 nm2 => ?_⟩⟩
  have e1 : Ex H (upd H m (.lst [.str (Str.ofString "stand"), .str (Str.ofString "answer"), .str (Str.ofString "back")])) := Ex.new nm
  have hm : (upd H m (.lst [.str (Str.ofString "stand"), .str (Str.ofString "answer"), .str (Str.ofString "back")])) m = some (.lst [.str (Str.ofString "stand"), .str (Str.ofString "answer"), .str (Str.ofString "back")]) := upd_same
  generalize upd H m (.lst [.str (Str.ofString "stand"), .str (Str.ofString "answer"), .str (Str.ofString "back")]) = H1 at e1 hm nm2 ⊢
  have e2 : Ex H1 (upd H1 m2 (.lst [.int 0, .int 0, .int 0, .int 1, .int 1, .int 1, .int 1, .int 2])) := Ex.new nm2
  have hm2 : (upd H1 m2 (.lst [.int 0, .int 0, .int 0, .int 1, .int 1, .int 1, .int 1, .int 2])) m2 = some (.lst [.int 0, .int 0, .int 0, .int 1, .int 1, .int 1, .int 1, .int 2]) := upd_same
  generalize upd H1 m2 (.lst [.int 0, .int 0, .int 0, .int 1, .int 1, .int 1, .int 1, .int 2]) = H2 at e2 hm2 ⊢
  have C2 := (C.ex e1).ex e2
  refine ⟨_, h1, bs, b, 8, rfl, hb, C2.bag, by decide, fun r H3 hr0 hr1 k3 B3 => ?_⟩
  have nm2b : m2 ∉ bs := bag_not C2.bag hm2 (fun d c z => by cases (List.cons.inj z).1)
  have nmb : m ∉ bs := bag_not C2.bag (e2 _ _ hm) (fun d c z => by cases (List.cons.inj z).1)
  have hm2' := k3 _ _ nm2b hm2
  have hm' := k3 _ _ nmb (e2 _ _ hm)
  have C3 := C2.take k3 B3
  have kn : KN bs H H3 := ((KN.ex' e1).trans (KN.ex' e2)).trans (KN.kp k3)
  have hr : r = 0 ∨ r = 1 ∨ r = 2 ∨ r = 3 ∨ r = 4 ∨ r = 5 ∨ r = 6 ∨ r = 7 := by omega
  rcases hr with rfl | rfl | rfl | rfl | rfl | rfl | rfl | rfl
  · exact ⟨m2, _, _, .int 0, rfl, rfl, SqL.of hm2', rfl, m, _, _, _, rfl, rfl, SqL.of hm', rfl, k "stand" H3 (.inl rfl) kn C3⟩
  · exact ⟨m2, _, _, .int 0, rfl, rfl, SqL.of hm2', rfl, m, _, _, _, rfl, rfl, SqL.of hm', rfl, k "stand" H3 (.inl rfl) kn C3⟩
  · exact ⟨m2, _, _, .int 0, rfl, rfl, SqL.of hm2', rfl, m, _, _, _, rfl, rfl, SqL.of hm', rfl, k "stand" H3 (.inl rfl) kn C3⟩
  · exact ⟨m2, _, _, .int 1, rfl, rfl, SqL.of hm2', rfl, m, _, _, _, rfl, rfl, SqL.of hm', rfl, k "answer" H3 (.inr (.inl rfl)) kn C3⟩
  · exact ⟨m2, _, _, .int 1, rfl, rfl, SqL.of hm2', rfl, m, _, _, _, rfl, rfl, SqL.of hm', rfl, k "answer" H3 (.inr (.inl rfl)) kn C3⟩
  · exact ⟨m2, _, _, .int 1, rfl, rfl, SqL.of hm2', rfl, m, _, _, _, rfl, rfl, SqL.of hm', rfl, k "answer" H3 (.inr (.inl rfl)) kn C3⟩
  · exact ⟨m2, _, _, .int 1, rfl, rfl, SqL.of hm2', rfl, m, _, _, _, rfl, rfl, SqL.of hm', rfl, k "answer" H3 (.inr (.inl rfl)) kn C3⟩
  · exact ⟨m2, _, _, .int 2, rfl, rfl, SqL.of hm2', rfl, m, _, _, _, rfl, rfl, SqL.of hm', rfl, k "back" H3 (.inr (.inr rfl)) kn C3⟩
theorem stg_thing {σ : L2.St} {b : Addr} {Q : VK} (h1 : σ[1]? = some (some (.ref b))) (h2 : σ[2]? = some (some (.int l))) (hl : 1 ≤ l) (hb : b ∈ bs) (C : Core K T bs L0 l p q sx sy M qs hs H)
    (k : ∀ th vs H', KN bs H H' → Core K T bs L0 l p q sx sy M qs hs H' → H' th = some (.lst vs) → vs.length = 11 → (∀ v ∈ vs, Sm v) → Q (.ref th) H') :
    (tOp rCat (tOp rRep (tLst (tCons (tOp (rI0 fun i j => .int (i + j)) (tC (.int 1)) (tCall (sp__law_take K) [] E0 (tCons (tVar 1) (tCons (tVar 2) tNil)))) tNil)) (tC (.int 6))) (tLst (tCons (tC (.int 0)) (tCons (tOp (rI0 fun i j => .int (i + j)) (tVar 2) (tC (.int 1))) (tCons (tC .non) (tCons (tC (.bl true)) (tCons (tC (.str (Str.ofString "1"))) tNil))))))) σ H Q := by
  refine ⟨_, h1, _, h2, bs, b, l, rfl, hb, C.bag, by omega, fun r H1 hr0 hr1 k1 B1 => ⟨1, r, rfl, rfl, by show 1 ≤ sizeLine; decide, fun m nm => ?_⟩⟩
  have C1 := C.take k1 B1
  dsimp only
  generalize 1 + r = v at nm ⊢
  refine ⟨m, 6, _, rfl, rfl, upd_same, by decide, by decide, by show 1 * 6 ≤ sizeLine; decide, fun m2 nm2 => ?_⟩
  have er : (List.replicate (6 : Int).toNat [V.int v]).flatten = [.int v, .int v, .int v, .int v, .int v, .int v] := rfl
  rw [er]
  have e1 : Ex H1 (upd H1 m (.lst [.int v])) := Ex.new nm
  generalize upd H1 m (.lst [.int v]) = H2 at e1 nm2 ⊢
  have e2 : Ex H1 (upd H2 m2 (.lst [.int v, .int v, .int v, .int v, .int v, .int v])) := e1.trans (Ex.new nm2)
  have hm2 : (upd H2 m2 (.lst [.int v, .int v, .int v, .int v, .int v, .int v])) m2 = some (.lst [.int v, .int v, .int v, .int v, .int v, .int v]) := upd_same
  generalize upd H2 m2 (.lst [.int v, .int v, .int v, .int v, .int v, .int v]) = H3 at e2 hm2 ⊢
  refine ⟨_, h2, l, 1, rfl, rfl, by show 5 ≤ sizeLine; decide, fun m3 nm3 => ?_⟩
  refine ⟨m2, m3, _, _, rfl, rfl, (Ex.new nm3) _ _ hm2, upd_same, by show 11 ≤ sizeLine; decide, fun th nth => ?_⟩
  refine k th _ _ ((KN.kp k1).trans (KN.ex' ((e2.trans (Ex.new nm3)).trans (Ex.new nth)))) (C1.ex ((e2.trans (Ex.new nm3)).trans (Ex.new nth))) upd_same rfl fun w hw => ?_
  simp only [List.cons_append, List.nil_append, List.mem_cons, List.not_mem_nil, or_false] at hw
  rcases hw with rfl | rfl | rfl | rfl | rfl | rfl | rfl | rfl | rfl | rfl | rfl
  all_goals first | exact .int _ | exact .non | exact .bl _ | exact .str _
theorem stg_true {σ : L2.St} {hid : Int} {A B : Addr} {s : Stt} {Q : VK} (h3 : σ[3]? = some (some (.int hid))) (h8 : σ[8]? = some (some (.ref A))) (h9 : σ[9]? = some (some (.ref B))) (hA : H A = some (.lst (s.1.map V.int))) (hB : H B = some (.lst (s.2.map vW))) (v : Val l s) (hl : s.1.length ≤ 100)
    (k : ∀ w H', Ex H H' → Q (vW w) H') :
    (tOp (rIxL K) (tOp rCat (tCall (sp__law_words K) [] E0 (tCons (tVar 3) (tCons (tVar 8) tNil))) (tLst (tCons (tC (.str (Str.ofString "same"))) tNil))) (tCB (rLenQ K) (tCons (tVar 9) tNil))) σ H Q := by
  refine ⟨_, h3, _, h8, hid, A, s.1, rfl, SqL.of hA, by omega, fun g H1 ng e1 hg => ?_⟩
  refine ⟨by show 1 ≤ sizeLine; decide, fun m nm => ?_⟩
  have e2 := e1.trans (Ex.new (p := m) (o := .lst [.str (Str.ofString "same")]) nm)
  have hwl : (wordsOf hid s.1).length = s.1.length - 1 := wordsOf_len _ _
  refine ⟨g, m, _, _, rfl, rfl, (Ex.new nm) _ _ hg, upd_same, ?_, fun c nc => ?_⟩
  · rw [List.length_map, hwl]
    exact Nat.le_of_lt (small1000 (by show s.1.length - 1 + 1 ≤ 1000; omega))
  have e3 := e2.trans (Ex.new (p := c) (o := .lst ((wordsOf hid s.1).map vW ++ [.str (Str.ofString "same")])) nc)
  have hc : (upd (upd H1 m (.lst [.str (Str.ofString "same")])) c (.lst ((wordsOf hid s.1).map vW ++ [.str (Str.ofString "same")]))) c = some (.lst (((wordsOf hid s.1) ++ [Wo.same]).map vW)) := by
    rw [upd_same, List.map_append]
    rfl
  generalize upd (upd H1 m (.lst [.str (Str.ofString "same")])) c (.lst ((wordsOf hid s.1).map vW ++ [.str (Str.ofString "same")])) = H3 at e3 hc ⊢
  refine ⟨_, h9, B, _, rfl, .inl (SqL.of (e3 _ _ hB)), ?_⟩
  have hlt : s.2.length < ((wordsOf hid s.1) ++ [Wo.same]).length := by
    rw [List.length_append, hwl]
    show _ < s.1.length - 1 + 1
    rcases v.sh with ⟨z1, z2⟩ | z | z
    · rw [z2]
      exact Nat.succ_pos _
    · omega
    · omega
  refine ⟨c, _, _, vW (((wordsOf hid s.1) ++ [Wo.same])[s.2.length]), rfl, rfl, SqL.of hc, ?_, k _ H3 e3⟩
  rw [List.length_map]
  refine atI_nat ?_
  rw [List.getElem?_map, List.getElem?_eq_getElem hlt]
  rfl
theorem stg_words {σ : L2.St} {w : Wo} {Q : VK} (h12 : σ[12]? = some (some (vW w))) (k : ∀ th vs H', Ex H H' → H' th = some (.lst vs) → vs.length = 11 → (∀ v ∈ vs, DeedOf "answer" v) → Q (.ref th) H') :
    (tOp rCat (tOp rRep (tLst (tCons (tVar 12) tNil)) (tC (.int 7))) (tLst (tCons (tC (.str (Str.ofString "warm"))) (tCons (tC (.str (Str.ofString "cold"))) (tCons (tC (.str (Str.ofString "same"))) (tCons (tC (.str (Str.ofString "hot"))) tNil)))))) σ H Q := by
  refine ⟨_, h12, by show 1 ≤ sizeLine; decide, fun m nm => ?_⟩
  refine ⟨m, 7, _, rfl, rfl, upd_same, by decide, by decide, by show 1 * 7 ≤ sizeLine; decide, fun m2 nm2 => ?_⟩
  have er : (List.replicate (7 : Int).toNat [vW w]).flatten = [vW w, vW w, vW w, vW w, vW w, vW w, vW w] := rfl
  rw [er]
  have e1 : Ex H (upd H m (.lst [vW w])) := Ex.new nm
  generalize upd H m (.lst [vW w]) = H2 at e1 nm2 ⊢
  have e2 : Ex H (upd H2 m2 (.lst [vW w, vW w, vW w, vW w, vW w, vW w, vW w])) := e1.trans (Ex.new nm2)
  have hm2 : (upd H2 m2 (.lst [vW w, vW w, vW w, vW w, vW w, vW w, vW w])) m2 = some (.lst [vW w, vW w, vW w, vW w, vW w, vW w, vW w]) := upd_same
  generalize upd H2 m2 (.lst [vW w, vW w, vW w, vW w, vW w, vW w, vW w]) = H3 at e2 hm2 ⊢
  refine ⟨by show 4 ≤ sizeLine; decide, fun m3 nm3 => ?_⟩
  refine ⟨m2, m3, _, _, rfl, rfl, (Ex.new nm3) _ _ hm2, upd_same, by show 11 ≤ sizeLine; decide, fun th nth => ?_⟩
  refine k th _ _ ((e2.trans (Ex.new nm3)).trans (Ex.new nth)) upd_same rfl fun x hx => ?_
  simp only [List.cons_append, List.nil_append, List.mem_cons, List.not_mem_nil, or_false] at hx
  rcases hx with rfl | rfl | rfl | rfl | rfl | rfl | rfl | rfl | rfl | rfl | rfl
  · exact ⟨.answer (some w), trivial, rfl, rfl⟩
  · exact ⟨.answer (some w), trivial, rfl, rfl⟩
  · exact ⟨.answer (some w), trivial, rfl, rfl⟩
  · exact ⟨.answer (some w), trivial, rfl, rfl⟩
  · exact ⟨.answer (some w), trivial, rfl, rfl⟩
  · exact ⟨.answer (some w), trivial, rfl, rfl⟩
  · exact ⟨.answer (some w), trivial, rfl, rfl⟩
  · exact ⟨.answer (some .warm), trivial, rfl, rfl⟩
  · exact ⟨.answer (some .cold), trivial, rfl, rfl⟩
  · exact ⟨.answer (some .same), trivial, rfl, rfl⟩
  · exact ⟨.answer none, trivial, rfl, rfl⟩
/-- a deed and its due are laid -/
theorem stg_deed {σ : L2.St} {b th : Addr} {vs : List V} {wd : Str} {Q : List V → Hp → Prop} (h1 : σ[1]? = some (some (.ref b))) (h10 : σ[10]? = some (some (.str wd))) (h11 : σ[11]? = some (some (.ref th))) (hb : b ∈ bs) (C : Core K T bs L0 l p q sx sy M qs hs H) (hth : H th = some (.lst vs)) (hv : vs.length = 11) (hd : ∀ v ∈ vs, DeedOf wd v)
    (k : ∀ d due D H', Core K T bs L0 l p q sx sy M qs hs H' → Deed.ok D → wd = D.word → H' d = some (.tup [.str D.word, D.val]) → H' due = some (.lst [.str "NothingLeft", .bl true]) → Q [.ref d, .ref due] H') :
    (tCons (tTup (tCons (tVar 10) (tCons (tOp (rIxL K) (tVar 11) (tCall (sp__law_take K) [] E0 (tCons (tVar 1) (tCons (tC (.int 11)) tNil)))) tNil))) (tCons (tLst (tCons (tC (.str (Str.ofString "NothingLeft"))) (tCons (tC (.bl true)) tNil))) tNil)) σ H Q := by
  refine ⟨_, h10, _, h11, _, h1, bs, b, 11, rfl, hb, C.bag, by decide, fun r H1 hr0 hr1 k1 B1 => ?_⟩
  have nth : th ∉ bs := bag_not C.bag hth (fun d c z => by rw [z] at hv; cases hv)
  have hth1 := k1 _ _ nth hth
  have C1 := C.take k1 B1
  obtain ⟨j, rfl⟩ := Int.eq_ofNat_of_zero_le hr0
  have hj : j < vs.length := by omega
  obtain ⟨D, hok, hw, hval⟩ := hd _ (List.getElem_mem hj)
  refine ⟨th, vs, _, vs[j], rfl, rfl, SqL.of hth1, atI_nat (List.getElem?_eq_getElem hj), by show 2 ≤ sizeLine; decide, fun d nd => ?_⟩
  refine ⟨by show 2 ≤ sizeLine; decide, fun due ndue => ?_⟩
  refine k d due D _ (C1.ex ((Ex.new nd).trans (Ex.new ndue))) hok hw.symm ?_ upd_same
  rw [hw, hval]
  exact (Ex.new ndue) _ _ upd_same
def Due (l : Int) (s : Stt) (D : Deed) (bad : List Addr) (H : Hp) (u : Addr) : Prop := (∃ nm, stepD l s D = .inl nm ∧ H u = some (.lst [.str nm, .bl true])) ∨ ∃ s' A B, stepD l s D = .inr s' ∧ H u = some (.tup [.ref A, .ref B]) ∧ H A = some (.lst (s'.1.map V.int)) ∧ H B = some (.lst (s'.2.map vW)) ∧ A ∉ bad ∧ B ∉ bad
theorem rev_cons (q0 : Addr) (qs : List Addr) : (q0 :: qs).reverse.map V.ref = qs.reverse.map V.ref ++ [.ref q0] := by simp
theorem atI_two (xs : List V) (u v : V) : atI (xs ++ [u, v]) (-2) = some u := by
  have hl : (xs ++ [u, v]).length = xs.length + 2 := by simp
  have e : ixN (xs ++ [u, v]).length (-2) = some xs.length := by
    unfold ixN
    rw [hl, if_neg (by decide), if_pos (by omega)]
    congr 1
    omega
  unfold atI
  rw [e]
  simp
theorem cut_butlast (xs : List V) (v : V) : cutV (xs ++ [v]) none (some (-1)) = xs := by
  unfold cutV
  rw [HT.sIx_none]
  have hl : (xs ++ [v]).length = xs.length + 1 := by simp
  have e : HT.sIx (xs ++ [v]).length (xs ++ [v]).length (some (-1)) = xs.length := by
    rw [hl]
    show (if (-1 : Int) < 0 then (-1 + ((xs.length + 1 : Nat) : Int)).toNat else min (-1 : Int).toNat (xs.length + 1)) = xs.length
    rw [if_pos (by decide)]
    omega
  rw [e, List.drop_zero, Nat.sub_zero, List.take_left]
theorem stg_due {E : Ends} {M d due q0 : Addr} {qs : List Addr} {hs : List Stt} {s : Stt} {Dd : Deed} {v0 v1 v3 v4 v5 v7 v8 v9 v11 v12 v15 : Option V} (C : Core K T bs L0 l p q s sy M (q0 :: qs) (s :: hs) H) (ch : Ch (s :: hs)) (v : Val l s) (hl1 : 1 ≤ l) (hl2 : l ≤ 60) (hsl : s.1.length ≤ 100) (hok : Dd.ok)
    (hd : H d = some (.tup [.str Dd.word, Dd.val])) (hdue : H due = some (.lst [.str "NothingLeft", .bl true]))
    (k : ∀ u H', Core K T bs L0 l p q s sy M (q0 :: qs) (s :: hs) H' → H' d = some (.tup [.str Dd.word, Dd.val]) → Due l s Dd (p.m ++ q.m) H' u → E.nx [v0, v1, some (.int l), v3, v4, v5, some (.ref M), v7, v8, v9, some (.str Dd.word), v11, v12, some (.ref d), some (.ref u), v15] H') :
    (tIfS (tTest (tOp rNe (tVar 10) (tC (.str (Str.ofString "back"))))) (tAsg (tCall (sp__law_after K) [] E0 (tCons (tVar 2) (tCons (tOp (rIxL K) (tVar 6) (tUn (rU fun i => .int (-i)) (tC (.int 1)))) (tCons (tVar 13) tNil)))) (gName 14)) (tIfS (tTest (tOp (rI0 fun i j => .bl (decide (j < i))) (tCB (rLenQ K) (tCons (tVar 6) tNil)) (tC (.int 1)))) (tAsg (tOp (rIxL K) (tVar 6) (tUn (rU fun i => .int (-i)) (tC (.int 2)))) (gName 14)) tNext))
      E [v0, v1, some (.int l), v3, v4, v5, some (.ref M), v7, v8, v9, some (.str Dd.word), v11, v12, some (.ref d), some (.ref due), v15] H := by
  have hM := C.hM
  rw [rev_cons] at hM
  refine ⟨_, rfl, rfl, _, rfl, ?_⟩
  have aft : (∀ y, Dd ≠ .back y) → (tAsg (tCall (sp__law_after K) [] E0 (tCons (tVar 2) (tCons (tOp (rIxL K) (tVar 6) (tUn (rU fun i => .int (-i)) (tC (.int 1)))) (tCons (tVar 13) tNil)))) (gName 14))
      E [v0, v1, some (.int l), v3, v4, v5, some (.ref M), v7, v8, v9, some (.str Dd.word), v11, v12, some (.ref d), some (.ref due), v15] H := fun hnb => by
    cases C.st with
    | cons g1 g2 g3 n1 n2 t =>
      rename_i A B
      refine ⟨_, rfl, _, rfl, 1, rfl, M, _, -1, .ref q0, rfl, rfl, SqL.of hM, atI_last _ _, _, rfl, ?_⟩
      refine ⟨l, q0, d, A, B, s, Dd, rfl, hok, hnb, SqT.of g1, g2, g3, SqT.of hd, v, hl1, hl2, by omega, fun nm hst u H' nu e hu => ?_, fun s' hst u A' B' H' nu hA hB e hu ha hb => ?_⟩
      · exact k u H' (C.ex e) (e _ _ hd) (.inl ⟨nm, hst, hu⟩)
      · refine k u H' (C.ex e) (e _ _ hd) (.inr ⟨s', A', B', hst, hu, ha, hb, ?_, ?_⟩)
        · rcases hA with rfl | hA
          · exact n1
          · exact C.low _ hA
        · rcases hB with rfl | hB
          · exact n2
          · exact C.low _ hB
  cases Dd with
  | stand y =>
    have e : (!decide (V.str (Deed.word (.stand y)) = V.str (Str.ofString "back"))) = true := (by decide +kernel : (!decide (V.str ("stand" : Str) = V.str (Str.ofString "back"))) = true)
    rw [e]
    exact iteT (aft fun _ z => by cases z)
  | answer o =>
    have e : (!decide (V.str (Deed.word (.answer o)) = V.str (Str.ofString "back"))) = true := (by decide +kernel : (!decide (V.str ("answer" : Str) = V.str (Str.ofString "back"))) = true)
    rw [e]
    exact iteT (aft fun _ z => by cases z)
  | back y =>
    have e : (!decide (V.str (Deed.word (.back y)) = V.str (Str.ofString "back"))) = false := (by decide +kernel : (!decide (V.str ("back" : Str) = V.str (Str.ofString "back"))) = false)
    rw [e]
    refine iteF ⟨_, rfl, M, _, rfl, .inl (SqL.of hM), _, 1, rfl, rfl, _, rfl, ?_⟩
    have hlen := C.st.len
    cases hs with
    | nil =>
      have hq : qs = [] := List.length_eq_zero_iff.mp (by simpa using hlen)
      subst hq
      have h0 := ch.low
      refine iteF (k due H C hd (.inl ⟨"NothingLeft", ?_, hdue⟩))
      rw [h0]
      rfl
    | cons t r =>
      obtain ⟨c1, c2, c3⟩ := ch.one
      cases C.st with
      | cons g1 g2 g3 n1 n2 tl =>
        cases tl with
        | cons g1' g2' g3' n1' n2' tl' =>
          rename_i q1 A1 B1 qs'
          have elen : (((qs'.reverse ++ [q1]).map V.ref ++ [V.ref q0]).length : Int) = (qs'.length : Int) + 2 := by simp
          have hM2 : H M = some (.lst (qs'.reverse.map V.ref ++ [.ref q1, .ref q0])) := by
            rw [hM]
            simp
          have ed : decide ((1 : Int) < (((q1 :: qs').reverse.map V.ref ++ [V.ref q0]).length : Nat)) = true := decide_eq_true (by simp; omega)
          rw [ed]
          refine iteT ⟨_, rfl, 2, rfl, M, _, -2, .ref q1, rfl, rfl, SqL.of hM2, atI_two _ _ _, ?_⟩
          refine k q1 H C hd (.inr ⟨t, _, _, ?_, g1', g2', g3', n1', n2'⟩)
          simp only [stepD]
          rw [if_neg c1, c2]
theorem refN_list : ∀ nm ∈ rfN, SeqAt.shaped (.list [.str nm, .bool true]) = true ∧ PyData.eqv (.list [.str nm, .bool true]) (.list [.str nm, .bool true]) = true := by decide +kernel
theorem neR {K : PySem.W.Frag} {H : Hp} {a b : Addr} {nm : Str} {Q : VK} (hn : nm ∈ rfN) (ha : H a = some (.lst [.str nm, .bl true])) (hb : H b = some (.lst [.str nm, .bl true])) (q : Q (.bl false) H) : rNeD K (.ref a) (.ref b) H Q := by
  have ⟨h1, h2⟩ := refN_list nm hn
  refine ⟨_, _, .lst (SqL.of ha) (.cons (.str nm) (.cons (.bl true) .nil)), .lst (SqL.of hb) (.cons (.str nm) (.cons (.bl true) .nil)), h1, h1, ?_⟩
  rw [h2]
  exact q
theorem eqR0 {K : PySem.W.Frag} {H : Hp} {a b : Addr} {nm : Str} {Q : VK} (hn : nm ∈ rfN) (ha : H a = some (.lst [.str nm, .bl true])) (hb : H b = some (.lst [])) (q : Q (.bl false) H) : rEqD K (.ref a) (.ref b) H Q :=
  ⟨_, _, .lst (SqL.of ha) (.cons (.str nm) (.cons (.bl true) .nil)), .lst (SqL.of hb) .nil, (refN_list nm hn).1, by decide +kernel, q⟩
variable {P : Program} {w : World} {mg : Str → Option Value} {base : Heap} {qL : Str} {prL : Arguments} {boL : Expr} {scL : Scope}
def LamOk (P : Program) (w : World) (K : PySem.W.Frag) (mg : Str → Option Value) (base : Heap) (qL : Str) (prL : Arguments) (boL : Expr) (scL : Scope) : Prop :=
  ∀ f c', FnR P w K mg base (L2N.CX P w) 40 f (fun vs H Q E => H f = some (LamO f ⟨"<lambda>", qL, prL, [], scL, [], c'⟩ boL) ∧ H c' = some (CodeO c' qL) ∧ spL K vs H Q E)
theorem stg_ref (hL : LamOk P w K mg base qL prL boL scL) {σ : L2.St} {d u : Addr} {s : Stt} {Dd : Deed} {Q : VK} (h4 : σ[4]? = some (some (.ref p.x))) (h13 : σ[13]? = some (some (.ref d))) (C : Core K T bs L0 l p q s sy M qs hs H) (v : Val l s) (hl1 : 1 ≤ l) (hl2 : l ≤ 60) (hsl : s.1.length ≤ 100) (hok : Dd.ok)
    (hd : H d = some (.tup [.str Dd.word, Dd.val])) (hu : Due l s Dd (p.m ++ q.m) H u)
    (k1 : ∀ nm kin H', stepD l s Dd = .inl nm → Core K T bs L0 l p q s sy M qs hs H' → H' kin = some (.lst [.str nm, .bl true]) → H' u = some (.lst [.str nm, .bl true]) → Q (.ref kin) H')
    (k2 : ∀ s' A B kin H', stepD l s Dd = .inr s' → Core K T bs L0 l p q s' sy M qs hs H' → H' d = some (.tup [.str Dd.word, Dd.val]) → H' kin = some (.lst []) → H' u = some (.tup [.ref A, .ref B]) → H' A = some (.lst (s'.1.map V.int)) → H' B = some (.lst (s'.2.map vW)) → A ∉ p.m ++ q.m → B ∉ p.m ++ q.m → Q (.ref kin) H') :
    (tCall (sp__law_refused K P w mg base) [] E0 (tCons (tLamb T qL prL boL scL) (tCons (tVar 4) (tCons (tVar 13) (tCons (tC (.int 0)) tNil))))) σ H Q := by
  refine ⟨C.tb, fun f c' H1 e1 t1 nf hc ne => ?_⟩
  have C1 := C.tab e1 t1
  have hd1 := e1 _ _ hd (fun _ z => by cases z)
  refine ⟨_, h4, _, h13, f, _, _, _, _, rfl, hL f c', .inr ⟨_, _, upd_same⟩, fun p0 Q' E' np hq he => ?_⟩
  have e2 : Ex H1 (upd H1 f (LamO f ⟨"<lambda>", qL, prL, [], scL, [], c'⟩ boL)) := Ex.new nf
  have hf2 : (upd H1 f (LamO f ⟨"<lambda>", qL, prL, [], scL, [], c'⟩ boL)) f = some (LamO f ⟨"<lambda>", qL, prL, [], scL, [], c'⟩ boL) := upd_same
  generalize upd H1 f (LamO f ⟨"<lambda>", qL, prL, [], scL, [], c'⟩ boL) = H2 at e2 hf2 np ⊢
  have e3 : Ex H2 (upd H2 p0 (.lst [])) := Ex.new np
  have hp3 : (upd H2 p0 (.lst [])) p0 = some (.lst []) := upd_same
  have npm : p0 ∉ p.m := fun z => (C1.ex e2).low p0 np (List.mem_append_left _ z)
  generalize upd H2 p0 (.lst []) = H3 at e3 hp3 ⊢
  have e13 := e2.trans e3
  have C3 := C1.ex e13
  obtain ⟨us, r3⟩ := C3.rx
  refine ⟨e3 _ _ hf2, e13 _ _ hc, _, _, _, rfl, p.x, p.dx, p.S, p.W, p.F, d, l, s, us, Dd, rfl, hok, SqT.of (e13 _ _ hd1), r3, v, hl1, hl2, by omega, fun nm hst H' e => ?_, fun s' hst H' us' kk r' => ?_⟩
  · refine he _ _ _ ⟨nm, step_rf hst, rfl, rfl, fun kq H4 nk e4 hk => ?_⟩
    refine k1 nm kq H4 hst ((C3.ex e).ex e4) hk ?_
    rcases hu with ⟨nm', hs', hu'⟩ | ⟨s', A, B, hs', _⟩
    · rw [hst] at hs'
      cases hs'
      exact e4 _ _ (e _ _ (e13 _ _ (e1 _ _ hu' (fun _ z => by cases z))))
    · rw [hst] at hs'
      cases hs'
  · have rA : SrA K H' l p s' := ⟨us', r'⟩
    have C4 := C3.doX v hsl kk rA
    have ht : ∀ {a : Addr} {xs : List V}, H3 a = some (.tup xs) → H' a = some (.tup xs) := fun {a xs} h => kk _ _ (fun z => by
      obtain ⟨ys, hy, _⟩ := C3.rx.m_lst _ z
      rw [h] at hy
      cases hy) h
    rcases hu with ⟨nm', hs', hu'⟩ | ⟨s2, A, B, hs', hu', hA, hB, nA, nB⟩
    · rw [hst] at hs'
      cases hs'
    · rw [hst] at hs'
      cases hs'
      refine hq .non H' (k2 s' A B p0 H' hst C4 (ht (e13 _ _ hd1)) (kk _ _ npm hp3) (ht (e13 _ _ (e1 _ _ hu' (fun _ z => by cases z)))) (kk _ _ (fun z => nA (List.mem_append_left _ z)) (e13 _ _ (e1 _ _ hA (fun _ z => by cases z)))) (kk _ _ (fun z => nB (List.mem_append_left _ z)) (e13 _ _ (e1 _ _ hB (fun _ z => by cases z)))) nA nB)
/-- the deed done and held against its due; the other search told the same -/
theorem stg_all (hL : LamOk P w K mg base qL prL boL scL) {rest : TS} {E : Ends} {M d u q0 : Addr} {qs : List Addr} {hs : List Stt} {s : Stt} {Dd : Deed} {v0 v1 v2 v3 v7 v8 v9 v11 v12 v15 : Option V} (C : Core K T bs L0 l p q s s M (q0 :: qs) (s :: hs) H) (ch : Ch (s :: hs)) (v : Val l s) (hl1 : 1 ≤ l) (hl2 : l ≤ 60) (hsl : s.1.length ≤ 90) (hnl : hs.length ≤ 90) (hok : Dd.ok)
    (hd : H d = some (.tup [.str Dd.word, Dd.val])) (hu : Due l s Dd (p.m ++ q.m) H u)
    (k : ∀ s' M' q' qs' hs' y15 H', Core K T bs L0 l p q s' s' M' (q' :: qs') (s' :: hs') H' → Ch (s' :: hs') → Val l s' → s'.1.length ≤ s.1.length + 1 → hs'.length ≤ hs.length + 1 →
      rest E [v0, v1, v2, v3, some (.ref p.x), some (.ref q.x), some (.ref M'), v7, v8, v9, some (.str Dd.word), v11, v12, some (.ref d), some (.ref u), y15] H') :
    (tSeq (tAsg (tCall (sp__law_refused K P w mg base) [] E0 (tCons (tLamb T qL prL boL scL) (tCons (tVar 4) (tCons (tVar 13) (tCons (tC (.int 0)) tNil))))) (gName 15))
      (tSeq (tIfS (tTest (tOp (rNeD K) (tVar 15) (tIf (tB (tCB (rIsi K) (tCons (tVar 14) (tCons (tC (.ty "list")) tNil)))) (tVar 14) (tLst tNil)))) (tRet (tC (.bl false))) tNext)
      (Evl.tCut (tIfS (tTest (tOp (rEqD K) (tVar 15) (tLst tNil))) (tSeq (tAsg (tIf (tTest (tOp rEq (tVar 10) (tC (.str (Str.ofString "back"))))) (tSl (rSlL K) (tVar 6) tNoPart (tPart (tUn (rU fun i => .int (-i)) (tC (.int 1))))) (tOp rCat (tVar 6) (tLst (tCons (tVar 14) tNil)))) (gName 6))
      (tDrop (tCall (sp__law_do K) [] E0 (tCons (tVar 5) (tCons (tVar 13) tNil))))) tNext) rest)))
      E [v0, v1, v2, v3, some (.ref p.x), some (.ref q.x), some (.ref M), v7, v8, v9, some (.str Dd.word), v11, v12, some (.ref d), some (.ref u), v15] H := by
  refine stg_ref hL (u := u) (Dd := Dd) (s := s) rfl rfl C v hl1 hl2 (by omega) hok hd hu (fun nm kin H1 hst C1 hk hu1 => ?_) (fun s' A B kin H1 hst C1 hd1 hk hu1 hA hB nA nB => ?_)
  · refine ⟨_, rfl, _, rfl, .ref u, .ty "list", _, _, true, rfl, .ty "list", .base (.lst hu1), kit_ty (by decide +kernel), true, rfl, iteT ⟨_, rfl, ?_⟩⟩
    refine neR (step_rf hst) hk hu1 ⟨_, rfl, iteF ?_⟩
    refine ⟨fun σ' H' => ∃ y15, σ' = [v0, v1, v2, v3, some (.ref p.x), some (.ref q.x), some (.ref M), v7, v8, v9, some (.str Dd.word), v11, v12, some (.ref d), some (.ref u), y15] ∧ Core K T bs L0 l p q s s M (q0 :: qs) (s :: hs) H', ?_, ?_⟩
    · refine ⟨_, rfl, Nat.zero_le _, fun m nm => ?_⟩
      refine eqR0 (step_rf hst) ((Ex.new nm) _ _ hk) upd_same ⟨_, rfl, iteF ⟨_, rfl, C1.ex (Ex.new nm)⟩⟩
    · rintro σ' H' ⟨y15, rfl, C'⟩
      exact k s M q0 qs hs y15 H' C' ch v (Nat.le_succ _) (Nat.le_succ _)
  · refine ⟨_, rfl, _, rfl, .ref u, .ty "list", _, _, false, rfl, .ty "list", .base (.tup hu1), kit_ty (by decide +kernel), false, rfl, iteF ⟨Nat.zero_le _, fun m nm => ?_⟩⟩
    have em : Ex H1 (upd H1 m (.lst [])) := Ex.new nm
    have hm : (upd H1 m (.lst [])) m = some (.lst []) := upd_same
    generalize upd H1 m (.lst []) = H2 at em hm ⊢
    refine neII (ns := []) (ms := []) (SqL.of (em _ _ hk)) (SqL.of hm) ⟨_, rfl, iteF ?_⟩
    have C2 := C1.ex em
    have v' : Val l s' := v.step hst
    refine ⟨fun σ' H' => ∃ M' q' qs' hs' y15, σ' = [v0, v1, v2, v3, some (.ref p.x), some (.ref q.x), some (.ref M'), v7, v8, v9, some (.str Dd.word), v11, v12, some (.ref d), some (.ref u), y15] ∧ Core K T bs L0 l p q s' s' M' (q' :: qs') (s' :: hs') H' ∧ Ch (s' :: hs') ∧ s'.1.length ≤ s.1.length + 1 ∧ hs'.length ≤ hs.length + 1, ?_, ?_⟩
    rotate_left
    · rintro σ' H' ⟨M', q', qs', hs', y15, rfl, C', ch', l1, l2⟩
      exact k s' M' q' qs' hs' y15 H' C' ch' v' l1 l2
    refine ⟨_, rfl, Nat.zero_le _, fun m2 nm2 => ?_⟩
    have e2 : Ex H2 (upd H2 m2 (.lst [])) := Ex.new nm2
    have hm2 : (upd H2 m2 (.lst [])) m2 = some (.lst []) := upd_same
    generalize upd H2 m2 (.lst []) = H3 at e2 hm2 ⊢
    have e13 := em.trans e2
    refine eqII (ns := []) (ms := []) (SqL.of (e13 _ _ hk)) (SqL.of hm2) ⟨_, rfl, iteT ?_⟩
    have C3 := C2.ex e2
    have hM := C3.hM
    rw [rev_cons] at hM
    -- the other search, at the new list of states
    have other : ∀ M' q' qs' hs' H4, Core K T bs L0 l p q s' s M' (q' :: qs') (s' :: hs') H4 → Ch (s' :: hs') → s'.1.length ≤ s.1.length + 1 → hs'.length ≤ hs.length + 1 → H4 d = some (.tup [.str Dd.word, Dd.val]) → ∀ y15,
        (tDrop (tCall (sp__law_do K) [] E0 (tCons (tVar 5) (tCons (tVar 13) tNil)))) { E with nx := fun σ' H' => ∃ M' q' qs' hs' y15, σ' = [v0, v1, v2, v3, some (.ref p.x), some (.ref q.x), some (.ref M'), v7, v8, v9, some (.str Dd.word), v11, v12, some (.ref d), some (.ref u), y15] ∧ Core K T bs L0 l p q s' s' M' (q' :: qs') (s' :: hs') H' ∧ Ch (s' :: hs') ∧ s'.1.length ≤ s.1.length + 1 ∧ hs'.length ≤ hs.length + 1 }
          [v0, v1, v2, v3, some (.ref p.x), some (.ref q.x), some (.ref M'), v7, v8, v9, some (.str Dd.word), v11, v12, some (.ref d), some (.ref u), y15] H4 := fun M' q' qs' hs' H4 C4 ch4 l1 l2 hd4 y15 => by
      obtain ⟨us, r4⟩ := C4.ry
      refine ⟨_, rfl, _, rfl, q.x, q.dx, q.S, q.W, q.F, d, l, s, us, Dd, rfl, hok, SqT.of hd4, r4, v, hl1, hl2, by omega, fun nm hn => ?_, fun s2 hs2 H5 us5 kk r5 => ?_⟩
      · rw [hst] at hn
        cases hn
      · rw [hst] at hs2
        cases hs2
        exact ⟨M', q', qs', hs', _, rfl, C4.doY v (by omega) kk ⟨us5, r5⟩, ch4, l1, l2⟩
    refine ⟨_, rfl, rfl, _, rfl, ?_⟩
    by_cases hb : ∃ y, Dd = .back y
    · obtain ⟨y, rfl⟩ := hb
      have e : decide (V.str (Deed.word (.back y)) = V.str (Str.ofString "back")) = true := (by decide +kernel : decide (V.str ("back" : Str) = V.str (Str.ofString "back")) = true)
      rw [e]
      refine iteT ⟨_, rfl, 1, rfl, -1, rfl, M, _, rfl, SqL.of hM, fun M' nM' => ?_⟩
      rw [cut_butlast]
      have e4 : Ex H3 (upd H3 M' (.lst (qs.reverse.map V.ref))) := Ex.new nM'
      have hM4 : (upd H3 M' (.lst (qs.reverse.map V.ref))) M' = some (.lst (qs.reverse.map V.ref)) := upd_same
      generalize upd H3 M' (.lst (qs.reverse.map V.ref)) = H4 at e4 hM4 ⊢
      have C4 := C3.ex e4
      have hs1 : s.1 ≠ [] := fun z => by
        simp only [stepD] at hst
        rw [if_pos z] at hst
        cases hst
      have hs2 : s' = prevS s := by
        simp only [stepD] at hst
        rw [if_neg hs1] at hst
        exact (Sum.inr.inj hst).symm
      cases hs with
      | nil => exact absurd (by rw [ch.low]) hs1
      | cons t r =>
        obtain ⟨c1, c2, c3⟩ := ch.one
        have et : t = s' := by rw [hs2, c2]
        subst et
        cases C4.st with
        | cons g1 g2 g3 n1 n2 tl =>
          cases tl with
          | cons g1' g2' g3' n1' n2' tl' =>
            refine other M' _ _ r H4 ⟨C4.bag, C4.tb, C4.hL, C4.rx, C4.ry, hM4, .cons g1' g2' g3' n1' n2' tl', C4.d1, C4.nL, C3.low _ nM'⟩ c3 ?_ ?_ (e4 _ _ (e13 _ _ hd1)) _
            · rw [hs2]
              exact Nat.le_succ_of_le (prev_len s)
            · show r.length ≤ r.length + 1 + 1
              omega
    · have hnb : ∀ y, Dd ≠ .back y := fun y z => hb ⟨y, z⟩
      have e : decide (V.str Dd.word = V.str (Str.ofString "back")) = false := by
        cases Dd with
        | back y => exact absurd rfl (hnb y)
        | stand y => exact (by decide +kernel : decide (V.str ("stand" : Str) = V.str (Str.ofString "back")) = false)
        | answer o => exact (by decide +kernel : decide (V.str ("answer" : Str) = V.str (Str.ofString "back")) = false)
      rw [e]
      refine iteF ⟨_, rfl, _, rfl, by show 1 ≤ sizeLine; decide, fun m3 nm3 => ?_⟩
      have e3 : Ex H3 (upd H3 m3 (.lst [.ref u])) := Ex.new nm3
      have hm3 : (upd H3 m3 (.lst [.ref u])) m3 = some (.lst [.ref u]) := upd_same
      generalize upd H3 m3 (.lst [.ref u]) = H4 at e3 hm3 ⊢
      have hlen := C3.st.len
      refine ⟨M, m3, _, _, rfl, rfl, e3 _ _ C3.hM, hm3, ?_, fun M' nM' => ?_⟩
      · rw [List.length_map, List.length_reverse, hlen]
        exact Nat.le_of_lt (small1000 (by show hs.length + 1 + 1 ≤ 1000; omega))
      have e5 : Ex H4 (upd H4 M' (.lst ((q0 :: qs).reverse.map V.ref ++ [.ref u]))) := Ex.new nM'
      have hM5 : (upd H4 M' (.lst ((q0 :: qs).reverse.map V.ref ++ [.ref u]))) M' = some (.lst ((u :: q0 :: qs).reverse.map V.ref)) := by
        rw [upd_same, rev_cons u]
      have nlow := (C3.ex e3).low _ nM'
      generalize upd H4 M' (.lst ((q0 :: qs).reverse.map V.ref ++ [.ref u])) = H5 at e5 hM5 ⊢
      have C5 := (C3.ex e3).ex e5
      have e15 := (e13.trans e3).trans e5
      obtain ⟨p1, p2, p3⟩ := prev_step v hnb hst
      exact other M' u (q0 :: qs) (s :: hs) H5 ⟨C5.bag, C5.tb, C5.hL, C5.rx, C5.ry, hM5, .cons (e15 _ _ hu1) (e15 _ _ hA) (e15 _ _ hB) nA nB C5.st, C5.d1, C5.nL, nlow⟩ (.step p1 p2 ch) p3 (by show hs.length + 1 ≤ hs.length + 1; omega) (e15 _ _ hd1) _
theorem back_do {s : Stt} {Q : VK} {E : XK} (r : SrA K H l p s) (v : Val l s) (hs : s.1 ≠ []) (k : ∀ H', Kp p.m H H' → SrA K H' l p (prevS s) → Q .non H') : sp_Search_back K [.ref p.x] H Q E := by
  obtain ⟨us, r⟩ := r
  refine ⟨p.x, p.dx, p.S, p.W, p.F, l, s.1, s.2, us, pref l s, rfl, r, fun z => absurd z hs, fun _ hc H' k' r' => ?_, fun _ hc => ?_⟩
  · have hc' : waitsB s = true ∨ s.1.length = 1 := hc.imp_left fun z => decide_eq_true z
    have ep : prevS s = (s.1.dropLast, s.2) := by
      unfold prevS
      rw [if_pos hc']
    refine k H' (k'.sub fun a ha => ?_) ⟨us, ?_⟩
    · rw [List.mem_singleton.mp ha]
      exact List.mem_cons_self
    · rw [ep, pref_back_stand v hc']
      exact r'
  · have hc' : ¬ (waitsB s = true ∨ s.1.length = 1) := fun z => hc (z.imp_left fun z => of_decide_eq_true z)
    have hpos : 0 < s.1.length := List.length_pos_iff.mpr hs
    have hws : s.2 ≠ [] := fun z => by
      have z0 : s.2.length = 0 := by rw [z]; rfl
      rcases v.sh with ⟨z1, _⟩ | z1 | z1
      · exact hs z1
      · exact hc (.inr (by omega))
      · exact hc (.inl (by omega))
    have ep : prevS s = (s.1, s.2.dropLast) := by
      unfold prevS
      rw [if_neg hc']
    refine ⟨hws, fun z => ?_, fun H' k' r' => ?_⟩
    · have := pref_len l s
      rw [z] at this
      simp at this
    · refine k H' (k'.sub fun a ha => List.mem_cons_of_mem _ ha) ⟨us.dropLast, ?_⟩
      rw [ep, pref_back_answer hws]
      exact r'
theorem seq_asg {t : TE} {g : TG} {u : TS} {D : Ends} {σ : L2.St} {H : Hp} (h : t σ H fun v H1 => g v σ H1 fun σ' H' => u D σ' H') : tSeq (tAsg t g) u D σ H := h
theorem seq_par {i j : Nat} {t : TA} {u : TS} {D : Ends} {σ : L2.St} {H : Hp} (h : t σ H fun vs H1 => ∃ v w, vs = [v, w] ∧ u D ((σ.set i (some v)).set j (some w)) H1) : tSeq (tPar i j t) u D σ H := h
theorem neII_same {K : PySem.W.Frag} {H : Hp} {a b : Addr} {ns : List Int} {Q : VK} (h1 : SqL K H a (ns.map V.int)) (h2 : SqL K H b (ns.map V.int)) (q : Q (.bl false) H) : rNeD K (.ref a) (.ref b) H Q := neII h1 h2 (by rw [decide_eq_true rfl]; exact q)
theorem neWW_same {K : PySem.W.Frag} {H : Hp} {a b : Addr} {ns : List Wo} {Q : VK} (h1 : SqL K H a (ns.map vW)) (h2 : SqL K H b (ns.map vW)) (q : Q (.bl false) H) : rNeD K (.ref a) (.ref b) H Q := neWW h1 h2 (by rw [decide_eq_true rfl]; exact q)
theorem neTT_same {K : PySem.W.Frag} {H : Hp} {a b : Addr} {ns : List Int} {Q : VK} (h1 : SqT K H a (ns.map V.int)) (h2 : SqT K H b (ns.map V.int)) (q : Q (.bl false) H) : rNeD K (.ref a) (.ref b) H Q := neTT h1 h2 (by rw [decide_eq_true rfl]; exact q)
theorem Core.top {q0 : Addr} {s : Stt} (C : Core K T bs L0 l p q sx sy M (q0 :: qs) (s :: hs) H) : ∃ A B, H q0 = some (.tup [.ref A, .ref B]) ∧ H A = some (.lst (s.1.map V.int)) ∧ H B = some (.lst (s.2.map vW)) := by
  cases C.st with
  | cons g1 g2 g3 n1 n2 t => exact ⟨_, _, g1, g2, g3⟩
theorem made_none {C dx x : Addr} {c : Addr} (h : (upd (upd H dx (.own x)) x (.ins C dx [])) c = none) : H c = none := by
  have n1 : c ≠ x := fun z => by
    rw [z, upd_same] at h
    cases h
  rw [upd_ne n1] at h
  have n2 : c ≠ dx := fun z => by
    rw [z, upd_same] at h
    cases h
  rw [upd_ne n2] at h
  exact h
theorem made_ex {C dx x : Addr} {H9 : Hp} (nx : H x = none) (ndx : H dx = none) (k9 : Kp [x] (upd (upd H dx (.own x)) x (.ins C dx [])) H9) : Ex H H9 := fun c oc hc => by
  have n1 : c ≠ x := ne_of_none hc nx
  have n2 : c ≠ dx := ne_of_none hc ndx
  refine k9 c oc (fun z => n1 (List.mem_singleton.mp z)) ?_
  rw [upd_ne n1, upd_ne n2]
  exact hc
theorem pref0 (l : Int) : pref l ([], []) = [rng 1 (l + 1)] := by
  show [lies l [] []] = _
  have e : (rng 1 (l + 1)).filter (fun t => decide (wordsOf t [] = [])) = rng 1 (l + 1) := List.filter_eq_self.mpr fun t _ => decide_eq_true rfl
  unfold lies
  rw [e]
theorem sh2 (st : List Int) (ws : List Wo) : SeqAt.shaped (.tuple [.list (st.map PyData.int), .list (ws.map fun x => PyData.str x.str)]) = true := by
  obtain ⟨h1, h2⟩ := shI st
  obtain ⟨h3, h4⟩ := shW ws
  unfold SeqAt.shaped
  have e1 : PyData.canLay0 (.tuple [.list (st.map PyData.int), .list (ws.map fun x => PyData.str x.str)]) = true := by
    show (PyData.canLayAll0 (st.map PyData.int) && (PyData.canLayAll0 (ws.map fun x => PyData.str x.str) && true)) = true
    rw [h1, h3]
    rfl
  have e2 : PyData.depth (.tuple [.list (st.map PyData.int), .list (ws.map fun x => PyData.str x.str)]) = 2 := by
    show max (PyData.depthAll (st.map PyData.int) + 1) (max (PyData.depthAll (ws.map fun x => PyData.str x.str) + 1) 0) + 1 = 2
    rw [h2, h4]
    rfl
  rw [e1, e2]
  rfl
theorem eqSt {K : PySem.W.Frag} {H : Hp} {u v A B A' B' : Addr} {s s' : Stt} {Q : VK} (h1 : H u = some (.tup [.ref A, .ref B])) (h2 : H A = some (.lst (s.1.map V.int))) (h3 : H B = some (.lst (s.2.map vW))) (g1 : H v = some (.tup [.ref A', .ref B'])) (g2 : H A' = some (.lst (s'.1.map V.int))) (g3 : H B' = some (.lst (s'.2.map vW)))
    (q : Q (.bl (decide (s.1 = s'.1 ∧ s.2 = s'.2))) H) : rEqD K (.ref u) (.ref v) H Q := by
  refine ⟨_, _, .tup (SqT.of h1) (.cons (.lst (SqL.of h2) (dpI s.1)) (.cons (.lst (SqL.of h3) (dpW s.2)) .nil)), .tup (SqT.of g1) (.cons (.lst (SqL.of g2) (dpI s'.1)) (.cons (.lst (SqL.of g3) (dpW s'.2)) .nil)), sh2 _ _, sh2 _ _, ?_⟩
  have e : PyData.eqv (.tuple [.list (s.1.map PyData.int), .list (s.2.map fun x => PyData.str x.str)]) (.tuple [.list (s'.1.map PyData.int), .list (s'.2.map fun x => PyData.str x.str)]) = decide (s.1 = s'.1 ∧ s.2 = s'.2) := by
    show (PyData.eqvAll (s.1.map PyData.int) (s'.1.map PyData.int) && (PyData.eqvAll (s.2.map fun x => PyData.str x.str) (s'.2.map fun x => PyData.str x.str) && true)) = _
    rw [eqvI, eqvW, Bool.and_true]
    by_cases z1 : s.1 = s'.1 <;> by_cases z2 : s.2 = s'.2 <;> simp [z1, z2]
  rw [e]
  exact q
theorem pure_law (S : SrF K) (hLam : LamOk P w K mg base qL prL boL scL) {vs : List V} {H : Hp} {Q : VK} {E : XK} (h : sp_law K T vs H Q E) : t_law K P w mg base T qL prL boL scL { nx := fun _ H' => Q .non H', rt := Q } (start N_law vs) H := by
  obtain ⟨a, ns, rfl, hS, hlen, hT, qQ⟩ := h
  refine ⟨_, rfl, a, ns, 6, rfl, hS, by decide, by decide, fun L0 H1 bs nL e1 hL hB nb => ?_⟩
  refine ⟨L0, rfl, ⟨_, SqL.of hL⟩, ?_⟩
  refine for_list (K := K) (a := L0) (xs := bs.map V.ref) (fun i σ H' => ∃ x1 x2 x3 x4 x5 x6 x7 x8 x9 x10 x11 x12 x13 x14 x15 : Option V, σ = [some (.ref a), x1, x2, x3, x4, x5, x6, x7, x8, x9, x10, x11, x12, x13, x14, x15] ∧ H' L0 = some (.lst (bs.map V.ref)) ∧ Bags bs H' ∧ Tabs T H')
    ⟨none, none, none, none, none, none, none, none, none, none, none, none, none, none, none, rfl, hL, hB, hT.ext e1⟩ (fun i σ H' _ ⟨_, _, _, _, _, _, _, _, _, _, _, _, _, _, _, _, k, _⟩ => SqL.of k) ?_ ?_
  · rintro i x σ H2 hx ⟨x1, x2, x3, x4, x5, x6, x7, x8, x9, x10, x11, x12, x13, x14, x15, rfl, hL2, B2, T2⟩
    obtain ⟨b, hb, rfl⟩ := ref_at hx
    refine ⟨_, rfl, bs, b, 20, rfl, hb, B2, by decide, fun l0 H3 hl0 hl1 k3 B3 => ⟨1, l0, rfl, rfl, ?_⟩⟩
    have hl1' : 1 ≤ 1 + l0 := by omega
    have hl2' : 1 + l0 ≤ 20 := by omega
    have T3 := tabs_kp T2 k3 (bag_lst B2)
    have hL3 := k3 _ _ (bags_list B2 hL2) hL2
    dsimp only
    generalize 1 + l0 = l at hl1' hl2' ⊢
    refine ⟨_, rfl, _, rfl, bs, b, l, rfl, hb, B3, by omega, fun h0 H4 _ _ k4 B4 => ⟨1, h0, rfl, rfl, ?_⟩⟩
    have T4 := tabs_kp T3 k4 (bag_lst B3)
    have hL4 := k4 _ _ (bags_list B3 hL3) hL3
    dsimp only
    generalize 1 + h0 = hid
    -- the searches
    refine ⟨_, rfl, fun x dx nx ndx ndxx => ⟨x, dx, l, rfl, upd_same, by omega, by omega, fun H5 S1 W1 F1 u1 k5 nS nW nF r5 => ⟨rfl, ?_⟩⟩⟩
    have e5 := made_ex nx ndx k5
    have nS := made_none nS
    have nW := made_none nW
    have nF := made_none nF
    refine ⟨_, rfl, fun y dy ny ndy ndyy => ⟨y, dy, l, rfl, upd_same, by omega, by omega, fun H6 S2 W2 F2 u2 k6 nS2 nW2 nF2 r6 => ⟨rfl, ?_⟩⟩⟩
    have e6 := made_ex ny ndy k6
    have nS2 := made_none nS2
    have nW2 := made_none nW2
    have nF2 := made_none nF2
    refine ⟨Nat.zero_le _, fun A0 nA0 => ⟨Nat.zero_le _, fun B0 nB0 => ⟨by show 2 ≤ sizeLine; decide, fun q0 nq0 => ⟨by show 1 ≤ sizeLine; decide, fun M0 nM0 => ⟨_, _, _, rfl, ?_⟩⟩⟩⟩⟩
    have C0 : Core K T bs L0 l ⟨x, dx, S1, W1, F1⟩ ⟨y, dy, S2, W2, F2⟩ ([], []) ([], []) M0 [q0] [([], [])] (upd (upd (upd (upd H6 A0 (.lst [])) B0 (.lst [])) q0 (.tup [.ref A0, .ref B0])) M0 (.lst [.ref q0])) := by
      have f1 : Ex H6 (upd H6 A0 (.lst [])) := Ex.new nA0
      have f2 : Ex (upd H6 A0 (.lst [])) (upd (upd H6 A0 (.lst [])) B0 (.lst [])) := Ex.new nB0
      have f3 : Ex (upd (upd H6 A0 (.lst [])) B0 (.lst [])) (upd (upd (upd H6 A0 (.lst [])) B0 (.lst [])) q0 (.tup [.ref A0, .ref B0])) := Ex.new nq0
      have f4 : Ex (upd (upd (upd H6 A0 (.lst [])) B0 (.lst [])) q0 (.tup [.ref A0, .ref B0])) (upd (upd (upd (upd H6 A0 (.lst [])) B0 (.lst [])) q0 (.tup [.ref A0, .ref B0])) M0 (.lst [.ref q0])) := Ex.new nM0
      have fA := ((f1.trans f2).trans f3).trans f4
      have r5' := r5.ex e6
      have mem : ∀ a o, H6 a = some o → ∀ c, H6 c = none → c ≠ a := fun a o ho c hc z => by
        rw [z, ho] at hc
        cases hc
      have bad : ∀ c, H6 c = none → c ∉ At.m ⟨x, dx, S1, W1, F1⟩ ++ At.m ⟨y, dy, S2, W2, F2⟩ := fun c hc z => by
        simp only [At.m, List.cons_append, List.nil_append, List.mem_cons, List.not_mem_nil, or_false] at z
        rcases z with z | z | z | z | z | z
        · exact mem _ _ r5'.hS c hc z
        · exact mem _ _ r5'.hW c hc z
        · exact mem _ _ r5'.hF c hc z
        · exact mem _ _ r6.hS c hc z
        · exact mem _ _ r6.hW c hc z
        · exact mem _ _ r6.hF c hc z
      have nB6 : H6 B0 = none := fresh_back f1 nB0
      have nM6 : H6 M0 = none := fresh_back ((f1.trans f2).trans f3) nM0
      refine ⟨B4.ex ((e5.trans e6).trans fA), T4.ext ((e5.trans e6).trans fA), ((e5.trans e6).trans fA) _ _ hL4, ⟨[u1], ?_⟩, ⟨[u2], ?_⟩, upd_same, ?_, ?_, ?_, bad _ nM6⟩
      · rw [pref0]
        exact r5'.ex fA
      · rw [pref0]
        exact r6.ex fA
      · exact .cons (f4 _ _ upd_same) ((f3.trans f4) _ _ (f2 _ _ upd_same)) ((f3.trans f4) _ _ upd_same) (bad _ nA0) (bad _ nB6) .nil
      · intro c hc z
        have hcs : ∃ o, H5 c = some o := by
          simp only [At.m, List.mem_cons, List.not_mem_nil, or_false] at hc
          rcases hc with rfl | rfl | rfl
          · exact ⟨_, r5.hS⟩
          · exact ⟨_, r5.hW⟩
          · exact ⟨_, r5.hF⟩
        obtain ⟨o, ho⟩ := hcs
        simp only [At.m, List.mem_cons, List.not_mem_nil, or_false] at z
        rcases z with rfl | rfl | rfl
        · rw [ho] at nS2
          cases nS2
        · rw [ho] at nW2
          cases nW2
        · rw [ho] at nF2
          cases nF2
      · intro z
        have hL5 := e5 _ _ hL4
        simp only [At.m, List.cons_append, List.nil_append, List.mem_cons, List.not_mem_nil, or_false] at z
        rcases z with rfl | rfl | rfl | rfl | rfl | rfl
        · rw [hL4] at nS
          cases nS
        · rw [hL4] at nW
          cases nW
        · rw [hL4] at nF
          cases nF
        · rw [hL5] at nS2
          cases nS2
        · rw [hL5] at nW2
          cases nW2
        · rw [hL5] at nF2
          cases nF2
    generalize (upd (upd (upd (upd H6 A0 (.lst [])) B0 (.lst [])) q0 (.tup [.ref A0, .ref B0])) M0 (.lst [.ref q0])) = H7 at C0 ⊢
    generalize hp : (⟨x, dx, S1, W1, F1⟩ : At) = p at C0
    generalize hq : (⟨y, dy, S2, W2, F2⟩ : At) = q at C0
    have hpx : x = p.x := by rw [← hp]
    have hqx : y = q.x := by rw [← hq]
    subst hpx hqx
    -- the deeds
    refine ⟨_, rfl, bs, b, 41, rfl, hb, C0.bag, by decide, fun n0 H8 hn0 hn1 k8 B8 => ⟨n0, rfl, by omega, by omega, ?_⟩⟩
    have C8 := C0.take k8 B8
    refine for_range (lo := 0) (n := n0.toNat) (fun i σ H' => ∃ (s : Stt) (M q0 : Addr) (qs : List Addr) (hs : List Stt) (y7 y8 y9 y10 y11 y12 y13 y14 y15 : Option V), σ = [some (.ref a), some (.ref b), some (.int l), some (.int hid), some (.ref p.x), some (.ref q.x), some (.ref M), y7, y8, y9, y10, y11, y12, y13, y14, y15] ∧ Core K T bs L0 l p q s s M (q0 :: qs) (s :: hs) H' ∧ Ch (s :: hs) ∧ Val l s ∧ s.1.length ≤ i ∧ hs.length ≤ i)
      ⟨([], []), M0, q0, [], [], _, _, _, _, _, _, _, _, _, rfl, C8, .base, ⟨fun n hn => by (cases hn), .inl ⟨rfl, rfl⟩⟩, Nat.le_refl _, Nat.le_refl _⟩ ?_ ?_
    · rintro i σ H9 hi ⟨s, M, q0, qs, hs, y7, y8, y9, y10, y11, y12, y13, y14, y15, rfl, C, ch, v, hsl, hnl⟩
      have hi41 : i < 41 := by omega
      obtain ⟨A, B, g1, g2, g3⟩ := C.top
      have hM := C.hM
      rw [rev_cons] at hM
      refine ⟨_, rfl, 1, rfl, M, _, -1, .ref q0, rfl, rfl, SqL.of hM, atI_last _ _, q0, _, rfl, SqT.of g1, rfl, _, _, rfl, _, [], rfl, rfl, ?_⟩
      refine seq_asg (stg_word rfl hb C fun wd H10 hwd k10 C10 => ?_)
      refine seq_asg (stg_thing rfl rfl hl1' hb C10 fun th vs H11 k11 C11 hth hvl hsm => ?_)
      have kAB := k10.trans k11
      have hA11 := kAB _ _ (bag_not C.bag g2 (ints_no _)) g2 (fun _ z => by cases z)
      have hB11 := kAB _ _ (bag_not C.bag g3 (words_no _)) g3 (fun _ z => by cases z)
      refine ⟨fun σ' H' => ∃ th vs z12, σ' = [some (.ref a), some (.ref b), some (.int l), some (.int hid), some (.ref p.x), some (.ref q.x), some (.ref M), some (.int (0 + (i : Int))), some (.ref A), some (.ref B), some (.str wd), some (.ref th), z12, y13, y14, y15] ∧ Core K T bs L0 l p q s s M (q0 :: qs) (s :: hs) H' ∧ H' th = some (.lst vs) ∧ vs.length = 11 ∧ ∀ v ∈ vs, DeedOf wd v, ?_, ?_⟩
      · refine ⟨_, rfl, rfl, _, rfl, ?_⟩
        rcases hwd with rfl | rfl | rfl
        · have e : decide (V.str ("stand" : Str) = V.str (Str.ofString "answer")) = false := by decide +kernel
          rw [e]
          exact iteF ⟨th, vs, _, rfl, C11, hth, hvl, fun v hv => ⟨.stand v, hsm v hv, rfl, rfl⟩⟩
        · have e : decide (V.str ("answer" : Str) = V.str (Str.ofString "answer")) = true := by decide +kernel
          rw [e]
          refine iteT (seq_asg (stg_true (l := l) rfl rfl rfl hA11 hB11 v (by omega) fun w H12 e12 => ?_))
          exact stg_words (w := w) rfl fun th' vs' H13 e13 h13 hl13 hd13 => ⟨th', vs', _, rfl, (C11.ex e12).ex e13, h13, hl13, hd13⟩
        · have e : decide (V.str ("back" : Str) = V.str (Str.ofString "answer")) = false := by decide +kernel
          rw [e]
          exact iteF ⟨th, vs, _, rfl, C11, hth, hvl, fun v hv => ⟨.back v, trivial, rfl, rfl⟩⟩
      rintro σ' H12 ⟨th, vs, z12, rfl, C12, hth, hvl, hdv⟩
      refine seq_par (stg_deed rfl rfl rfl hb C12 hth hvl hdv fun d due Dd H13 C13 hok hw hd hdue => ⟨_, _, rfl, ?_⟩)
      subst hw
      refine ⟨fun σ' H' => ∃ u, σ' = [some (.ref a), some (.ref b), some (.int l), some (.int hid), some (.ref p.x), some (.ref q.x), some (.ref M), some (.int (0 + (i : Int))), some (.ref A), some (.ref B), some (.str Dd.word), some (.ref th), z12, some (.ref d), some (.ref u), y15] ∧ Core K T bs L0 l p q s s M (q0 :: qs) (s :: hs) H' ∧ H' d = some (.tup [.str Dd.word, Dd.val]) ∧ Due l s Dd (p.m ++ q.m) H' u, ?_, ?_⟩
      · exact stg_due C13 ch v hl1' (by omega) (by omega) hok hd hdue fun u H' C' hd' hu => ⟨u, rfl, C', hd', hu⟩
      rintro σ' H14 ⟨u, rfl, C14, hd14, hu14⟩
      refine stg_all hLam C14 ch v hl1' (by omega) (by omega) (by omega) hok hd14 hu14 fun s' M' q' qs' hs' z15 H15 C15 ch' v' l1 l2 => ?_
      -- what is told
      obtain ⟨A', B', f1, f2, f3⟩ := C15.top
      have hM' := C15.hM
      rw [rev_cons] at hM'
      obtain ⟨us, r⟩ := C15.rx
      refine ⟨_, rfl, 1, rfl, M', _, -1, .ref q', rfl, rfl, SqL.of hM', atI_last _ _, q', _, rfl, SqT.of f1, rfl, _, _, rfl, _, [], rfl, rfl, ?_⟩
      refine ⟨_, rfl, p.x, p.dx, _, rfl, r.ins, rfl, p.x, p.dx, p.S, p.W, p.F, l, s'.1, s'.2, us, _, rfl, r, fun g H16 ng e16 hg => ⟨_, rfl, ?_⟩⟩
      refine neII_same (SqL.of hg) (SqL.of (e16 _ _ f2)) ⟨_, rfl, iteF ?_⟩
      have r16 := r.ex e16
      refine ⟨_, rfl, p.x, p.dx, _, rfl, r16.ins, rfl, p.x, p.dx, p.S, p.W, p.F, l, s'.1, s'.2, us, _, rfl, r16, fun g2 H17 ng2 e17 hg2 => ⟨_, rfl, ?_⟩⟩
      refine neWW_same (SqL.of hg2) (SqL.of (e17 _ _ (e16 _ _ f3))) ⟨_, rfl, iteF ?_⟩
      have e157 := e16.trans e17
      have r17 := r.ex e157
      refine ⟨_, rfl, p.x, p.dx, _, rfl, r17.ins, p.x, p.dx, p.S, p.W, p.F, l, s'.1, s'.2, us, _, rfl, r17, _, rfl, by omega, by omega, ?_⟩
      refine ⟨_, rfl, A', _, rfl, .inl (SqL.of (e157 _ _ f2)), rfl, _, rfl, ?_⟩
      have en : (!decide (V.int ((s'.1.length : Nat) : Int) = V.int (((s'.1.map V.int).length : Nat) : Int))) = false := by
        rw [List.length_map, decide_eq_true rfl]
        rfl
      rw [en]
      refine iteF ?_
      -- waits
      refine ⟨_, rfl, p.x, p.dx, _, rfl, r17.ins, rfl, p.x, p.dx, p.S, p.W, p.F, l, s'.1, s'.2, us, _, rfl, r17, _, rfl, ?_⟩
      refine ⟨_, rfl, A', _, rfl, .inl (SqL.of (e157 _ _ f2)), _, 1, rfl, rfl, _, rfl, B', _, rfl, .inl (SqL.of (e157 _ _ f3)), _, _, rfl, rfl, _, rfl, rfl, _, rfl, ?_⟩
      have ew : decide ((((s'.2.map vW).length : Nat) : Int) < (((s'.1.map V.int).length : Nat) : Int) - 1) = decide (s'.2.length + 1 < s'.1.length) := by
        rw [List.length_map, List.length_map]
        exact waits_so s'
      rw [ew]
      have en2 : (!decide (V.str (if decide (s'.2.length + 1 < s'.1.length) = true then "True" else "False") = V.str (if decide (s'.2.length + 1 < s'.1.length) = true then "True" else "False"))) = false := by
        rw [decide_eq_true rfl]
        rfl
      rw [en2]
      refine iteF ?_
      -- where it can lie
      obtain ⟨fs, efs, hfl⟩ := pref_last l s'
      have r17f := r17
      rw [efs] at r17f
      refine ⟨_, rfl, p.x, p.dx, _, rfl, r17.ins, rfl, p.x, p.dx, p.S, p.W, p.F, l, s'.1, s'.2, us, fs, _, rfl, r17f, fun pp hpp => ?_⟩
      refine ⟨_, rfl, _, rfl, _, rfl, l, A', B', s'.1, s'.2, rfl, hl1', by omega, SqL.of (e157 _ _ f2), SqL.of (e157 _ _ f3), by omega, fun oo H18 noo e18 hoo => ?_⟩
      refine neTT_same (SqT.of (e18 _ _ hpp)) (SqT.of hoo) ⟨_, rfl, iteF ?_⟩
      have e158 := e157.trans e18
      have r18 := r.ex e158
      -- lists of one's own
      refine ⟨_, rfl, p.x, p.dx, _, rfl, r18.ins, rfl, p.x, p.dx, p.S, p.W, p.F, l, s'.1, s'.2, us, _, rfl, r18, fun c1 H19 nc1 e19 hc1 => ?_⟩
      refine ⟨.inl ⟨rfl, _, SqL.of hc1⟩, c1, _, _, rfl, rfl, hc1, ?_, ?_⟩
      · rw [List.length_map]
        exact small1000 (by omega)
      have e159 : Ex H15 (upd H19 c1 (.lst (s'.1.map V.int ++ [.int 0]))) := e158.trans (e19.mut nc1)
      generalize upd H19 c1 (.lst (s'.1.map V.int ++ [.int 0])) = H20 at e159 ⊢
      have r20 := r.ex e159
      refine ⟨_, rfl, p.x, p.dx, _, rfl, r20.ins, rfl, p.x, p.dx, p.S, p.W, p.F, l, s'.1, s'.2, us, _, rfl, r20, fun c2 H21 nc2 e21 hc2 => ?_⟩
      have hwl : s'.2.length ≤ 100 := by
        rcases v'.sh with ⟨_, z⟩ | z | z
        · rw [z]
          exact Nat.zero_le _
        · omega
        · omega
      refine ⟨.inl ⟨rfl, _, SqL.of hc2⟩, c2, _, _, rfl, rfl, hc2, ?_, ?_⟩
      · rw [List.length_map]
        exact small1000 (by omega)
      have e15E : Ex H15 (upd H21 c2 (.lst (s'.2.map vW ++ [.int 0]))) := e159.trans (e21.mut nc2)
      generalize upd H21 c2 (.lst (s'.2.map vW ++ [.int 0])) = H22 at e15E ⊢
      have r22 := r.ex e15E
      have C22 := C15.ex e15E
      obtain ⟨us2, r22y⟩ := C22.ry
      -- == of the two, and of a list
      refine ⟨_, rfl, _, rfl, p.x, p.dx, _, q.x, rfl, rfl, r22.ins, .inl ⟨_, _, r22y.ins⟩, p.x, p.dx, p.S, p.W, p.F, l, s'.1, s'.2, us, _, q.x, rfl, r22, .inr ⟨q.dx, q.S, q.W, q.F, l, s'.1, s'.2, us2, _, r22y, ?_⟩⟩
      have ee : decide (l = l ∧ s'.1 = s'.1 ∧ s'.2 = s'.2) = true := decide_eq_true ⟨rfl, rfl, rfl⟩
      rw [ee]
      refine ⟨true, rfl, iteF ?_⟩
      refine ⟨_, rfl, _, rfl, p.x, p.dx, _, A', rfl, rfl, r22.ins, .inr ⟨_, e15E _ _ f2⟩, p.x, p.dx, p.S, p.W, p.F, l, s'.1, s'.2, us, _, A', rfl, r22, .inl ⟨_, e15E _ _ f2, ?_⟩⟩
      refine ⟨false, rfl, iteF ?_⟩
      exact ⟨s', M', q', qs', hs', _, _, _, _, _, _, _, _, _, rfl, C22, ch', v', by omega, by omega⟩
    · rintro σ H9 ⟨s, M, q0, qs, hs, y7, y8, y9, y10, y11, y12, y13, y14, y15, rfl, C, ch, v, hsl, hnl⟩
      -- all taken back
      have hlen := C.st.len
      have hqs : qs.length = hs.length := by simpa using hlen
      have hM := C.hM
      refine ⟨_, rfl, M, _, rfl, .inl (SqL.of hM), _, 1, rfl, rfl, _, rfl, ?_, ?_, ?_⟩
      · rw [List.length_map, List.length_reverse]
        show _ ≤ ((qs.length + 1 : Nat) : Int) - 1
        omega
      · rw [List.length_map, List.length_reverse]
        show ((qs.length + 1 : Nat) : Int) - 1 < _
        omega
      have en : ((((q0 :: qs).reverse.map V.ref).length : Nat) : Int) - 1 = (hs.length : Int) := by
        rw [List.length_map, List.length_reverse]
        show ((qs.length + 1 : Nat) : Int) - 1 = _
        omega
      rw [en, Int.toNat_natCast]
      refine for_range (lo := 0) (n := hs.length) (fun j σ H' => ∃ (s0 : Stt) (r0 : List Stt) (z7 : Option V), σ = [some (.ref a), some (.ref b), some (.int l), some (.int hid), some (.ref p.x), some (.ref q.x), some (.ref M), z7, y8, y9, y10, y11, y12, y13, y14, y15] ∧ Core K T bs L0 l p q s0 s M (q0 :: qs) (s :: hs) H' ∧ Ch (s0 :: r0) ∧ Val l s0 ∧ s0.1.length ≤ 90 ∧ r0.length + j = hs.length)
        ⟨s, hs, _, rfl, C, ch, v, by omega, rfl⟩ ?_ ?_
      · rintro j σ H10 hj ⟨s0, r0, z7, rfl, C10, ch0, v0, hs0, hr0⟩
        obtain ⟨us, r⟩ := C10.rx
        cases r0 with
        | nil =>
          have : (0 : Nat) + j = hs.length := hr0
          omega
        | cons t r1 =>
          obtain ⟨c1, c2, c3⟩ := ch0.one
          refine ⟨_, rfl, p.x, p.dx, _, rfl, r.ins, rfl, ?_⟩
          have hbk : ∀ Q : VK, (∀ H', Kp p.m H10 H' → SrA K H' l p (prevS s0) → Q .non H') → sp_Search_back K [.ref p.x] H10 Q E0 := fun Q k => back_do C10.rx v0 c1 k
          dsimp only [tNil, List.append_nil]
          refine hbk _ fun H11 k11 r11 => ?_
          rw [c2] at r11
          have hv := v0.prev c1
          rw [c2] at hv
          have hl := prev_len s0
          rw [c2] at hl
          exact ⟨t, r1, _, rfl, C10.doX v0 (by omega) k11 r11, c3, hv, by omega, by have : r1.length + 1 + j = hs.length := hr0; omega⟩
      · rintro σ H10 ⟨s0, r0, z7, rfl, C10, ch0, v0, hs0, hr0⟩
        have hr00 : r0 = [] := List.length_eq_zero_iff.mp (by omega)
        subst hr00
        have h0 := ch0.low
        subst h0
        obtain ⟨us, r⟩ := C10.rx
        obtain ⟨us2, ry⟩ := C10.ry
        refine ⟨_, rfl, _, rfl, fun z dz nz ndz ndzz => ⟨z, dz, l, rfl, upd_same, by omega, by omega, fun H11 S3 W3 F3 u3 k11 nS3 nW3 nF3 r3 => ⟨rfl, ?_⟩⟩⟩
        have e11 := made_ex nz ndz k11
        have r11 := r.ex e11
        have C11 := C10.ex e11
        have ry11 := ry.ex e11
        refine ⟨p.x, p.dx, _, z, rfl, rfl, r11.ins, .inl ⟨_, _, r3.ins⟩, p.x, p.dx, p.S, p.W, p.F, l, [], [], us, _, z, rfl, r11, .inr ⟨dz, S3, W3, F3, l, [], [], _, _, r3, ?_⟩⟩
        have ee : decide (l = l ∧ ([] : List Int) = [] ∧ ([] : List Wo) = []) = true := decide_eq_true ⟨rfl, rfl, rfl⟩
        rw [ee]
        refine ⟨true, rfl, iteF ?_⟩
        refine ⟨_, rfl, _, rfl, p.x, p.dx, _, q.x, rfl, rfl, r11.ins, .inl ⟨_, _, ry11.ins⟩, p.x, p.dx, p.S, p.W, p.F, l, [], [], us, _, q.x, rfl, r11, .inr ⟨q.dx, q.S, q.W, q.F, l, s.1, s.2, us2, _, ry11, ?_⟩⟩
        obtain ⟨A, B, g1, g2, g3⟩ := C11.top
        have hM11 := C11.hM
        rw [rev_cons] at hM11
        refine ⟨_, rfl, 1, rfl, M, _, -1, .ref q0, rfl, rfl, SqL.of hM11, atI_last _ _, Nat.zero_le _, fun A0 nA0 => ⟨Nat.zero_le _, fun B0 nB0 => ⟨by show 2 ≤ sizeLine; decide, fun t0 nt0 => ?_⟩⟩⟩
        have f1 : Ex H11 (upd H11 A0 (.lst [])) := Ex.new nA0
        have f2 : Ex (upd H11 A0 (.lst [])) (upd (upd H11 A0 (.lst [])) B0 (.lst [])) := Ex.new nB0
        have f3 : Ex (upd (upd H11 A0 (.lst [])) B0 (.lst [])) (upd (upd (upd H11 A0 (.lst [])) B0 (.lst [])) t0 (.tup [.ref A0, .ref B0])) := Ex.new nt0
        have fA := (f1.trans f2).trans f3
        refine eqSt (s' := ([], [])) (fA _ _ g1) (fA _ _ g2) (fA _ _ g3) upd_same ((f2.trans f3) _ _ upd_same) (f3 _ _ upd_same) ⟨rfl, _, rfl, ?_⟩
        have ef : (!decide (V.bl (decide (l = l ∧ ([] : List Int) = s.1 ∧ ([] : List Wo) = s.2)) = V.bl (decide (s.1 = [] ∧ s.2 = [])))) = false := by
          have e1 : decide (l = l ∧ ([] : List Int) = s.1 ∧ ([] : List Wo) = s.2) = decide (s.1 = [] ∧ s.2 = []) := decide_eq_decide.mpr ⟨fun ⟨_, z1, z2⟩ => ⟨z1.symm, z2.symm⟩, fun ⟨z1, z2⟩ => ⟨rfl, z1.symm, z2.symm⟩⟩
          rw [e1, decide_eq_true rfl]
          rfl
        rw [ef]
        have C12 := C11.ex fA
        exact iteF ⟨_, _, _, _, _, _, _, _, _, _, _, _, _, _, _, rfl, C12.hL, C12.bag, C12.tb⟩
  · rintro σ H' ⟨x1, x2, x3, x4, x5, x6, x7, x8, x9, x10, x11, x12, x13, x14, x15, rfl, hL2, B2, T2⟩
    refine fun x dx nx ndx ndxx => ⟨x, dx, 3, rfl, upd_same, by decide, by decide, fun H5 S1 W1 F1 u1 k5 nS nW nF r5 => ⟨rfl, ?_⟩⟩
    refine fun y dy ny ndy ndyy => ⟨y, dy, 4, rfl, upd_same, by decide, by decide, fun H6 S2 W2 F2 u2 k6 nS2 nW2 nF2 r6 => ⟨rfl, ?_⟩⟩
    have e6 := made_ex ny ndy k6
    have r56 := r5.ex e6
    refine ⟨x, dx, _, y, rfl, rfl, r56.ins, .inl ⟨_, _, r6.ins⟩, x, dx, S1, W1, F1, 3, [], [], _, _, y, rfl, r56, .inr ⟨dy, S2, W2, F2, 4, [], [], _, _, r6, ?_⟩⟩
    exact ⟨false, rfl, qQ H6⟩
theorem len_law {vs : List V} {H : Hp} {Q : VK} {E : XK} (h : sp_law K T vs H Q E) : vs.length = 1 := by
  obtain ⟨a, ns, rfl, _⟩ := h
  rfl
end
def topS (i : Nat) : Stmt := PySem.Challenge.pw_warmcold_k13_whole_a_search_deed_by_deed.main.body.getD i (.Pass ⟨0, 0, 0, 0⟩)
def clsS (i j : Nat) : Stmt := match topS i with
  | .ClassDef _ _ _ b _ _ _ _ _ _ _ => b.getD j (.Pass ⟨0, 0, 0, 0⟩)
  | _ => .Pass ⟨0, 0, 0, 0⟩
abbrev s_is_whole : Stmt := topS 15
theorem sc_is_whole : FnScope N_is_whole ["value"] (defScope s_is_whole) := ⟨rfl, rfl, rfl, by decide +kernel, rfl, by decide +kernel, by decide +kernel⟩
abbrev s_is_place : Stmt := topS 16
theorem sc_is_place : FnScope N_is_place ["value", "length"] (defScope s_is_place) := ⟨rfl, rfl, rfl, by decide +kernel, rfl, by decide +kernel, by decide +kernel⟩
abbrev s_is_word : Stmt := topS 17
theorem sc_is_word : FnScope N_is_word ["value"] (defScope s_is_word) := ⟨rfl, rfl, rfl, by decide +kernel, rfl, by decide +kernel, by decide +kernel⟩
abbrev s_check_length : Stmt := topS 18
theorem sc_check_length : FnScope N_check_length ["length"] (defScope s_check_length) := ⟨rfl, rfl, rfl, by decide +kernel, rfl, by decide +kernel, by decide +kernel⟩
abbrev s_check_place : Stmt := topS 19
theorem sc_check_place : FnScope N_check_place ["place", "length"] (defScope s_check_place) := ⟨rfl, rfl, rfl, by decide +kernel, rfl, by decide +kernel, by decide +kernel⟩
abbrev s_check_answer : Stmt := topS 20
theorem sc_check_answer : FnScope N_check_answer ["word"] (defScope s_check_answer) := ⟨rfl, rfl, rfl, by decide +kernel, rfl, by decide +kernel, by decide +kernel⟩
abbrev s_word_for : Stmt := topS 22
theorem sc_word_for : FnScope N_word_for ["before", "after"] (defScope s_word_for) := ⟨rfl, rfl, rfl, by decide +kernel, rfl, by decide +kernel, by decide +kernel⟩
abbrev s_answer_to_move : Stmt := topS 23
theorem sc_answer_to_move : FnScope N_answer_to_move ["thing", "earlier", "later"] (defScope s_answer_to_move) := ⟨rfl, rfl, rfl, by decide +kernel, rfl, by decide +kernel, by decide +kernel⟩
abbrev s_Search___init__ : Stmt := clsS 25 0
theorem sc_Search___init__ : FnScope N_Search___init__ ["self", "length"] (defScope s_Search___init__) := ⟨rfl, rfl, rfl, by decide +kernel, rfl, by decide +kernel, by decide +kernel⟩
abbrev s_Search_stand : Stmt := clsS 25 1
theorem sc_Search_stand : FnScope N_Search_stand ["self", "place"] (defScope s_Search_stand) := ⟨rfl, rfl, rfl, by decide +kernel, rfl, by decide +kernel, by decide +kernel⟩
abbrev s_Search_answer : Stmt := clsS 25 2
theorem sc_Search_answer : FnScope N_Search_answer ["self", "word"] (defScope s_Search_answer) := ⟨rfl, rfl, rfl, by decide +kernel, rfl, by decide +kernel, by decide +kernel⟩
abbrev s_Search_back : Stmt := clsS 25 3
theorem sc_Search_back : FnScope N_Search_back ["self"] (defScope s_Search_back) := ⟨rfl, rfl, rfl, by decide +kernel, rfl, by decide +kernel, by decide +kernel⟩
abbrev s_Search_stands : Stmt := clsS 25 4
theorem sc_Search_stands : FnScope N_Search_stands ["self"] (defScope s_Search_stands) := ⟨rfl, rfl, rfl, by decide +kernel, rfl, by decide +kernel, by decide +kernel⟩
abbrev s_Search_answers : Stmt := clsS 25 5
theorem sc_Search_answers : FnScope N_Search_answers ["self"] (defScope s_Search_answers) := ⟨rfl, rfl, rfl, by decide +kernel, rfl, by decide +kernel, by decide +kernel⟩
abbrev s_Search_can_lie : Stmt := clsS 25 6
theorem sc_Search_can_lie : FnScope N_Search_can_lie ["self"] (defScope s_Search_can_lie) := ⟨rfl, rfl, rfl, by decide +kernel, rfl, by decide +kernel, by decide +kernel⟩
abbrev s_Search_waits : Stmt := clsS 25 7
theorem sc_Search_waits : FnScope N_Search_waits ["self"] (defScope s_Search_waits) := ⟨rfl, rfl, rfl, by decide +kernel, rfl, by decide +kernel, by decide +kernel⟩
abbrev s_Search___len__ : Stmt := clsS 25 8
theorem sc_Search___len__ : FnScope N_Search___len__ ["self"] (defScope s_Search___len__) := ⟨rfl, rfl, rfl, by decide +kernel, rfl, by decide +kernel, by decide +kernel⟩
abbrev s_Search___eq__ : Stmt := clsS 25 9
theorem sc_Search___eq__ : FnScope N_Search___eq__ ["self", "other"] (defScope s_Search___eq__) := ⟨rfl, rfl, rfl, by decide +kernel, rfl, by decide +kernel, by decide +kernel⟩
abbrev s__law_cell_at : Stmt := topS 27
theorem sc__law_cell_at : FnScope N__law_cell_at ["script", "k"] (defScope s__law_cell_at) := ⟨rfl, rfl, rfl, by decide +kernel, rfl, by decide +kernel, by decide +kernel⟩
abbrev s__law_draws : Stmt := topS 28
theorem sc__law_draws : FnScope N__law_draws ["cell", "many", "size"] (defScope s__law_draws) := ⟨rfl, rfl, rfl, by decide +kernel, rfl, by decide +kernel, by decide +kernel⟩
abbrev s__law_from : Stmt := topS 29
theorem sc__law_from : FnScope N__law_from ["thing", "least", "top"] (defScope s__law_from) := ⟨rfl, rfl, rfl, by decide +kernel, rfl, by decide +kernel, by decide +kernel⟩
abbrev s__law_bag : Stmt := topS 30
theorem sc__law_bag : FnScope N__law_bag ["script", "k"] (defScope s__law_bag) := ⟨rfl, rfl, rfl, by decide +kernel, rfl, by decide +kernel, by decide +kernel⟩
abbrev s__law_bags : Stmt := topS 31
theorem sc__law_bags : FnScope N__law_bags ["script", "limit"] (defScope s__law_bags) := ⟨rfl, rfl, rfl, by decide +kernel, rfl, by decide +kernel, by decide +kernel⟩
abbrev s__law_take : Stmt := topS 32
theorem sc__law_take : FnScope N__law_take ["bag", "many"] (defScope s__law_take) := ⟨rfl, rfl, rfl, by decide +kernel, rfl, by decide +kernel, by decide +kernel⟩
abbrev s__law_word : Stmt := topS 33
theorem sc__law_word : FnScope N__law_word ["far", "near"] (defScope s__law_word) := ⟨rfl, rfl, rfl, by decide +kernel, rfl, by decide +kernel, by decide +kernel⟩
abbrev s__law_words : Stmt := topS 34
theorem sc__law_words : FnScope N__law_words ["thing", "stands"] (defScope s__law_words) := ⟨rfl, rfl, rfl, by decide +kernel, rfl, by decide +kernel, by decide +kernel⟩
abbrev s__law_refused : Stmt := topS 35
theorem sc__law_refused : FnScope N__law_refused ["call", "one", "two", "three"] (defScope s__law_refused) := ⟨rfl, rfl, rfl, by decide +kernel, rfl, by decide +kernel, by decide +kernel⟩
abbrev s__law_open : Stmt := topS 36
theorem sc__law_open : FnScope N__law_open ["length", "stands", "words"] (defScope s__law_open) := ⟨rfl, rfl, rfl, by decide +kernel, rfl, by decide +kernel, by decide +kernel⟩
abbrev s__law_after : Stmt := topS 37
theorem sc__law_after : FnScope N__law_after ["length", "state", "deed"] (defScope s__law_after) := ⟨rfl, rfl, rfl, by decide +kernel, rfl, by decide +kernel, by decide +kernel⟩
abbrev s__law_do : Stmt := topS 38
theorem sc__law_do : FnScope N__law_do ["search", "deed"] (defScope s__law_do) := ⟨rfl, rfl, rfl, by decide +kernel, rfl, by decide +kernel, by decide +kernel⟩
abbrev s_law : Stmt := topS 39
theorem sc_law : FnScope N_law ["script"] (defScope s_law) := ⟨rfl, rfl, rfl, by decide +kernel, rfl, by decide +kernel, by decide +kernel⟩
structure Wd (K : PySem.W.Frag) (mg : Str → Option Value) : Prop where
  T : SrF K
  TX : SrX K
  EF : ExF K
  z_ValueError : mg "ValueError" = none
  z_abs : mg "abs" = none
  z_bool : mg "bool" = none
  z_int : mg "int" = none
  z_isinstance : mg "isinstance" = none
  z_len : mg "len" = none
  z_list : mg "list" = none
  z_max : mg "max" = none
  z_min : mg "min" = none
  z_range : mg "range" = none
  z_repr : mg "repr" = none
  z_str : mg "str" = none
  z_tuple : mg "tuple" = none
  g_Never : mg "Never" = some (.ref (He.ga K "Never"))
  g_NoAnswer : mg "NoAnswer" = some (.ref (He.ga K "NoAnswer"))
  g_NoAnswers : mg "NoAnswers" = some (.ref (He.ga K "NoAnswers"))
  g_NoLength : mg "NoLength" = some (.ref (He.ga K "NoLength"))
  g_NoPlace : mg "NoPlace" = some (.ref (He.ga K "NoPlace"))
  g_NoStands : mg "NoStands" = some (.ref (He.ga K "NoStands"))
  g_NoStretch : mg "NoStretch" = some (.ref (He.ga K "NoStretch"))
  g_NotNow : mg "NotNow" = some (.ref (He.ga K "NotNow"))
  g_NothingLeft : mg "NothingLeft" = some (.ref (He.ga K "NothingLeft"))
  g_Search : mg "Search" = some (.ref (He.ga K "Search"))
  g_SeekError : mg "SeekError" = some (.ref (He.ga K "SeekError"))
  g_TooLong : mg "TooLong" = some (.ref (He.ga K "TooLong"))
  x_Never : ExK K mg "Never"
  x_NoAnswer : ExK K mg "NoAnswer"
  x_NoPlace : ExK K mg "NoPlace"
  x_NotNow : ExK K mg "NotNow"
  x_NothingLeft : ExK K mg "NothingLeft"
  c_LONGEST_PATH : ∃ t, mg "LONGEST_PATH" = some (.int 60 t)
  c_WORDS : mg "WORDS" = some (.ref (He.ga K "WORDS"))
  q_WORDS : ∀ H, SqT K H (He.ga K "WORDS") [.str "warm", .str "cold", .str "same"]
def forB : Stmt → List Stmt
  | .For _ _ b _ _ => b
  | _ => []
def asgV : Stmt → Expr
  | .Assign _ v _ => v
  | _ => .Constant .none 0 ⟨0, 0, 0, 0⟩
def arg0 : Expr → Expr
  | .Call _ (e :: _) _ _ => e
  | e => e
def lamA : Expr → Arguments
  | .Lambda a _ _ _ => a
  | _ => defArgs s_law
def lamB : Expr → Expr
  | .Lambda _ b _ _ => b
  | e => e
def lamS : Expr → Scope
  | .Lambda _ _ s _ => s
  | _ => defScope s_law
def nthS (l : List Stmt) (i : Nat) : Stmt := l.getD i (.Pass ⟨0, 0, 0, 0⟩)
abbrev lamE : Expr := arg0 (asgV (nthS (forB (nthS (forB (nthS (defBody s_law) 0)) 3)) 6))
abbrev qLam : Str := ("law" : Str) ++ ".<locals>." ++ "<lambda>"
section
variable {P : Program} {w : World} {K : PySem.W.Frag} {mg : Str → Option Value} {base : Heap}
theorem ok_is_whole {f : Addr} {fd : FuncData} (F : FunD K "is_whole" "is_whole" (defArgs s_is_whole) (defBody s_is_whole) (defScope s_is_whole) [] [] f fd) (W : Wd K mg)  : FnOk P w K mg base (L2N.CX P w) 1 f fd ["value"] (sp_is_whole K) := by
  refine F.ok sc_is_whole (fun vs H Q E h => len_is_whole h) (fun cdv A outer s H vs Q E hr h => ⟨t_is_whole K, PSs.nox ?_, pure_is_whole h⟩)
  exact (pss_one (ps_ret (pe_and (pe_callB call_isi (by rfl) W.z_isinstance bb_isinstance (pa_cons (pv 0) (pa_cons (pe_bltn (v := .ty "int") (by rfl) W.z_int bt_int rfl) pa_nil))) (pe_one (pe_not (pe_callB call_isi (by rfl) W.z_isinstance bb_isinstance (pa_cons (pv 0) (pa_cons (pe_bltn (v := .ty "bool") (by rfl) W.z_bool bt_bool rfl) pa_nil))))))))
theorem ok_is_place {f : Addr} {fd : FuncData} (F : FunD K "is_place" "is_place" (defArgs s_is_place) (defBody s_is_place) (defScope s_is_place) [] [] f fd) (W : Wd K mg) (O_is_whole : OwnC P w K mg base (L2N.CX P w) 1 "is_whole" ["value"] (sp_is_whole K)) : FnOk P w K mg base (L2N.CX P w) 2 f fd ["value", "length"] (sp_is_place K) := by
  refine F.ok sc_is_place (fun vs H Q E h => len_is_place h) (fun cdv A outer s H vs Q E hr h => ⟨t_is_place K, PSs.nox ?_, pure_is_place h⟩)
  exact (pss_one (ps_ret (pe_and (pe_callC O_is_whole hr (by first | decide | omega) (by rfl) passN0 (pa_cons (pv 0) pa_nil)) (pe_one (pe_chain op_le op_le pe_int (pv 0) (pv 1))))))
theorem ok_is_word {f : Addr} {fd : FuncData} (F : FunD K "is_word" "is_word" (defArgs s_is_word) (defBody s_is_word) (defScope s_is_word) [] [] f fd) (W : Wd K mg)  : FnOk P w K mg base (L2N.CX P w) 1 f fd ["value"] (sp_is_word K) := by
  refine F.ok sc_is_word (fun vs H Q E h => len_is_word h) (fun cdv A outer s H vs Q E hr h => ⟨t_is_word K, PSs.nox ?_, pure_is_word W.q_WORDS h⟩)
  exact (pss_one (ps_ret (pe_and (pe_callB call_isi (by rfl) W.z_isinstance bb_isinstance (pa_cons (pv 0) (pa_cons (pe_bltn (v := .ty "str") (by rfl) W.z_str bt_str rfl) pa_nil))) (pe_one (pe_cmpR op_in_seq (pv 0) (pe_glob (by rfl) W.c_WORDS rfl) rfl)))))
theorem ok_check_length {f : Addr} {fd : FuncData} (F : FunD K "check_length" "check_length" (defArgs s_check_length) (defBody s_check_length) (defScope s_check_length) [] [] f fd) (W : Wd K mg) (O_is_place : OwnC P w K mg base (L2N.CX P w) 2 "is_place" ["value", "length"] (sp_is_place K)) : FnOk P w K mg base (L2N.CX P w) 3 f fd ["length"] (sp_check_length K) := by
  refine F.ok sc_check_length (fun vs H Q E h => len_check_length h) (fun cdv A outer s H vs Q E hr h => ⟨t_check_length K, PSs.nox ?_, pure_check_length h⟩)
  exact (pss_one (ps_if (pt_not (pt_val (pe_callC O_is_place hr (by first | decide | omega) (by rfl) passN0 (pa_cons (pv 0) (pa_cons (pe_glob (by rfl) W.c_LONGEST_PATH.choose_spec ⟨_, rfl⟩) pa_nil))))) (pss_one ps_never) pss_nil))
theorem ok_check_place {f : Addr} {fd : FuncData} (F : FunD K "check_place" "check_place" (defArgs s_check_place) (defBody s_check_place) (defScope s_check_place) [] [] f fd) (W : Wd K mg) (O_is_place : OwnC P w K mg base (L2N.CX P w) 2 "is_place" ["value", "length"] (sp_is_place K)) : FnOk P w K mg base (L2N.CX P w) 3 f fd ["place", "length"] (sp_check_place K) := by
  refine F.ok sc_check_place (fun vs H Q E h => len_check_place h) (fun cdv A outer s H vs Q E hr h => ⟨t_check_place K E, ?_, pure_check_place h⟩)
  exact (pss_one (ps_if (pt_not (pt_val (pe_callC O_is_place hr (by first | decide | omega) (by rfl) passN0 (pa_cons (pv 0) (pa_cons (pv 1) pa_nil))))) (pss_one (ps_rz W.x_NoPlace rfl (L2N.takes_of rfl rfl rfl rfl) (by rfl) (pe_joined (.cons pe_str (.cons (pe_fmt (pv 1)) .nil))))) pss_nil))
theorem ok_check_answer {f : Addr} {fd : FuncData} (F : FunD K "check_answer" "check_answer" (defArgs s_check_answer) (defBody s_check_answer) (defScope s_check_answer) [] [] f fd) (W : Wd K mg) (O_is_word : OwnC P w K mg base (L2N.CX P w) 1 "is_word" ["value"] (sp_is_word K)) : FnOk P w K mg base (L2N.CX P w) 2 f fd ["word"] (sp_check_answer K) := by
  refine F.ok sc_check_answer (fun vs H Q E h => len_check_answer h) (fun cdv A outer s H vs Q E hr h => ⟨t_check_answer K E, ?_, pure_check_answer h⟩)
  exact (pss_one (ps_if (pt_not (pt_val (pe_callC O_is_word hr (by first | decide | omega) (by rfl) passN0 (pa_cons (pv 0) pa_nil)))) (pss_one (ps_rz W.x_NoAnswer rfl (L2N.takes_of rfl rfl rfl rfl) (by rfl) pe_str)) pss_nil))
theorem ok_word_for {f : Addr} {fd : FuncData} (F : FunD K "word_for" "word_for" (defArgs s_word_for) (defBody s_word_for) (defScope s_word_for) [] [] f fd) (W : Wd K mg)  : FnOk P w K mg base (L2N.CX P w) 1 f fd ["before", "after"] (sp_word_for K) := by
  refine F.ok sc_word_for (fun vs H Q E h => len_word_for h) (fun cdv A outer s H vs Q E hr h => ⟨t_word_for K, PSs.nox ?_, pure_word_for h⟩)
  exact (pss_cons (ps_if (pt_cmpR op_lt (pv 1) (pv 0) (nomark _)) (pss_one (ps_ret pe_str)) pss_nil)   (pss_cons (ps_if (pt_cmpR op_gt (pv 1) (pv 0) (nomark _)) (pss_one (ps_ret pe_str)) pss_nil)   (pss_one (ps_ret pe_str))))
theorem ok_answer_to_move {f : Addr} {fd : FuncData} (F : FunD K "answer_to_move" "answer_to_move" (defArgs s_answer_to_move) (defBody s_answer_to_move) (defScope s_answer_to_move) [] [] f fd) (W : Wd K mg) (O_word_for : OwnC P w K mg base (L2N.CX P w) 1 "word_for" ["before", "after"] (sp_word_for K)) : FnOk P w K mg base (L2N.CX P w) 2 f fd ["thing", "earlier", "later"] (sp_answer_to_move K) := by
  refine F.ok sc_answer_to_move (fun vs H Q E h => len_answer_to_move h) (fun cdv A outer s H vs Q E hr h => ⟨t_answer_to_move K, PSs.nox ?_, pure_answer_to_move h⟩)
  exact (pss_one (ps_ret (pe_callC O_word_for hr (by first | decide | omega) (by rfl) passN0 (pa_cons (pe_callB call_abs (by rfl) W.z_abs bb_abs (pa_cons (pe_op op_sub (pv 0) (pv 1)) pa_nil)) (pa_cons (pe_callB call_abs (by rfl) W.z_abs bb_abs (pa_cons (pe_op op_sub (pv 0) (pv 2)) pa_nil)) pa_nil)))))
theorem ok_Search___init__ {f : Addr} {fd : FuncData} (F : FunD K "__init__" "Search.__init__" (defArgs s_Search___init__) (defBody s_Search___init__) (defScope s_Search___init__) [] [] f fd) (W : Wd K mg) (O_check_length : OwnC P w K mg base (L2N.CX P w) 3 "check_length" ["length"] (sp_check_length K)) : FnOk P w K mg base (L2N.CX P w) 4 f fd ["self", "length"] (sp_Search___init__ K) := by
  refine F.ok sc_Search___init__ (fun vs H Q E h => len_Search___init__ h) (fun cdv A outer s H vs Q E hr h => ⟨t_Search___init__ K, PSs.nox ?_, pure_Search___init__ W.T h⟩)
  exact (pss_cons (ps_expr (pe_callC O_check_length hr (by first | decide | omega) (by rfl) passN0 (pa_cons (pv 1) pa_nil)))   (pss_cons (ps_fld (pv 0) (pv 1) (by rfl))   (pss_cons (ps_fld (pv 0) (pe_lst pa_nil) (by rfl))   (pss_cons (ps_fld (pv 0) (pe_lst pa_nil) (by rfl))   (pss_one (ps_fld (pv 0) (pe_lst (pa_cons (pe_tupRg (by rfl) (by rfl) W.z_tuple (prg_2 (by rfl) W.z_range pe_int (pe_op op_add (pv 1) pe_int))) pa_nil)) (by rfl)))))))
theorem ok_Search_stand {f : Addr} {fd : FuncData} (F : FunD K "stand" "Search.stand" (defArgs s_Search_stand) (defBody s_Search_stand) (defScope s_Search_stand) [] [] f fd) (W : Wd K mg) (O_check_place : OwnC P w K mg base (L2N.CX P w) 3 "check_place" ["place", "length"] (sp_check_place K)) (O_Search_waits : OwnM P w K mg base (L2N.CX P w) 1 (He.ga K "Search") "waits" ["self"] (sp_Search_waits K)) : FnOk P w K mg base (L2N.CX P w) 4 f fd ["self", "place"] (sp_Search_stand K) := by
  refine F.ok sc_Search_stand (fun vs H Q E h => len_Search_stand h) (fun cdv A outer s H vs Q E hr h => ⟨t_Search_stand K E, ?_, pure_Search_stand W.T h⟩)
  exact (pss_cons (ps_expr (pe_callC O_check_place hr (by first | decide | omega) (by rfl) (passNE (L2N.takes_of rfl rfl rfl rfl)) (pa_cons (pv 1) (pa_cons (pe_fld (pv 0) (by rfl)) pa_nil))))   (pss_cons (ps_if (pt_val (pe_methO0 W.T.cl O_Search_waits hr (by first | decide | omega) passN0 (pv 0))) (pss_one (ps_rz W.x_NotNow rfl (L2N.takes_of rfl rfl rfl rfl) (by rfl) pe_str)) pss_nil)   (pss_one (ps_expr (pe_bm PySem.F.plainAttrs_list PySem.F.slot_list_append PySem.F.type_list_append mt_append (pe_fld (pv 0) (by rfl)) (pa_cons (pv 1) pa_nil))))))
theorem ok_Search_answer {f : Addr} {fd : FuncData} (F : FunD K "answer" "Search.answer" (defArgs s_Search_answer) (defBody s_Search_answer) (defScope s_Search_answer) [] [] f fd) (W : Wd K mg) (O_check_answer : OwnC P w K mg base (L2N.CX P w) 2 "check_answer" ["word"] (sp_check_answer K)) (O_Search_waits : OwnM P w K mg base (L2N.CX P w) 1 (He.ga K "Search") "waits" ["self"] (sp_Search_waits K)) (O_answer_to_move : OwnC P w K mg base (L2N.CX P w) 2 "answer_to_move" ["thing", "earlier", "later"] (sp_answer_to_move K)) : FnOk P w K mg base (L2N.CX P w) 3 f fd ["self", "word"] (sp_Search_answer K) := by
  refine F.ok sc_Search_answer (fun vs H Q E h => len_Search_answer h) (fun cdv A outer s H vs Q E hr h => ⟨t_Search_answer K E, ?_, pure_Search_answer W.T h⟩)
  exact (pss_cons (ps_expr (pe_callC O_check_answer hr (by first | decide | omega) (by rfl) (passNE (L2N.takes_of rfl rfl rfl rfl)) (pa_cons (pv 1) pa_nil)))   (pss_cons (ps_if (pt_not (pt_val (pe_methO0 W.T.cl O_Search_waits hr (by first | decide | omega) passN0 (pv 0)))) (pss_one (ps_rz W.x_NotNow rfl (L2N.takes_of rfl rfl rfl rfl) (by rfl) pe_str)) pss_nil)   (pss_cons (ps_asg (pe_slice sl_list (pe_fld (pv 0) (by rfl)) (po_some (pe_un un_neg pe_int)) po_none) (pg_unl rfl (pgs_cons (pg_name (i := 2) sc_Search_answer.nd rfl (Or.inr rfl)) (pgs_cons (pg_name (i := 3) sc_Search_answer.nd rfl (Or.inr rfl)) pgs_nil))))   (pss_cons (ps_setLc (i := 4) (own := [("place", 5)]) (g := (gName 5)) (tt := (tTest (tOp rEq (tCall (sp_answer_to_move K) [] E0 (tCons (tVar 5) (tCons (tVar 2) (tCons (tVar 3) tNil)))) (tVar 1)))) (by rfl) sc_Search_answer.nd rfl rfl (sw_true rfl rfl rfl (by decide +kernel)) (pi_tup (pe_ix ix_list (pe_fld (pv 0) (by rfl)) (pe_un un_neg pe_int) (fun _ _ => rfl))) (blkOk_by (own := [("place", 5)]) (N := N_Search_answer) (sc := defScope s_Search_answer) (by decide +kernel)) (fun _ _ _ _ _ => (pg_name (i := 5) sc_Search_answer.nd rfl (Or.inl rfl))) (fun _ _ _ _ _ => (pts_one (pt_cmpR op_eq (pe_callC O_answer_to_move hr (by first | decide | omega) (by rfl) passN0 (pa_cons (pv 5) (pa_cons (pv 2) (pa_cons (pv 3) pa_nil)))) (pv 1) (nomark _)))) (fun _ _ _ _ _ => (pv 5)))   (pss_cons (ps_if (pt_not (pt_truth (pv 4) (by intro _; rfl))) (pss_one (ps_rz W.x_Never rfl (L2N.takes_of rfl rfl rfl rfl) (by rfl) pe_str)) pss_nil)   (pss_cons (ps_expr (pe_bm PySem.F.plainAttrs_list PySem.F.slot_list_append PySem.F.type_list_append mt_append (pe_fld (pv 0) (by rfl)) (pa_cons (pv 1) pa_nil)))   (pss_one (ps_expr (pe_bm PySem.F.plainAttrs_list PySem.F.slot_list_append PySem.F.type_list_append mt_append (pe_fld (pv 0) (by rfl)) (pa_cons (pe_callTy call_tuple_of (by rfl) W.z_tuple bt_tuple (pa_cons (pv 4) pa_nil)) pa_nil))))))))))
theorem ok_Search_back {f : Addr} {fd : FuncData} (F : FunD K "back" "Search.back" (defArgs s_Search_back) (defBody s_Search_back) (defScope s_Search_back) [] [] f fd) (W : Wd K mg) (O_Search_waits : OwnM P w K mg base (L2N.CX P w) 1 (He.ga K "Search") "waits" ["self"] (sp_Search_waits K)) : FnOk P w K mg base (L2N.CX P w) 2 f fd ["self"] (sp_Search_back K) := by
  refine F.ok sc_Search_back (fun vs H Q E h => len_Search_back h) (fun cdv A outer s H vs Q E hr h => ⟨t_Search_back K E, ?_, pure_Search_back W.T h⟩)
  exact (pss_cons (ps_if (pt_not (pt_truth (pe_fld (pv 0) (by rfl)) (by intro _; rfl))) (pss_one (ps_rz W.x_NothingLeft rfl (L2N.takes_of rfl rfl rfl rfl) (by rfl) pe_str)) pss_nil)   (pss_one (ps_if (PW.pt (pw_or (pt_val (pe_methO0 W.T.cl O_Search_waits hr (by first | decide | omega) passN0 (pv 0))) (pw_or1 (pt_cmpR op_eq (pe_callB call_len_seq (by rfl) W.z_len PySem.boot_len (pa_cons (pe_fld (pv 0) (by rfl)) pa_nil)) pe_int (nomark _))))) (pss_one (ps_expr (pe_bm0 PySem.F.plainAttrs_list PySem.F.slot_list_pop PySem.F.type_list_pop mt_pop (pe_fld (pv 0) (by rfl))))) (pss_cons (ps_expr (pe_bm0 PySem.F.plainAttrs_list PySem.F.slot_list_pop PySem.F.type_list_pop mt_pop (pe_fld (pv 0) (by rfl))))   (pss_one (ps_expr (pe_bm0 PySem.F.plainAttrs_list PySem.F.slot_list_pop PySem.F.type_list_pop mt_pop (pe_fld (pv 0) (by rfl)))))))))
theorem ok_Search_stands {f : Addr} {fd : FuncData} (F : FunD K "stands" "Search.stands" (defArgs s_Search_stands) (defBody s_Search_stands) (defScope s_Search_stands) [] [] f fd) (W : Wd K mg)  : FnOk P w K mg base (L2N.CX P w) 1 f fd ["self"] (sp_Search_stands K) := by
  refine F.ok sc_Search_stands (fun vs H Q E h => len_Search_stands h) (fun cdv A outer s H vs Q E hr h => ⟨t_Search_stands K, PSs.nox ?_, pure_Search_stands W.T h⟩)
  exact (pss_one (ps_ret (pe_callTy call_list_of (by rfl) W.z_list bt_list (pa_cons (pe_fld (pv 0) (by rfl)) pa_nil))))
theorem ok_Search_answers {f : Addr} {fd : FuncData} (F : FunD K "answers" "Search.answers" (defArgs s_Search_answers) (defBody s_Search_answers) (defScope s_Search_answers) [] [] f fd) (W : Wd K mg)  : FnOk P w K mg base (L2N.CX P w) 1 f fd ["self"] (sp_Search_answers K) := by
  refine F.ok sc_Search_answers (fun vs H Q E h => len_Search_answers h) (fun cdv A outer s H vs Q E hr h => ⟨t_Search_answers K, PSs.nox ?_, pure_Search_answers W.T h⟩)
  exact (pss_one (ps_ret (pe_callTy call_list_of (by rfl) W.z_list bt_list (pa_cons (pe_fld (pv 0) (by rfl)) pa_nil))))
theorem ok_Search_can_lie {f : Addr} {fd : FuncData} (F : FunD K "can_lie" "Search.can_lie" (defArgs s_Search_can_lie) (defBody s_Search_can_lie) (defScope s_Search_can_lie) [] [] f fd) (W : Wd K mg)  : FnOk P w K mg base (L2N.CX P w) 1 f fd ["self"] (sp_Search_can_lie K) := by
  refine F.ok sc_Search_can_lie (fun vs H Q E h => len_Search_can_lie h) (fun cdv A outer s H vs Q E hr h => ⟨t_Search_can_lie K, PSs.nox ?_, pure_Search_can_lie W.T h⟩)
  exact (pss_one (ps_ret (pe_ix ix_list (pe_fld (pv 0) (by rfl)) (pe_un un_neg pe_int) (fun _ _ => rfl))))
theorem ok_Search_waits {f : Addr} {fd : FuncData} (F : FunD K "waits" "Search.waits" (defArgs s_Search_waits) (defBody s_Search_waits) (defScope s_Search_waits) [] [] f fd) (W : Wd K mg)  : FnOk P w K mg base (L2N.CX P w) 1 f fd ["self"] (sp_Search_waits K) := by
  refine F.ok sc_Search_waits (fun vs H Q E h => len_Search_waits h) (fun cdv A outer s H vs Q E hr h => ⟨t_Search_waits K, PSs.nox ?_, pure_Search_waits W.T h⟩)
  exact (pss_one (ps_ret (pe_cmpR op_gt (pe_callB call_len_seq (by rfl) W.z_len PySem.boot_len (pa_cons (pe_fld (pv 0) (by rfl)) pa_nil)) (pe_op op_add (pe_callB call_len_seq (by rfl) W.z_len PySem.boot_len (pa_cons (pe_fld (pv 0) (by rfl)) pa_nil)) pe_int) (nomark _))))
theorem ok_Search___len__ {f : Addr} {fd : FuncData} (F : FunD K "__len__" "Search.__len__" (defArgs s_Search___len__) (defBody s_Search___len__) (defScope s_Search___len__) [] [] f fd) (W : Wd K mg)  : FnOk P w K mg base (L2N.CX P w) 1 f fd ["self"] (sp_Search___len__ K) := by
  refine F.ok sc_Search___len__ (fun vs H Q E h => len_Search___len__ h) (fun cdv A outer s H vs Q E hr h => ⟨t_Search___len__ K, PSs.nox ?_, pure_Search___len__ W.T h⟩)
  exact (pss_one (ps_ret (pe_callB call_len_seq (by rfl) W.z_len PySem.boot_len (pa_cons (pe_fld (pv 0) (by rfl)) pa_nil))))
theorem ok_Search___eq__ {f : Addr} {fd : FuncData} (F : FunD K "__eq__" "Search.__eq__" (defArgs s_Search___eq__) (defBody s_Search___eq__) (defScope s_Search___eq__) [] [] f fd) (W : Wd K mg)  : FnOk P w K mg base (L2N.CX P w) 1 f fd ["self", "other"] (sp_Search___eq__ K) := by
  refine F.ok sc_Search___eq__ (fun vs H Q E h => len_Search___eq__ h) (fun cdv A outer s H vs Q E hr h => ⟨t_Search___eq__ K, PSs.nox ?_, pure_Search___eq__ W.T W.TX h⟩)
  exact (pss_one (ps_ret (pe_and (pe_callB call_isi (by rfl) W.z_isinstance bb_isinstance (pa_cons (pv 1) (pa_cons (pe_glob (by rfl) W.g_Search rfl) pa_nil))) (pe_and (pe_cmpR op_eq (pe_fld (pv 0) (by rfl)) (pe_fld (pv 1) (by rfl)) (nomark _)) (pe_and (pe_cmpR (op_eqD hr.units) (pe_fld (pv 0) (by rfl)) (pe_fld (pv 1) (by rfl)) (nomark _)) (pe_one (pe_cmpR (op_eqD hr.units) (pe_fld (pv 0) (by rfl)) (pe_fld (pv 1) (by rfl)) (nomark _))))))))
theorem ok__law_cell_at {f : Addr} {fd : FuncData} (F : FunD K "_law_cell_at" "_law_cell_at" (defArgs s__law_cell_at) (defBody s__law_cell_at) (defScope s__law_cell_at) [] [] f fd) (W : Wd K mg)  : FnOk P w K mg base (L2N.CX P w) 1 f fd ["script", "k"] (sp__law_cell_at K) := by
  refine F.ok sc__law_cell_at (fun vs H Q E h => len__law_cell_at h) (fun cdv A outer s H vs Q E hr h => ⟨t__law_cell_at K, PSs.nox ?_, pure__law_cell_at h⟩)
  exact (pss_cons (ps_if (pt_cmpR op_lt (pv 1) (pe_callB call_len_seq (by rfl) W.z_len PySem.boot_len (pa_cons (pv 0) pa_nil)) (nomark _)) (pss_one (ps_ret (pe_ix ix_list (pv 0) (pv 1) (fun _ _ => rfl)))) pss_nil)   (pss_one (ps_ret pe_int)))
theorem ok__law_draws {f : Addr} {fd : FuncData} (F : FunD K "_law_draws" "_law_draws" (defArgs s__law_draws) (defBody s__law_draws) (defScope s__law_draws) [] [] f fd) (W : Wd K mg)  : FnOk P w K mg base (L2N.CX P w) 1 f fd ["cell", "many", "size"] (sp__law_draws K) := by
  refine F.ok sc__law_draws (fun vs H Q E h => len__law_draws h) (fun cdv A outer s H vs Q E hr h => ⟨t__law_draws K, PSs.nox ?_, pure__law_draws h⟩)
  exact (pss_cons (ps_set (i := 3) sc__law_draws.nd rfl (Or.inl rfl) (pe_lst pa_nil))   (pss_cons (ps_set (i := 4) sc__law_draws.nd rfl (Or.inl rfl) (pe_op op_mul (pv 0) (pe_callTy call_int1 (by rfl) W.z_int bt_int (pa_cons (pe_cmpR op_ge (pv 0) (pe_op op_pow pe_int pe_int) (nomark _)) pa_nil))))   (pss_cons (ps_set (i := 5) sc__law_draws.nd rfl (Or.inl rfl) (pe_op op_mod (pv 0) pe_int))   (pss_cons (ps_for PassesOwn.never rfl (pi_range1 (by rfl) W.z_range (pa_cons (pe_op op_add (pv 1) pe_int) pa_nil)) (pg_name (i := 6) sc__law_draws.nd rfl (Or.inl rfl)) (pss_cons (ps_set (i := 5) sc__law_draws.nd rfl (Or.inl rfl) (pe_op op_mod (pe_op op_add (pe_op op_add (pe_op op_add (pe_op op_mul (pv 5) (pv 5)) (pe_op op_mul pe_int (pv 5))) (pv 6)) pe_int) pe_int))   (pss_one (ps_if (PW.pt (pw_and (pt_cmpR op_gt (pv 6) pe_int (nomark _)) (pw_and1 (pt_cmpR op_gt (pv 4) pe_int (nomark _))))) (pss_cons (ps_expr (pe_bm PySem.F.plainAttrs_list PySem.F.slot_list_append PySem.F.type_list_append mt_append (pv 3) (pa_cons (pe_op op_mod (pv 4) (pv 2)) pa_nil)))   (pss_one (ps_set (i := 4) sc__law_draws.nd rfl (Or.inl rfl) (pe_op op_fdiv (pv 4) (pv 2))))) (pss_one (ps_if (pt_cmpR op_gt (pv 6) pe_int (nomark _)) (pss_one (ps_expr (pe_bm PySem.F.plainAttrs_list PySem.F.slot_list_append PySem.F.type_list_append mt_append (pv 3) (pa_cons (pe_op op_mod (pe_op op_fdiv (pv 5) pe_int) (pv 2)) pa_nil)))) pss_nil))))))   (pss_one (ps_ret (pv 3)))))))
theorem ok__law_from {f : Addr} {fd : FuncData} (F : FunD K "_law_from" "_law_from" (defArgs s__law_from) (defBody s__law_from) (defScope s__law_from) [] [] f fd) (W : Wd K mg)  : FnOk P w K mg base (L2N.CX P w) 1 f fd ["thing", "least", "top"] (sp__law_from K) := by
  refine F.ok sc__law_from (fun vs H Q E h => len__law_from h) (fun cdv A outer s H vs Q E hr h => ⟨t__law_from K, PSs.nox ?_, pure__law_from h⟩)
  exact (pss_one (ps_ret (pe_and (pe_callB call_isi (by rfl) W.z_isinstance bb_isinstance (pa_cons (pv 0) (pa_cons (pe_bltn (v := .ty "int") (by rfl) W.z_int bt_int rfl) pa_nil))) (pe_and (pe_not (pe_callB call_isi (by rfl) W.z_isinstance bb_isinstance (pa_cons (pv 0) (pa_cons (pe_bltn (v := .ty "bool") (by rfl) W.z_bool bt_bool rfl) pa_nil)))) (pe_and (pe_cmpR op_le (pv 1) (pv 0) (nomark _)) (pe_one (pe_cmpR op_le (pv 0) (pv 2) (nomark _))))))))
theorem ok__law_bag {f : Addr} {fd : FuncData} (F : FunD K "_law_bag" "_law_bag" (defArgs s__law_bag) (defBody s__law_bag) (defScope s__law_bag) [] [] f fd) (W : Wd K mg) (O__law_draws : OwnC P w K mg base (L2N.CX P w) 1 "_law_draws" ["cell", "many", "size"] (sp__law_draws K)) (O__law_cell_at : OwnC P w K mg base (L2N.CX P w) 1 "_law_cell_at" ["script", "k"] (sp__law_cell_at K)) : FnOk P w K mg base (L2N.CX P w) 2 f fd ["script", "k"] (sp__law_bag K) := by
  refine F.ok sc__law_bag (fun vs H Q E h => len__law_bag h) (fun cdv A outer s H vs Q E hr h => ⟨t__law_bag K, PSs.nox ?_, pure__law_bag h⟩)
  exact (pss_one (ps_ret (pe_lst (pa_cons (pe_callC O__law_draws hr (by first | decide | omega) (by rfl) passN0 (pa_cons (pe_callC O__law_cell_at hr (by first | decide | omega) (by rfl) passN0 (pa_cons (pv 0) (pa_cons (pv 1) pa_nil))) (pa_cons pe_int (pa_cons pe_int pa_nil)))) (pa_cons pe_int pa_nil)))))
theorem ok__law_bags {f : Addr} {fd : FuncData} (F : FunD K "_law_bags" "_law_bags" (defArgs s__law_bags) (defBody s__law_bags) (defScope s__law_bags) [] [] f fd) (W : Wd K mg) (O__law_bag : OwnC P w K mg base (L2N.CX P w) 2 "_law_bag" ["script", "k"] (sp__law_bag K)) : FnOk P w K mg base (L2N.CX P w) 3 f fd ["script", "limit"] (sp__law_bags K) := by
  refine F.ok sc__law_bags (fun vs H Q E h => len__law_bags h) (fun cdv A outer s H vs Q E hr h => ⟨t__law_bags K, PSs.nox ?_, pure__law_bags h⟩)
  exact (pss_one (ps_ret (pe_lc (own := [("k", 2)]) (g := (gName 2)) (tt := tYes) (by rfl) sc__law_bags.nd (pi_range1 (by rfl) W.z_range (pa_cons (pe_callB (call_max2 rfl) (by rfl) W.z_max bb_max (pa_cons pe_int (pa_cons (pe_callB (call_min2 rfl) (by rfl) W.z_min bb_min (pa_cons (pv 1) (pa_cons (pe_callB call_len_seq (by rfl) W.z_len PySem.boot_len (pa_cons (pv 0) pa_nil)) pa_nil))) pa_nil))) pa_nil)) (blkOk_by (own := [("k", 2)]) (N := N__law_bags) (sc := defScope s__law_bags) (by decide +kernel)) (fun _ _ _ _ _ => (pg_name (i := 2) sc__law_bags.nd rfl (Or.inl rfl))) (fun _ _ _ _ _ => pts_nil) (fun _ _ _ _ _ => (pe_callC O__law_bag hr (by first | decide | omega) (by rfl) passN0 (pa_cons (pv 0) (pa_cons (pv 2) pa_nil)))))))
theorem ok__law_take {f : Addr} {fd : FuncData} (F : FunD K "_law_take" "_law_take" (defArgs s__law_take) (defBody s__law_take) (defScope s__law_take) [] [] f fd) (W : Wd K mg)  : FnOk P w K mg base (L2N.CX P w) 1 f fd ["bag", "many"] (sp__law_take K) := by
  refine F.ok sc__law_take (fun vs H Q E h => len__law_take h) (fun cdv A outer s H vs Q E hr h => ⟨t__law_take K, PSs.nox ?_, pure__law_take h⟩)
  exact (pss_cons (ps_asg (pe_op op_add (pe_ix ix_list (pv 0) pe_int (fun _ _ => rfl)) pe_int) (pg_sub (pv 0) pe_int set_list))   (pss_one (ps_ret (pe_op op_mod (pe_ix ix_list (pe_ix ix_list (pv 0) pe_int (fun _ _ => rfl)) (pe_op op_mod (pe_ix ix_list (pv 0) pe_int (fun _ _ => rfl)) (pe_callB call_len_seq (by rfl) W.z_len PySem.boot_len (pa_cons (pe_ix ix_list (pv 0) pe_int (fun _ _ => rfl)) pa_nil))) (fun _ _ => rfl)) (pv 1)))))
theorem ok__law_word {f : Addr} {fd : FuncData} (F : FunD K "_law_word" "_law_word" (defArgs s__law_word) (defBody s__law_word) (defScope s__law_word) [] [] f fd) (W : Wd K mg)  : FnOk P w K mg base (L2N.CX P w) 1 f fd ["far", "near"] (sp__law_word K) := by
  refine F.ok sc__law_word (fun vs H Q E h => len__law_word h) (fun cdv A outer s H vs Q E hr h => ⟨t__law_word K, PSs.nox ?_, pure__law_word h⟩)
  exact (pss_cons (ps_if (pt_cmpR op_lt (pv 1) (pv 0) (nomark _)) (pss_one (ps_ret pe_str)) pss_nil)   (pss_one (ps_ret (pe_ifExp (pt_cmpR op_gt (pv 1) (pv 0) (nomark _)) pe_str pe_str))))
theorem ok__law_words {f : Addr} {fd : FuncData} (F : FunD K "_law_words" "_law_words" (defArgs s__law_words) (defBody s__law_words) (defScope s__law_words) [] [] f fd) (W : Wd K mg) (O__law_word : OwnC P w K mg base (L2N.CX P w) 1 "_law_word" ["far", "near"] (sp__law_word K)) : FnOk P w K mg base (L2N.CX P w) 2 f fd ["thing", "stands"] (sp__law_words K) := by
  refine F.ok sc__law_words (fun vs H Q E h => len__law_words h) (fun cdv A outer s H vs Q E hr h => ⟨t__law_words K, PSs.nox ?_, pure__law_words h⟩)
  exact (pss_cons (ps_set (i := 2) sc__law_words.nd rfl (Or.inl rfl) (pe_lst pa_nil))   (pss_cons (ps_for PassesOwn.never rfl (pi_range2 (by rfl) W.z_range (pa_cons pe_int (pa_cons (pe_callB call_len_seq (by rfl) W.z_len PySem.boot_len (pa_cons (pv 1) pa_nil)) pa_nil))) (pg_name (i := 3) sc__law_words.nd rfl (Or.inl rfl)) (pss_one (ps_expr (pe_bm PySem.F.plainAttrs_list PySem.F.slot_list_append PySem.F.type_list_append mt_append (pv 2) (pa_cons (pe_callC O__law_word hr (by first | decide | omega) (by rfl) passN0 (pa_cons (pe_callB call_abs (by rfl) W.z_abs bb_abs (pa_cons (pe_op op_sub (pv 0) (pe_ix ix_list (pv 1) (pe_op op_sub (pv 3) pe_int) (fun _ _ => rfl))) pa_nil)) (pa_cons (pe_callB call_abs (by rfl) W.z_abs bb_abs (pa_cons (pe_op op_sub (pv 0) (pe_ix ix_list (pv 1) (pv 3) (fun _ _ => rfl))) pa_nil)) pa_nil))) pa_nil)))))   (pss_one (ps_ret (pv 2)))))
theorem ok__law_refused {f : Addr} {fd : FuncData} (F : FunD K "_law_refused" "_law_refused" (defArgs s__law_refused) (defBody s__law_refused) (defScope s__law_refused) [] [] f fd) (W : Wd K mg)  : FnOk P w K mg base (L2N.CX P w) 41 f fd ["call", "one", "two", "three"] (sp__law_refused K P w mg base) := by
  refine F.ok sc__law_refused (fun vs H Q E h => len__law_refused h) (fun cdv A outer s H vs Q E hr h => ⟨t__law_refused K P w mg base, PSs.nox ?_, pure__law_refused W.EF h⟩)
  exact (pss_cons (ps_set (i := 4) sc__law_refused.nd rfl (Or.inl rfl) (pe_lst pa_nil))   (pss_cons (ps_try_nam (tb := fun WW => (tDrop (tCallW P w K mg base (L2N.CX P w) 40 0 (fun σ cls d H => WW cls d σ H) (tCons (tVar 1) (tCons (tVar 2) (tCons (tVar 3) tNil)))))) rfl rfl sc__law_refused.nd takesN0 (fun W0 pn xe tk _ => (pss_one (ps_expr (pe_callW (fun σ => L2N.passAt tk σ) hr (by first | decide | omega) rfl (.inl rfl) (pa_cons (pv 1) (pa_cons (pv 2) (pa_cons (pv 3) pa_nil))))))) (.cons ⟨by rfl, by decide, .inl W.g_TooLong⟩ rfl rfl (fun a oe cls d pn hz hf => (pss_one ps_never)) (.cons ⟨by rfl, by decide, .inl W.g_SeekError⟩ rfl rfl (fun a oe cls d pn hz hf => (pss_cons (ps_set (i := 6) sc__law_refused.nd rfl (Or.inl rfl) (pe_lst (pa_cons (pe_tup (pa_cons pe_str (pa_cons (pe_callB (call_isN hz hf) (by rfl) W.z_isinstance bb_isinstance (pa_cons (pv 5) (pa_cons (pe_glob (by rfl) W.g_NoLength rfl) pa_nil))) pa_nil))) (pa_cons (pe_tup (pa_cons pe_str (pa_cons (pe_callB (call_isN hz hf) (by rfl) W.z_isinstance bb_isinstance (pa_cons (pv 5) (pa_cons (pe_glob (by rfl) W.g_NoPlace rfl) pa_nil))) pa_nil))) pa_nil))))   (pss_cons (ps_set (i := 6) sc__law_refused.nd rfl (Or.inl rfl) (pe_op op_cat (pv 6) (pe_lst (pa_cons (pe_tup (pa_cons pe_str (pa_cons (pe_callB (call_isN hz hf) (by rfl) W.z_isinstance bb_isinstance (pa_cons (pv 5) (pa_cons (pe_glob (by rfl) W.g_NotNow rfl) pa_nil))) pa_nil))) pa_nil))))   (pss_cons (ps_set (i := 6) sc__law_refused.nd rfl (Or.inl rfl) (pe_op op_cat (pv 6) (pe_lst (pa_cons (pe_tup (pa_cons pe_str (pa_cons (pe_callB (call_isN hz hf) (by rfl) W.z_isinstance bb_isinstance (pa_cons (pv 5) (pa_cons (pe_glob (by rfl) W.g_NoStands rfl) pa_nil))) pa_nil))) (pa_cons (pe_tup (pa_cons pe_str (pa_cons (pe_callB (call_isN hz hf) (by rfl) W.z_isinstance bb_isinstance (pa_cons (pv 5) (pa_cons (pe_glob (by rfl) W.g_NoAnswers rfl) pa_nil))) pa_nil))) pa_nil)))))   (pss_cons (ps_set (i := 6) sc__law_refused.nd rfl (Or.inl rfl) (pe_op op_cat (pv 6) (pe_lst (pa_cons (pe_tup (pa_cons pe_str (pa_cons (pe_callB (call_isN hz hf) (by rfl) W.z_isinstance bb_isinstance (pa_cons (pv 5) (pa_cons (pe_glob (by rfl) W.g_NoStretch rfl) pa_nil))) pa_nil))) (pa_cons (pe_tup (pa_cons pe_str (pa_cons (pe_callB (call_isN hz hf) (by rfl) W.z_isinstance bb_isinstance (pa_cons (pv 5) (pa_cons (pe_glob (by rfl) W.g_NoAnswer rfl) pa_nil))) pa_nil))) pa_nil)))))   (pss_cons (ps_set (i := 6) sc__law_refused.nd rfl (Or.inl rfl) (pe_op op_cat (pv 6) (pe_lst (pa_cons (pe_tup (pa_cons pe_str (pa_cons (pe_callB (call_isN hz hf) (by rfl) W.z_isinstance bb_isinstance (pa_cons (pv 5) (pa_cons (pe_glob (by rfl) W.g_Never rfl) pa_nil))) pa_nil))) (pa_cons (pe_tup (pa_cons pe_str (pa_cons (pe_callB (call_isN hz hf) (by rfl) W.z_isinstance bb_isinstance (pa_cons (pv 5) (pa_cons (pe_glob (by rfl) W.g_NothingLeft rfl) pa_nil))) pa_nil))) pa_nil)))))   (pss_one (ps_set (i := 4) sc__law_refused.nd rfl (Or.inl rfl) (pe_op op_cat (pe_lcH (own := [("word", 7), ("there", 8)]) (g := (gTup K 2 (gCons (gName 7) (gCons (gName 8) gNil)))) (tt := (tB (tVar 8))) (hot_suite rfl rfl hz hf) sc__law_refused.nd (pv 6) (blkOk_by (own := [("word", 7), ("there", 8)]) (N := N__law_refused) (sc := defScope s__law_refused) (by decide +kernel)) (fun _ _ _ _ _ hot => (pg_tupH hot (pgs_cons (pg_name (i := 7) sc__law_refused.nd rfl (Or.inl rfl)) (pgs_cons (pg_name (i := 8) sc__law_refused.nd rfl (Or.inl rfl)) pgs_nil)))) (fun _ _ _ _ _ => (pts_one (pt_val (pv 8)))) (fun _ _ _ _ _ => (pv 7))) (pe_lst (pa_cons (pe_callB (call_isN hz hf) (by rfl) W.z_isinstance bb_isinstance (pa_cons (pv 5) (pa_cons (pe_bltn (v := .ty "ValueError") (by rfl) W.z_ValueError bt_ValueError rfl) pa_nil))) pa_nil))))))))))) .nil)))   (pss_one (ps_ret (pv 4)))))
theorem ok__law_open {f : Addr} {fd : FuncData} (F : FunD K "_law_open" "_law_open" (defArgs s__law_open) (defBody s__law_open) (defScope s__law_open) [] [] f fd) (W : Wd K mg) (O__law_words : OwnC P w K mg base (L2N.CX P w) 2 "_law_words" ["thing", "stands"] (sp__law_words K)) : FnOk P w K mg base (L2N.CX P w) 3 f fd ["length", "stands", "words"] (sp__law_open K) := by
  refine F.ok sc__law_open (fun vs H Q E h => len__law_open h) (fun cdv A outer s H vs Q E hr h => ⟨t__law_open K, PSs.nox ?_, pure__law_open h⟩)
  exact (pss_cons (ps_set (i := 3) sc__law_open.nd rfl (Or.inl rfl) (pe_lst pa_nil))   (pss_cons (ps_for PassesOwn.never rfl (pi_range2 (by rfl) W.z_range (pa_cons pe_int (pa_cons (pe_op op_add (pv 0) pe_int) pa_nil))) (pg_name (i := 4) sc__law_open.nd rfl (Or.inl rfl)) (pss_one (ps_if (pt_cmpR (op_eqD hr.units) (pe_callC O__law_words hr (by first | decide | omega) (by rfl) passN0 (pa_cons (pv 4) (pa_cons (pe_slice sl_list (pv 1) po_none (po_some (pe_op op_add (pe_callB call_len_seq (by rfl) W.z_len PySem.boot_len (pa_cons (pv 2) pa_nil)) pe_int))) pa_nil))) (pv 2) (nomark _)) (pss_one (ps_expr (pe_bm PySem.F.plainAttrs_list PySem.F.slot_list_append PySem.F.type_list_append mt_append (pv 3) (pa_cons (pv 4) pa_nil)))) pss_nil)))   (pss_one (ps_ret (pe_callTy call_tuple_of (by rfl) W.z_tuple bt_tuple (pa_cons (pv 3) pa_nil))))))
theorem ok__law_after {f : Addr} {fd : FuncData} (F : FunD K "_law_after" "_law_after" (defArgs s__law_after) (defBody s__law_after) (defScope s__law_after) [] [] f fd) (W : Wd K mg) (O__law_from : OwnC P w K mg base (L2N.CX P w) 1 "_law_from" ["thing", "least", "top"] (sp__law_from K)) (O__law_open : OwnC P w K mg base (L2N.CX P w) 3 "_law_open" ["length", "stands", "words"] (sp__law_open K)) : FnOk P w K mg base (L2N.CX P w) 4 f fd ["length", "state", "deed"] (sp__law_after K) := by
  refine F.ok sc__law_after (fun vs H Q E h => len__law_after h) (fun cdv A outer s H vs Q E hr h => ⟨t__law_after K, PSs.nox ?_, pure__law_after h⟩)
  exact (pss_cons (ps_asg (pv 1) (pg_tup rfl (pgs_cons (pg_name (i := 3) sc__law_after.nd rfl (Or.inl rfl)) (pgs_cons (pg_name (i := 4) sc__law_after.nd rfl (Or.inl rfl)) pgs_nil))))   (pss_cons (ps_asg (pv 2) (pg_tup rfl (pgs_cons (pg_name (i := 5) sc__law_after.nd rfl (Or.inl rfl)) (pgs_cons (pg_name (i := 6) sc__law_after.nd rfl (Or.inl rfl)) pgs_nil))))   (pss_cons (ps_set (i := 7) sc__law_after.nd rfl (Or.inl rfl) (pe_cmpR op_gt (pe_op op_sub (pe_callB call_len_seq (by rfl) W.z_len PySem.boot_len (pa_cons (pv 3) pa_nil)) pe_int) (pe_callB call_len_seq (by rfl) W.z_len PySem.boot_len (pa_cons (pv 4) pa_nil)) (nomark _)))   (pss_cons (ps_if (pt_cmpR op_eq (pv 5) pe_str (nomark _)) (pss_cons (ps_if (pt_not (pt_val (pe_callC O__law_from hr (by first | decide | omega) (by rfl) passN0 (pa_cons (pv 6) (pa_cons pe_int (pa_cons (pv 0) pa_nil)))))) (pss_one (ps_ret (pe_lst (pa_cons pe_str (pa_cons pe_bl pa_nil))))) pss_nil)   (pss_one (ps_ret (pe_ifExp (pt_val (pv 7)) (pe_lst (pa_cons pe_str (pa_cons pe_bl pa_nil))) (pe_tup (pa_cons (pe_op op_cat (pv 3) (pe_lst (pa_cons (pv 6) pa_nil))) (pa_cons (pv 4) pa_nil))))))) pss_nil)   (pss_cons (ps_if (PW.pt (pw_or (pt_not (pt_val (pe_callB call_isi (by rfl) W.z_isinstance bb_isinstance (pa_cons (pv 6) (pa_cons (pe_bltn (v := .ty "str") (by rfl) W.z_str bt_str rfl) pa_nil))))) (pw_or1 (pt_cmpR op_notIn_seq (pv 6) (pe_lst (pa_cons pe_str (pa_cons pe_str (pa_cons pe_str pa_nil)))) rfl)))) (pss_one (ps_ret (pe_lst (pa_cons pe_str (pa_cons pe_bl pa_nil))))) pss_nil)   (pss_cons (ps_if (pt_not (pt_val (pv 7))) (pss_one (ps_ret (pe_lst (pa_cons pe_str (pa_cons pe_bl pa_nil))))) pss_nil)   (pss_cons (ps_if (pt_cmpR (op_eqD hr.units) (pe_callC O__law_open hr (by first | decide | omega) (by rfl) passN0 (pa_cons (pv 0) (pa_cons (pv 3) (pa_cons (pe_op op_cat (pv 4) (pe_lst (pa_cons (pv 6) pa_nil))) pa_nil)))) (pe_tup pa_nil) (nomark _)) (pss_one (ps_ret (pe_lst (pa_cons pe_str (pa_cons pe_bl pa_nil))))) pss_nil)   (pss_one (ps_ret (pe_tup (pa_cons (pv 3) (pa_cons (pe_op op_cat (pv 4) (pe_lst (pa_cons (pv 6) pa_nil))) pa_nil))))))))))))
theorem ok__law_do {f : Addr} {fd : FuncData} (F : FunD K "_law_do" "_law_do" (defArgs s__law_do) (defBody s__law_do) (defScope s__law_do) [] [] f fd) (W : Wd K mg) (O_Search_stand : OwnM P w K mg base (L2N.CX P w) 4 (He.ga K "Search") "stand" ["self", "place"] (sp_Search_stand K)) (O_Search_back : OwnM P w K mg base (L2N.CX P w) 2 (He.ga K "Search") "back" ["self"] (sp_Search_back K)) (O_Search_answer : OwnM P w K mg base (L2N.CX P w) 3 (He.ga K "Search") "answer" ["self", "word"] (sp_Search_answer K)) : FnOk P w K mg base (L2N.CX P w) 5 f fd ["search", "deed"] (sp__law_do K) := by
  refine F.ok sc__law_do (fun vs H Q E h => len__law_do h) (fun cdv A outer s H vs Q E hr h => ⟨t__law_do K E, ?_, pure__law_do h⟩)
  exact (pss_cons (ps_if (pt_cmpR (op_eqD hr.units) (pe_ix ix_tup (pv 1) pe_int (fun _ _ => rfl)) pe_str (nomark _)) (pss_one (ps_ret (pe_methO W.T.cl O_Search_stand hr (by first | decide | omega) (passNE (L2N.takes_of rfl rfl rfl rfl)) (pv 0) (pa_cons (pe_ix ix_tup (pv 1) pe_int (fun _ _ => rfl)) pa_nil)))) pss_nil)   (pss_one (ps_ret (pe_ifExp (pt_cmpR (op_eqD hr.units) (pe_ix ix_tup (pv 1) pe_int (fun _ _ => rfl)) pe_str (nomark _)) (pe_methO0 W.T.cl O_Search_back hr (by first | decide | omega) (passNE (L2N.takes_of rfl rfl rfl rfl)) (pv 0)) (pe_methO W.T.cl O_Search_answer hr (by first | decide | omega) (passNE (L2N.takes_of rfl rfl rfl rfl)) (pv 0) (pa_cons (pe_ix ix_tup (pv 1) pe_int (fun _ _ => rfl)) pa_nil))))))
theorem lam_sc : NdefX.NScope ["a", "b", "c"] ["a", "b", "c"] [] (lamS lamE) := NdefX.nscope_by (by decide +kernel)
theorem lam_law (O__law_do : OwnC P w K mg base (L2N.CX P w) 5 "_law_do" ["search", "deed"] (sp__law_do K)) : LamOk P w K mg base qLam (lamA lamE) (lamB lamE) (lamS lamE) := fun f c' =>
  lam_ok (F := ⟨"<lambda>", qLam, lamA lamE, [], lamS lamE, [], c'⟩) (N := ["a", "b", "c"]) (ps := ["a", "b", "c"]) (k := 39) (sp := spL K) lam_sc rfl (fun pm ctv us hl => match us, hl with | [_, _, _], _ => rfl) (fun vs H Q E ⟨a, b, c, e, _⟩ => by rw [e]; rfl)
    (fun A outer s H vs Q E hr ⟨a, b, c, e, h⟩ => ⟨tCall (sp__law_do K) [] E (tCons (tVar 0) (tCons (tVar 1) tNil)), pe_callC O__law_do hr (by decide) (by rfl) (passNE (L2N.takes_of rfl rfl rfl rfl)) (pa_cons (pv 0) (pa_cons (pv 1) pa_nil)), by subst e; exact ⟨_, rfl, _, rfl, h⟩⟩)
theorem ok_law {fd : FuncData} (F : FunD K "law" "law" (defArgs s_law) (defBody s_law) (defScope s_law) [] [] (He.fAd K ("law", none)) fd) (W : Wd K mg) (O__law_bags : OwnC P w K mg base (L2N.CX P w) 3 "_law_bags" ["script", "limit"] (sp__law_bags K)) (O__law_take : OwnC P w K mg base (L2N.CX P w) 1 "_law_take" ["bag", "many"] (sp__law_take K)) (O_Search___init__ : OwnI P w K mg base (L2N.CX P w) 4 (He.ga K "Search") "Search" ["self", "length"] (sp_Search___init__ K)) (O__law_words : OwnC P w K mg base (L2N.CX P w) 2 "_law_words" ["thing", "stands"] (sp__law_words K)) (O__law_after : OwnC P w K mg base (L2N.CX P w) 4 "_law_after" ["length", "state", "deed"] (sp__law_after K)) (O__law_refused : OwnC P w K mg base (L2N.CX P w) 41 "_law_refused" ["call", "one", "two", "three"] (sp__law_refused K P w mg base)) (O__law_do : OwnC P w K mg base (L2N.CX P w) 5 "_law_do" ["search", "deed"] (sp__law_do K)) (O_Search_stands : OwnM P w K mg base (L2N.CX P w) 1 (He.ga K "Search") "stands" ["self"] (sp_Search_stands K)) (O_Search_answers : OwnM P w K mg base (L2N.CX P w) 1 (He.ga K "Search") "answers" ["self"] (sp_Search_answers K)) (O_Search___len__ : OwnM P w K mg base (L2N.CX P w) 1 (He.ga K "Search") "__len__" ["self"] (sp_Search___len__ K)) (O_Search_waits : OwnM P w K mg base (L2N.CX P w) 1 (He.ga K "Search") "waits" ["self"] (sp_Search_waits K)) (O_Search_can_lie : OwnM P w K mg base (L2N.CX P w) 1 (He.ga K "Search") "can_lie" ["self"] (sp_Search_can_lie K)) (O__law_open : OwnC P w K mg base (L2N.CX P w) 3 "_law_open" ["length", "stands", "words"] (sp__law_open K)) (O_Search___eq__ : OwnM P w K mg base (L2N.CX P w) 1 (He.ga K "Search") "__eq__" ["self", "other"] (sp_Search___eq__ K)) (O_Search_back : OwnM P w K mg base (L2N.CX P w) 2 (He.ga K "Search") "back" ["self"] (sp_Search_back K)) (TB0 : LamX.TabB base mg (He.cT K ("law", none)).1 (He.cT K ("law", none)).2) : FnOk P w K mg base (L2N.CX P w) 42 (He.fAd K ("law", none)) fd ["script"] (sp_law K [((He.cT K ("law", none)).2, qLam)]) := by
  obtain ⟨oc, od, dV, kV, doc, pm, an, cdv, ct, osl, rfl, lk, hcd, _, _⟩ := F.ex
  obtain ⟨c, rfl⟩ := He.codeIn_ref hcd
  have ec : He.codeOf K ("law", none) = c := He.codeOf_eq lk rfl
  have TB : LamX.TabB base mg c (He.cT K ("law", none)).2 := by
    have z := TB0
    rw [show (He.cT K ("law", none)).1 = c from ec] at z
    exact z
  have hmT : ((He.cT K ("law", none)).2, qLam) ∈ [((He.cT K ("law", none)).2, qLam)] := List.mem_singleton.mpr rfl
  have huT : ∀ p ∈ [((He.cT K ("law", none)).2, qLam)], p.1 = (He.cT K ("law", none)).2 → p.2 = qLam := fun p hp _ => by rw [List.mem_singleton.mp hp]
  refine fn_of lk hcd sc_law (fun vs H Q E h => len_law h) (fun A outer s H vs Q E hr h => ⟨t_law K P w mg base [((He.cT K ("law", none)).2, qLam)] qLam (lamA lamE) (lamB lamE) (lamS lamE), PSs.nox ?_, pure_law W.T (lam_law O__law_do) h⟩)
  exact (pss_cons (ps_for PassesOwn.never rfl (pi_list (pe_callC O__law_bags hr (by first | decide | omega) (by rfl) passN0 (pa_cons (pv 0) (pa_cons pe_int pa_nil)))) (pg_name (i := 1) sc_law.nd rfl (Or.inl rfl)) (pss_cons (ps_set (i := 2) sc_law.nd rfl (Or.inl rfl) (pe_op op_add pe_int (pe_callC O__law_take hr (by first | decide | omega) (by rfl) passN0 (pa_cons (pv 1) (pa_cons pe_int pa_nil)))))   (pss_cons (ps_set (i := 3) sc_law.nd rfl (Or.inl rfl) (pe_op op_add pe_int (pe_callC O__law_take hr (by first | decide | omega) (by rfl) passN0 (pa_cons (pv 1) (pa_cons (pv 2) pa_nil)))))   (pss_cons (ps_par3 (i := 4) (j := 5) (l := 6) (by rfl) sc_law.nd rfl rfl rfl (by decide) (by decide) (by decide) rfl rfl rfl (pa_cons (pe_makeO O_Search___init__ hr (by first | decide | omega) (by rfl) passN0 (pa_cons (pv 2) pa_nil)) (pa_cons (pe_makeO O_Search___init__ hr (by first | decide | omega) (by rfl) passN0 (pa_cons (pv 2) pa_nil)) (pa_cons (pe_lst (pa_cons (pe_tup (pa_cons (pe_lst pa_nil) (pa_cons (pe_lst pa_nil) pa_nil))) pa_nil)) pa_nil))) (by rfl))   (pss_cons (ps_for PassesOwn.never rfl (pi_range1 (by rfl) W.z_range (pa_cons (pe_callC O__law_take hr (by first | decide | omega) (by rfl) passN0 (pa_cons (pv 1) (pa_cons pe_int pa_nil))) pa_nil)) (pg_name (i := 7) sc_law.nd rfl (Or.inl rfl)) (pss_cons (ps_asg (pe_ix ix_list (pv 6) (pe_un un_neg pe_int) (fun _ _ => rfl)) (pg_tup rfl (pgs_cons (pg_name (i := 8) sc_law.nd rfl (Or.inl rfl)) (pgs_cons (pg_name (i := 9) sc_law.nd rfl (Or.inl rfl)) pgs_nil))))   (pss_cons (ps_set (i := 10) sc_law.nd rfl (Or.inl rfl) (pe_ix ix_list (pe_lst (pa_cons pe_str (pa_cons pe_str (pa_cons pe_str pa_nil)))) (pe_ix ix_list (pe_lst (pa_cons pe_int (pa_cons pe_int (pa_cons pe_int (pa_cons pe_int (pa_cons pe_int (pa_cons pe_int (pa_cons pe_int (pa_cons pe_int pa_nil))))))))) (pe_callC O__law_take hr (by first | decide | omega) (by rfl) passN0 (pa_cons (pv 1) (pa_cons pe_int pa_nil))) (fun _ _ => rfl)) (fun _ _ => rfl)))   (pss_cons (ps_set (i := 11) sc_law.nd rfl (Or.inl rfl) (pe_op op_cat (pe_op op_rep (pe_lst (pa_cons (pe_op op_add pe_int (pe_callC O__law_take hr (by first | decide | omega) (by rfl) passN0 (pa_cons (pv 1) (pa_cons (pv 2) pa_nil)))) pa_nil)) pe_int) (pe_lst (pa_cons pe_int (pa_cons (pe_op op_add (pv 2) pe_int) (pa_cons pe_non (pa_cons pe_bl (pa_cons pe_str pa_nil))))))))   (Evl.pss_cut (ps_if (pt_cmpR op_eq (pv 10) pe_str (nomark _)) (pss_cons (ps_set (i := 12) sc_law.nd rfl (Or.inl rfl) (pe_ix ix_list (pe_op op_cat (pe_callC O__law_words hr (by first | decide | omega) (by rfl) passN0 (pa_cons (pv 3) (pa_cons (pv 8) pa_nil))) (pe_lst (pa_cons pe_str pa_nil))) (pe_callB call_len_seq (by rfl) W.z_len PySem.boot_len (pa_cons (pv 9) pa_nil)) (fun _ _ => rfl)))   (pss_one (ps_set (i := 11) sc_law.nd rfl (Or.inl rfl) (pe_op op_cat (pe_op op_rep (pe_lst (pa_cons (pv 12) pa_nil)) pe_int) (pe_lst (pa_cons pe_str (pa_cons pe_str (pa_cons pe_str (pa_cons pe_str pa_nil))))))))) pss_nil)   (pss_cons (ps_par (i := 13) (j := 14) (by rfl) sc_law.nd rfl rfl (by decide) rfl rfl (pa_cons (pe_tup (pa_cons (pv 10) (pa_cons (pe_ix ix_list (pv 11) (pe_callC O__law_take hr (by first | decide | omega) (by rfl) passN0 (pa_cons (pv 1) (pa_cons pe_int pa_nil))) (fun _ _ => rfl)) pa_nil))) (pa_cons (pe_lst (pa_cons pe_str (pa_cons pe_bl pa_nil))) pa_nil)) (by rfl))   (Evl.pss_cut (ps_if (pt_cmpR op_ne (pv 10) pe_str (nomark _)) (pss_one (ps_set (i := 14) sc_law.nd rfl (Or.inl rfl) (pe_callC O__law_after hr (by first | decide | omega) (by rfl) passN0 (pa_cons (pv 2) (pa_cons (pe_ix ix_list (pv 6) (pe_un un_neg pe_int) (fun _ _ => rfl)) (pa_cons (pv 13) pa_nil)))))) (pss_one (ps_if (pt_cmpR op_gt (pe_callB call_len_seq (by rfl) W.z_len PySem.boot_len (pa_cons (pv 6) pa_nil)) pe_int (nomark _)) (pss_one (ps_set (i := 14) sc_law.nd rfl (Or.inl rfl) (pe_ix ix_list (pv 6) (pe_un un_neg pe_int) (fun _ _ => rfl)))) pss_nil)))   (pss_cons (ps_set (i := 15) sc_law.nd rfl (Or.inl rfl) (pe_callC O__law_refused hr (by first | decide | omega) (by rfl) passN0 (pa_cons (pe_lam TB rfl hmT huT) (pa_cons (pv 4) (pa_cons (pv 13) (pa_cons pe_int pa_nil))))))   (pss_cons (ps_if (pt_cmpR (op_neD hr.units) (pv 15) (pe_ifExp (pt_val (pe_callB call_isi (by rfl) W.z_isinstance bb_isinstance (pa_cons (pv 14) (pa_cons (pe_bltn (v := .ty "list") (by rfl) W.z_list bt_list rfl) pa_nil)))) (pv 14) (pe_lst pa_nil)) (nomark _)) (pss_one (ps_ret pe_bl)) pss_nil)   (Evl.pss_cut (ps_if (pt_cmpR (op_eqD hr.units) (pv 15) (pe_lst pa_nil) (nomark _)) (pss_cons (ps_set (i := 6) sc_law.nd rfl (Or.inl rfl) (pe_ifExp (pt_cmpR op_eq (pv 10) pe_str (nomark _)) (pe_slice sl_list (pv 6) po_none (po_some (pe_un un_neg pe_int))) (pe_op op_cat (pv 6) (pe_lst (pa_cons (pv 14) pa_nil)))))   (pss_one (ps_expr (pe_callC O__law_do hr (by first | decide | omega) (by rfl) passN0 (pa_cons (pv 5) (pa_cons (pv 13) pa_nil)))))) pss_nil)   (pss_cons (ps_asg (pe_ix ix_list (pv 6) (pe_un un_neg pe_int) (fun _ _ => rfl)) (pg_tup rfl (pgs_cons (pg_name (i := 8) sc_law.nd rfl (Or.inl rfl)) (pgs_cons (pg_name (i := 9) sc_law.nd rfl (Or.inl rfl)) pgs_nil))))   (pss_cons (ps_if (PW.pt (pw_or (pt_cmpR (op_neD hr.units) (pe_methO0 W.T.cl O_Search_stands hr (by first | decide | omega) passN0 (pv 4)) (pv 8) (nomark _)) (pw_or (pt_cmpR (op_neD hr.units) (pe_methO0 W.T.cl O_Search_answers hr (by first | decide | omega) passN0 (pv 4)) (pv 9) (nomark _)) (pw_or1 (pt_cmpR op_ne (pe_callB (call_lenI O_Search___len__ hr (by first | decide | omega) passN0) (by rfl) W.z_len PySem.boot_len (pa_cons (pv 4) pa_nil)) (pe_callB call_len_seq (by rfl) W.z_len PySem.boot_len (pa_cons (pv 8) pa_nil)) (nomark _)))))) (pss_one (ps_ret pe_bl)) pss_nil)   (pss_cons (ps_if (pt_cmpR op_ne (pe_callB call_reprB (by rfl) W.z_repr bb_repr (pa_cons (pe_methO0 W.T.cl O_Search_waits hr (by first | decide | omega) passN0 (pv 4)) pa_nil)) (pe_callB call_reprB (by rfl) W.z_repr bb_repr (pa_cons (pe_cmpR op_gt (pe_op op_sub (pe_callB call_len_seq (by rfl) W.z_len PySem.boot_len (pa_cons (pv 8) pa_nil)) pe_int) (pe_callB call_len_seq (by rfl) W.z_len PySem.boot_len (pa_cons (pv 9) pa_nil)) (nomark _)) pa_nil)) (nomark _)) (pss_one (ps_ret pe_bl)) pss_nil)   (pss_cons (ps_if (pt_cmpR (op_neD hr.units) (pe_methO0 W.T.cl O_Search_can_lie hr (by first | decide | omega) passN0 (pv 4)) (pe_callC O__law_open hr (by first | decide | omega) (by rfl) passN0 (pa_cons (pv 2) (pa_cons (pv 8) (pa_cons (pv 9) pa_nil)))) (nomark _)) (pss_one (ps_ret pe_bl)) pss_nil)   (pss_cons (ps_expr (pe_bm PySem.F.plainAttrs_list PySem.F.slot_list_append PySem.F.type_list_append mt_append (pe_methO0 W.T.cl O_Search_stands hr (by first | decide | omega) passN0 (pv 4)) (pa_cons pe_int pa_nil)))   (pss_cons (ps_expr (pe_bm PySem.F.plainAttrs_list PySem.F.slot_list_append PySem.F.type_list_append mt_append (pe_methO0 W.T.cl O_Search_answers hr (by first | decide | omega) passN0 (pv 4)) (pa_cons pe_int pa_nil)))   (pss_one (ps_if (PW.pt (pw_or (pt_not (pt_cmpR (op_eqI O_Search___eq__ W.TX.nl0 hr (by first | decide | omega) passN0) (pv 4) (pv 5) (nomark _))) (pw_or1 (pt_cmpR (op_eqI O_Search___eq__ W.TX.nl0 hr (by first | decide | omega) passN0) (pv 4) (pv 8) (nomark _))))) (pss_one (ps_ret pe_bl)) pss_nil))))))))))))))))))   (pss_cons (ps_for PassesOwn.never rfl (pi_range1 (by rfl) W.z_range (pa_cons (pe_op op_sub (pe_callB call_len_seq (by rfl) W.z_len PySem.boot_len (pa_cons (pv 6) pa_nil)) pe_int) pa_nil)) (pg_name (i := 7) sc_law.nd rfl (Or.inl rfl)) (pss_one (ps_expr (pe_methO0 W.T.cl O_Search_back hr (by first | decide | omega) passN0 (pv 4)))))   (pss_one (ps_if (PW.pt (pw_or (pt_not (pt_cmpR (op_eqI O_Search___eq__ W.TX.nl0 hr (by first | decide | omega) passN0) (pv 4) (pe_makeO O_Search___init__ hr (by first | decide | omega) (by rfl) passN0 (pa_cons (pv 2) pa_nil)) (nomark _))) (pw_or1 (pt_cmpR op_ne (pe_cmpR (op_eqI O_Search___eq__ W.TX.nl0 hr (by first | decide | omega) passN0) (pv 4) (pv 5) (nomark _)) (pe_cmpR (op_eqD hr.units) (pe_ix ix_list (pv 6) (pe_un un_neg pe_int) (fun _ _ => rfl)) (pe_tup (pa_cons (pe_lst pa_nil) (pa_cons (pe_lst pa_nil) pa_nil))) (nomark _)) (nomark _))))) (pss_one (ps_ret pe_bl)) pss_nil))))))))   (pss_one (ps_ret (pe_not (pe_cmpR (op_eqI O_Search___eq__ W.TX.nl0 hr (by first | decide | omega) passN0) (pe_makeO O_Search___init__ hr (by first | decide | omega) (by rfl) passN0 (pa_cons pe_int pa_nil)) (pe_makeO O_Search___init__ hr (by first | decide | omega) (by rfl) passN0 (pa_cons pe_int pa_nil)) (nomark _))))))
end
def d_is_whole : He.DefD := ⟨("is_whole", none), "is_whole", "is_whole", defArgs s_is_whole, defBody s_is_whole, defScope s_is_whole, [], []⟩
def d_is_place : He.DefD := ⟨("is_place", none), "is_place", "is_place", defArgs s_is_place, defBody s_is_place, defScope s_is_place, [], []⟩
def d_is_word : He.DefD := ⟨("is_word", none), "is_word", "is_word", defArgs s_is_word, defBody s_is_word, defScope s_is_word, [], []⟩
def d_check_length : He.DefD := ⟨("check_length", none), "check_length", "check_length", defArgs s_check_length, defBody s_check_length, defScope s_check_length, [], []⟩
def d_check_place : He.DefD := ⟨("check_place", none), "check_place", "check_place", defArgs s_check_place, defBody s_check_place, defScope s_check_place, [], []⟩
def d_check_answer : He.DefD := ⟨("check_answer", none), "check_answer", "check_answer", defArgs s_check_answer, defBody s_check_answer, defScope s_check_answer, [], []⟩
def d_word_for : He.DefD := ⟨("word_for", none), "word_for", "word_for", defArgs s_word_for, defBody s_word_for, defScope s_word_for, [], []⟩
def d_answer_to_move : He.DefD := ⟨("answer_to_move", none), "answer_to_move", "answer_to_move", defArgs s_answer_to_move, defBody s_answer_to_move, defScope s_answer_to_move, [], []⟩
def d_Search___init__ : He.DefD := ⟨("Search", some "__init__"), "__init__", "Search.__init__", defArgs s_Search___init__, defBody s_Search___init__, defScope s_Search___init__, [], []⟩
def d_Search_stand : He.DefD := ⟨("Search", some "stand"), "stand", "Search.stand", defArgs s_Search_stand, defBody s_Search_stand, defScope s_Search_stand, [], []⟩
def d_Search_answer : He.DefD := ⟨("Search", some "answer"), "answer", "Search.answer", defArgs s_Search_answer, defBody s_Search_answer, defScope s_Search_answer, [], []⟩
def d_Search_back : He.DefD := ⟨("Search", some "back"), "back", "Search.back", defArgs s_Search_back, defBody s_Search_back, defScope s_Search_back, [], []⟩
def d_Search_stands : He.DefD := ⟨("Search", some "stands"), "stands", "Search.stands", defArgs s_Search_stands, defBody s_Search_stands, defScope s_Search_stands, [], []⟩
def d_Search_answers : He.DefD := ⟨("Search", some "answers"), "answers", "Search.answers", defArgs s_Search_answers, defBody s_Search_answers, defScope s_Search_answers, [], []⟩
def d_Search_can_lie : He.DefD := ⟨("Search", some "can_lie"), "can_lie", "Search.can_lie", defArgs s_Search_can_lie, defBody s_Search_can_lie, defScope s_Search_can_lie, [], []⟩
def d_Search_waits : He.DefD := ⟨("Search", some "waits"), "waits", "Search.waits", defArgs s_Search_waits, defBody s_Search_waits, defScope s_Search_waits, [], []⟩
def d_Search___len__ : He.DefD := ⟨("Search", some "__len__"), "__len__", "Search.__len__", defArgs s_Search___len__, defBody s_Search___len__, defScope s_Search___len__, [], []⟩
def d_Search___eq__ : He.DefD := ⟨("Search", some "__eq__"), "__eq__", "Search.__eq__", defArgs s_Search___eq__, defBody s_Search___eq__, defScope s_Search___eq__, [], []⟩
def d__law_cell_at : He.DefD := ⟨("_law_cell_at", none), "_law_cell_at", "_law_cell_at", defArgs s__law_cell_at, defBody s__law_cell_at, defScope s__law_cell_at, [], []⟩
def d__law_draws : He.DefD := ⟨("_law_draws", none), "_law_draws", "_law_draws", defArgs s__law_draws, defBody s__law_draws, defScope s__law_draws, [], []⟩
def d__law_from : He.DefD := ⟨("_law_from", none), "_law_from", "_law_from", defArgs s__law_from, defBody s__law_from, defScope s__law_from, [], []⟩
def d__law_bag : He.DefD := ⟨("_law_bag", none), "_law_bag", "_law_bag", defArgs s__law_bag, defBody s__law_bag, defScope s__law_bag, [], []⟩
def d__law_bags : He.DefD := ⟨("_law_bags", none), "_law_bags", "_law_bags", defArgs s__law_bags, defBody s__law_bags, defScope s__law_bags, [], []⟩
def d__law_take : He.DefD := ⟨("_law_take", none), "_law_take", "_law_take", defArgs s__law_take, defBody s__law_take, defScope s__law_take, [], []⟩
def d__law_word : He.DefD := ⟨("_law_word", none), "_law_word", "_law_word", defArgs s__law_word, defBody s__law_word, defScope s__law_word, [], []⟩
def d__law_words : He.DefD := ⟨("_law_words", none), "_law_words", "_law_words", defArgs s__law_words, defBody s__law_words, defScope s__law_words, [], []⟩
def d__law_refused : He.DefD := ⟨("_law_refused", none), "_law_refused", "_law_refused", defArgs s__law_refused, defBody s__law_refused, defScope s__law_refused, [], []⟩
def d__law_open : He.DefD := ⟨("_law_open", none), "_law_open", "_law_open", defArgs s__law_open, defBody s__law_open, defScope s__law_open, [], []⟩
def d__law_after : He.DefD := ⟨("_law_after", none), "_law_after", "_law_after", defArgs s__law_after, defBody s__law_after, defScope s__law_after, [], []⟩
def d__law_do : He.DefD := ⟨("_law_do", none), "_law_do", "_law_do", defArgs s__law_do, defBody s__law_do, defScope s__law_do, [], []⟩
def d_law : He.DefD := ⟨("law", none), "law", "law", defArgs s_law, defBody s_law, defScope s_law, [], []⟩
def fn : List He.DefD := (([d_is_whole, d_is_place, d_is_word, d_check_length, d_check_place, d_check_answer, d_word_for, d_answer_to_move, d_Search___init__, d_Search_stand, d_Search_answer, d_Search_back, d_Search_stands, d_Search_answers, d_Search_can_lie, d_Search_waits, d_Search___len__, d_Search___eq__, d__law_cell_at, d__law_draws] : List He.DefD) ++ ([d__law_from, d__law_bag, d__law_bags, d__law_take, d__law_word, d__law_words, d__law_refused, d__law_open, d__law_after, d__law_do, d_law] : List He.DefD))
def fa : List He.Fa := (([.glo "is_whole", .glo "is_place", .glo "is_word", .glo "check_length", .glo "check_place", .glo "check_answer", .glo "word_for", .glo "answer_to_move", .mkr "Search", .meth "Search" "stand", .meth "Search" "answer", .meth "Search" "back", .meth "Search" "stands", .meth "Search" "answers", .meth "Search" "can_lie", .meth "Search" "waits", .meth "Search" "__len__", .meth "Search" "__eq__", .glo "_law_cell_at", .glo "_law_draws"] : List He.Fa) ++ ([.glo "_law_from", .glo "_law_bag", .glo "_law_bags", .glo "_law_take", .glo "_law_word", .glo "_law_words", .glo "_law_refused", .glo "_law_open", .glo "_law_after", .glo "_law_do", .glo "law", .free "ValueError", .free "abs", .free "bool", .free "int", .free "isinstance", .free "len", .free "list", .free "max", .free "min"] : List He.Fa) ++ ([.free "range", .free "repr", .free "str", .free "tuple", .int "LONGEST_PATH" 60, .glo "WORDS", .glo "Never", .glo "NoAnswer", .glo "NoAnswers", .glo "NoLength", .glo "NoPlace", .glo "NoStands", .glo "NoStretch", .glo "NotNow", .glo "NothingLeft", .glo "Search", .glo "SeekError", .glo "TooLong", .exc "Never", .exc "NoAnswer"] : List He.Fa) ++ ([.exc "NoPlace", .exc "NotNow", .exc "NothingLeft", .cls "Search", .noat "Search" "length", .noat "Search" "stood", .noat "Search" "words", .noat "Search" "left"] : List He.Fa))
def loose : List PySem.Str := ((["SeekError", "NoLength", "NoPlace", "NoStands", "NoAnswers", "NoStretch", "NoAnswer", "NotNow", "Never", "NothingLeft", "TooLong", "Search", "LONGEST_PATH", "WORDS", "is_whole", "is_place", "is_word", "check_length", "check_place", "check_answer"] : List PySem.Str) ++ (["word_for", "answer_to_move", "_law_cell_at", "_law_draws", "_law_from", "_law_bag", "_law_bags", "_law_take", "_law_word", "_law_words", "_law_refused", "_law_open", "_law_after", "_law_do"] : List PySem.Str))
abbrev R : PySem.W.OpenRow := PySem.W.OpenLaw.row PySem.Challenge.rw_warmcold_k13_whole_a_search_deed_by_deed
def exB (K : PySem.W.Frag) : Bool := He.tupB K "WORDS" [.str "warm", .str "cold", .str "same"] && (exFB K && srXB K)
def tf : List He.Defn := [("law", none)]
abbrev hk : PySem.W.Hook := He.hookX 4 fa fn [] tf exB
def ob (s : PySem.W.SharedT) : He.AlX := He.obsX 4 fa fn [] tf exB (HandSHeadRun.getT s)
theorem ob_eq (s : PySem.W.SharedT) : ob s = hk.obs s.abs := He.obsX_eq (HandSHeadRun.getT_eq s)
theorem run (w : World) : HandSHeadRun.RunEq R (PySem.W.view R.prog [39]) hk ob 4000 loose w := by
  intro os
  kernel_rfl
theorem facts {P : Program} {w : World} {K : PySem.W.Frag} {h : Heap} {mg : Str → Option Value} {f : Addr} (X : K.In h) (G : h.Ns mainGlobals mg) (hfa : mg ("law" : Str) = some (.ref f)) (c2 : He.SaysX fa fn [] tf exB w h K) :
    ∃ fd : FuncData, (∀ (s : Shared) (v : Value), BindsTo s fd ⟨[v], []⟩ [("script", v)]) ∧ ∀ base : Heap, K.In base → base.Ns mainGlobals mg → LamX.TabB base mg (He.cT K ("law", none)).1 (He.cT K ("law", none)).2 → FnOk P w K mg base (L2N.CX P w) 42 f fd ["script"] (sp_law K [((He.cT K ("law", none)).2, qLam)]) := by
  have c := c2.t.d
  obtain ⟨cT, cM⟩ := He.ba c2.more
  obtain ⟨cE, cS⟩ := He.ba cM
  obtain ⟨fd_is_whole, F_is_whole⟩ := c.def_ 0 (d := d_is_whole) rfl
  obtain ⟨fd_is_place, F_is_place⟩ := c.def_ 1 (d := d_is_place) rfl
  obtain ⟨fd_is_word, F_is_word⟩ := c.def_ 2 (d := d_is_word) rfl
  obtain ⟨fd_check_length, F_check_length⟩ := c.def_ 3 (d := d_check_length) rfl
  obtain ⟨fd_check_place, F_check_place⟩ := c.def_ 4 (d := d_check_place) rfl
  obtain ⟨fd_check_answer, F_check_answer⟩ := c.def_ 5 (d := d_check_answer) rfl
  obtain ⟨fd_word_for, F_word_for⟩ := c.def_ 6 (d := d_word_for) rfl
  obtain ⟨fd_answer_to_move, F_answer_to_move⟩ := c.def_ 7 (d := d_answer_to_move) rfl
  obtain ⟨fd_Search___init__, F_Search___init__⟩ := c.def_ 8 (d := d_Search___init__) rfl
  obtain ⟨fd_Search_stand, F_Search_stand⟩ := c.def_ 9 (d := d_Search_stand) rfl
  obtain ⟨fd_Search_answer, F_Search_answer⟩ := c.def_ 10 (d := d_Search_answer) rfl
  obtain ⟨fd_Search_back, F_Search_back⟩ := c.def_ 11 (d := d_Search_back) rfl
  obtain ⟨fd_Search_stands, F_Search_stands⟩ := c.def_ 12 (d := d_Search_stands) rfl
  obtain ⟨fd_Search_answers, F_Search_answers⟩ := c.def_ 13 (d := d_Search_answers) rfl
  obtain ⟨fd_Search_can_lie, F_Search_can_lie⟩ := c.def_ 14 (d := d_Search_can_lie) rfl
  obtain ⟨fd_Search_waits, F_Search_waits⟩ := c.def_ 15 (d := d_Search_waits) rfl
  obtain ⟨fd_Search___len__, F_Search___len__⟩ := c.def_ 16 (d := d_Search___len__) rfl
  obtain ⟨fd_Search___eq__, F_Search___eq__⟩ := c.def_ 17 (d := d_Search___eq__) rfl
  obtain ⟨fd__law_cell_at, F__law_cell_at⟩ := c.def_ 18 (d := d__law_cell_at) rfl
  obtain ⟨fd__law_draws, F__law_draws⟩ := c.def_ 19 (d := d__law_draws) rfl
  obtain ⟨fd__law_from, F__law_from⟩ := c.def_ 20 (d := d__law_from) rfl
  obtain ⟨fd__law_bag, F__law_bag⟩ := c.def_ 21 (d := d__law_bag) rfl
  obtain ⟨fd__law_bags, F__law_bags⟩ := c.def_ 22 (d := d__law_bags) rfl
  obtain ⟨fd__law_take, F__law_take⟩ := c.def_ 23 (d := d__law_take) rfl
  obtain ⟨fd__law_word, F__law_word⟩ := c.def_ 24 (d := d__law_word) rfl
  obtain ⟨fd__law_words, F__law_words⟩ := c.def_ 25 (d := d__law_words) rfl
  obtain ⟨fd__law_refused, F__law_refused⟩ := c.def_ 26 (d := d__law_refused) rfl
  obtain ⟨fd__law_open, F__law_open⟩ := c.def_ 27 (d := d__law_open) rfl
  obtain ⟨fd__law_after, F__law_after⟩ := c.def_ 28 (d := d__law_after) rfl
  obtain ⟨fd__law_do, F__law_do⟩ := c.def_ 29 (d := d__law_do) rfl
  obtain ⟨fd_law, F_law⟩ := c.def_ 30 (d := d_law) rfl
  have W : Wd K mg := {
    T := ⟨He.cls_ok (c.fact 63 (f := .cls "Search") rfl), He.noat_ok (c.fact 64 (f := .noat "Search" "length") rfl), He.noat_ok (c.fact 65 (f := .noat "Search" "stood") rfl), He.noat_ok (c.fact 66 (f := .noat "Search" "words") rfl), He.noat_ok (c.fact 67 (f := .noat "Search" "left") rfl)⟩
    TX := srXB_ok cS
    EF := exFB_ok cE
    z_ValueError := He.free_ok X G (c.fact 31 (f := .free "ValueError") rfl)
    z_abs := He.free_ok X G (c.fact 32 (f := .free "abs") rfl)
    z_bool := He.free_ok X G (c.fact 33 (f := .free "bool") rfl)
    z_int := He.free_ok X G (c.fact 34 (f := .free "int") rfl)
    z_isinstance := He.free_ok X G (c.fact 35 (f := .free "isinstance") rfl)
    z_len := He.free_ok X G (c.fact 36 (f := .free "len") rfl)
    z_list := He.free_ok X G (c.fact 37 (f := .free "list") rfl)
    z_max := He.free_ok X G (c.fact 38 (f := .free "max") rfl)
    z_min := He.free_ok X G (c.fact 39 (f := .free "min") rfl)
    z_range := He.free_ok X G (c.fact 40 (f := .free "range") rfl)
    z_repr := He.free_ok X G (c.fact 41 (f := .free "repr") rfl)
    z_str := He.free_ok X G (c.fact 42 (f := .free "str") rfl)
    z_tuple := He.free_ok X G (c.fact 43 (f := .free "tuple") rfl)
    g_Never := He.glo_ok X G (c.fact 46 (f := .glo "Never") rfl)
    g_NoAnswer := He.glo_ok X G (c.fact 47 (f := .glo "NoAnswer") rfl)
    g_NoAnswers := He.glo_ok X G (c.fact 48 (f := .glo "NoAnswers") rfl)
    g_NoLength := He.glo_ok X G (c.fact 49 (f := .glo "NoLength") rfl)
    g_NoPlace := He.glo_ok X G (c.fact 50 (f := .glo "NoPlace") rfl)
    g_NoStands := He.glo_ok X G (c.fact 51 (f := .glo "NoStands") rfl)
    g_NoStretch := He.glo_ok X G (c.fact 52 (f := .glo "NoStretch") rfl)
    g_NotNow := He.glo_ok X G (c.fact 53 (f := .glo "NotNow") rfl)
    g_NothingLeft := He.glo_ok X G (c.fact 54 (f := .glo "NothingLeft") rfl)
    g_Search := He.glo_ok X G (c.fact 55 (f := .glo "Search") rfl)
    g_SeekError := He.glo_ok X G (c.fact 56 (f := .glo "SeekError") rfl)
    g_TooLong := He.glo_ok X G (c.fact 57 (f := .glo "TooLong") rfl)
    x_Never := have z := He.exc_ok (c.fact 58 (f := .exc "Never") rfl); ⟨He.glo_ok X G (c.fact 46 (f := .glo "Never") rfl), z.1, z.2.1, z.2.2.1, z.2.2.2⟩
    x_NoAnswer := have z := He.exc_ok (c.fact 59 (f := .exc "NoAnswer") rfl); ⟨He.glo_ok X G (c.fact 47 (f := .glo "NoAnswer") rfl), z.1, z.2.1, z.2.2.1, z.2.2.2⟩
    x_NoPlace := have z := He.exc_ok (c.fact 60 (f := .exc "NoPlace") rfl); ⟨He.glo_ok X G (c.fact 50 (f := .glo "NoPlace") rfl), z.1, z.2.1, z.2.2.1, z.2.2.2⟩
    x_NotNow := have z := He.exc_ok (c.fact 61 (f := .exc "NotNow") rfl); ⟨He.glo_ok X G (c.fact 53 (f := .glo "NotNow") rfl), z.1, z.2.1, z.2.2.1, z.2.2.2⟩
    x_NothingLeft := have z := He.exc_ok (c.fact 62 (f := .exc "NothingLeft") rfl); ⟨He.glo_ok X G (c.fact 54 (f := .glo "NothingLeft") rfl), z.1, z.2.1, z.2.2.1, z.2.2.2⟩
    c_LONGEST_PATH := He.int_ok X G (c.fact 44 (f := .int "LONGEST_PATH" 60) rfl)
    c_WORDS := He.glo_ok X G (c.fact 45 (f := .glo "WORDS") rfl)
    q_WORDS := fun H => He.tupB_ok cT H
  }
  have e := hfa.symm.trans (He.glo_ok X G (c.fact 30 (f := .glo "law") rfl))
  cases e
  have bL := FunD.bindsA (ps := ["script"]) F_law fun _ _ _ _ _ _ us hl => match us, hl with | [_], _ => rfl
  refine ⟨fd_law, fun s v => bL s [v] rfl, fun base _ _ TB0 => ?_⟩
  have O_is_whole : OwnC P w K mg base (L2N.CX P w) 1 "is_whole" ["value"] (sp_is_whole K) := ⟨_, fd_is_whole, ok_is_whole F_is_whole W , He.glo_ok X G (c.fact 0 (f := .glo "is_whole") rfl), F_is_whole.kp, FunD.bindsN F_is_whole fun _ _ _ _ _ _ us hl => match us, hl with | [_], _ => rfl⟩
  have O_is_place : OwnC P w K mg base (L2N.CX P w) 2 "is_place" ["value", "length"] (sp_is_place K) := ⟨_, fd_is_place, ok_is_place F_is_place W O_is_whole, He.glo_ok X G (c.fact 1 (f := .glo "is_place") rfl), F_is_place.kp, FunD.bindsN F_is_place fun _ _ _ _ _ _ us hl => match us, hl with | [_, _], _ => rfl⟩
  have O_is_word : OwnC P w K mg base (L2N.CX P w) 1 "is_word" ["value"] (sp_is_word K) := ⟨_, fd_is_word, ok_is_word F_is_word W , He.glo_ok X G (c.fact 2 (f := .glo "is_word") rfl), F_is_word.kp, FunD.bindsN F_is_word fun _ _ _ _ _ _ us hl => match us, hl with | [_], _ => rfl⟩
  have O_check_length : OwnC P w K mg base (L2N.CX P w) 3 "check_length" ["length"] (sp_check_length K) := ⟨_, fd_check_length, ok_check_length F_check_length W O_is_place, He.glo_ok X G (c.fact 3 (f := .glo "check_length") rfl), F_check_length.kp, FunD.bindsN F_check_length fun _ _ _ _ _ _ us hl => match us, hl with | [_], _ => rfl⟩
  have O_check_place : OwnC P w K mg base (L2N.CX P w) 3 "check_place" ["place", "length"] (sp_check_place K) := ⟨_, fd_check_place, ok_check_place F_check_place W O_is_place, He.glo_ok X G (c.fact 4 (f := .glo "check_place") rfl), F_check_place.kp, FunD.bindsN F_check_place fun _ _ _ _ _ _ us hl => match us, hl with | [_, _], _ => rfl⟩
  have O_check_answer : OwnC P w K mg base (L2N.CX P w) 2 "check_answer" ["word"] (sp_check_answer K) := ⟨_, fd_check_answer, ok_check_answer F_check_answer W O_is_word, He.glo_ok X G (c.fact 5 (f := .glo "check_answer") rfl), F_check_answer.kp, FunD.bindsN F_check_answer fun _ _ _ _ _ _ us hl => match us, hl with | [_], _ => rfl⟩
  have O_word_for : OwnC P w K mg base (L2N.CX P w) 1 "word_for" ["before", "after"] (sp_word_for K) := ⟨_, fd_word_for, ok_word_for F_word_for W , He.glo_ok X G (c.fact 6 (f := .glo "word_for") rfl), F_word_for.kp, FunD.bindsN F_word_for fun _ _ _ _ _ _ us hl => match us, hl with | [_, _], _ => rfl⟩
  have O_answer_to_move : OwnC P w K mg base (L2N.CX P w) 2 "answer_to_move" ["thing", "earlier", "later"] (sp_answer_to_move K) := ⟨_, fd_answer_to_move, ok_answer_to_move F_answer_to_move W O_word_for, He.glo_ok X G (c.fact 7 (f := .glo "answer_to_move") rfl), F_answer_to_move.kp, FunD.bindsN F_answer_to_move fun _ _ _ _ _ _ us hl => match us, hl with | [_, _, _], _ => rfl⟩
  have O_Search___init__ : OwnI P w K mg base (L2N.CX P w) 4 (He.ga K "Search") "Search" ["self", "length"] (sp_Search___init__ K) := ⟨_, fd_Search___init__, ok_Search___init__ F_Search___init__ W O_check_length, He.mkr_ok (c.fact 8 (f := .mkr "Search") rfl), FunD.bindsN F_Search___init__ fun _ _ _ _ _ _ us hl => match us, hl with | [_, _], _ => rfl, He.glo_ok X G (c.fact 55 (f := .glo "Search") rfl)⟩
  have O_Search_waits : OwnM P w K mg base (L2N.CX P w) 1 (He.ga K "Search") "waits" ["self"] (sp_Search_waits K) := ⟨_, fd_Search_waits, ok_Search_waits F_Search_waits W , He.meth_ok (c.fact 15 (f := .meth "Search" "waits") rfl), FunD.bindsN F_Search_waits fun _ _ _ _ _ _ us hl => match us, hl with | [_], _ => rfl⟩
  have O_Search_stand : OwnM P w K mg base (L2N.CX P w) 4 (He.ga K "Search") "stand" ["self", "place"] (sp_Search_stand K) := ⟨_, fd_Search_stand, ok_Search_stand F_Search_stand W O_check_place O_Search_waits, He.meth_ok (c.fact 9 (f := .meth "Search" "stand") rfl), FunD.bindsN F_Search_stand fun _ _ _ _ _ _ us hl => match us, hl with | [_, _], _ => rfl⟩
  have O_Search_answer : OwnM P w K mg base (L2N.CX P w) 3 (He.ga K "Search") "answer" ["self", "word"] (sp_Search_answer K) := ⟨_, fd_Search_answer, ok_Search_answer F_Search_answer W O_check_answer O_Search_waits O_answer_to_move, He.meth_ok (c.fact 10 (f := .meth "Search" "answer") rfl), FunD.bindsN F_Search_answer fun _ _ _ _ _ _ us hl => match us, hl with | [_, _], _ => rfl⟩
  have O_Search_back : OwnM P w K mg base (L2N.CX P w) 2 (He.ga K "Search") "back" ["self"] (sp_Search_back K) := ⟨_, fd_Search_back, ok_Search_back F_Search_back W O_Search_waits, He.meth_ok (c.fact 11 (f := .meth "Search" "back") rfl), FunD.bindsN F_Search_back fun _ _ _ _ _ _ us hl => match us, hl with | [_], _ => rfl⟩
  have O_Search_stands : OwnM P w K mg base (L2N.CX P w) 1 (He.ga K "Search") "stands" ["self"] (sp_Search_stands K) := ⟨_, fd_Search_stands, ok_Search_stands F_Search_stands W , He.meth_ok (c.fact 12 (f := .meth "Search" "stands") rfl), FunD.bindsN F_Search_stands fun _ _ _ _ _ _ us hl => match us, hl with | [_], _ => rfl⟩
  have O_Search_answers : OwnM P w K mg base (L2N.CX P w) 1 (He.ga K "Search") "answers" ["self"] (sp_Search_answers K) := ⟨_, fd_Search_answers, ok_Search_answers F_Search_answers W , He.meth_ok (c.fact 13 (f := .meth "Search" "answers") rfl), FunD.bindsN F_Search_answers fun _ _ _ _ _ _ us hl => match us, hl with | [_], _ => rfl⟩
  have O_Search_can_lie : OwnM P w K mg base (L2N.CX P w) 1 (He.ga K "Search") "can_lie" ["self"] (sp_Search_can_lie K) := ⟨_, fd_Search_can_lie, ok_Search_can_lie F_Search_can_lie W , He.meth_ok (c.fact 14 (f := .meth "Search" "can_lie") rfl), FunD.bindsN F_Search_can_lie fun _ _ _ _ _ _ us hl => match us, hl with | [_], _ => rfl⟩
  have O_Search___len__ : OwnM P w K mg base (L2N.CX P w) 1 (He.ga K "Search") "__len__" ["self"] (sp_Search___len__ K) := ⟨_, fd_Search___len__, ok_Search___len__ F_Search___len__ W , He.meth_ok (c.fact 16 (f := .meth "Search" "__len__") rfl), FunD.bindsN F_Search___len__ fun _ _ _ _ _ _ us hl => match us, hl with | [_], _ => rfl⟩
  have O_Search___eq__ : OwnM P w K mg base (L2N.CX P w) 1 (He.ga K "Search") "__eq__" ["self", "other"] (sp_Search___eq__ K) := ⟨_, fd_Search___eq__, ok_Search___eq__ F_Search___eq__ W , He.meth_ok (c.fact 17 (f := .meth "Search" "__eq__") rfl), FunD.bindsN F_Search___eq__ fun _ _ _ _ _ _ us hl => match us, hl with | [_, _], _ => rfl⟩
  have O__law_cell_at : OwnC P w K mg base (L2N.CX P w) 1 "_law_cell_at" ["script", "k"] (sp__law_cell_at K) := ⟨_, fd__law_cell_at, ok__law_cell_at F__law_cell_at W , He.glo_ok X G (c.fact 18 (f := .glo "_law_cell_at") rfl), F__law_cell_at.kp, FunD.bindsN F__law_cell_at fun _ _ _ _ _ _ us hl => match us, hl with | [_, _], _ => rfl⟩
  have O__law_draws : OwnC P w K mg base (L2N.CX P w) 1 "_law_draws" ["cell", "many", "size"] (sp__law_draws K) := ⟨_, fd__law_draws, ok__law_draws F__law_draws W , He.glo_ok X G (c.fact 19 (f := .glo "_law_draws") rfl), F__law_draws.kp, FunD.bindsN F__law_draws fun _ _ _ _ _ _ us hl => match us, hl with | [_, _, _], _ => rfl⟩
  have O__law_from : OwnC P w K mg base (L2N.CX P w) 1 "_law_from" ["thing", "least", "top"] (sp__law_from K) := ⟨_, fd__law_from, ok__law_from F__law_from W , He.glo_ok X G (c.fact 20 (f := .glo "_law_from") rfl), F__law_from.kp, FunD.bindsN F__law_from fun _ _ _ _ _ _ us hl => match us, hl with | [_, _, _], _ => rfl⟩
  have O__law_bag : OwnC P w K mg base (L2N.CX P w) 2 "_law_bag" ["script", "k"] (sp__law_bag K) := ⟨_, fd__law_bag, ok__law_bag F__law_bag W O__law_draws O__law_cell_at, He.glo_ok X G (c.fact 21 (f := .glo "_law_bag") rfl), F__law_bag.kp, FunD.bindsN F__law_bag fun _ _ _ _ _ _ us hl => match us, hl with | [_, _], _ => rfl⟩
  have O__law_bags : OwnC P w K mg base (L2N.CX P w) 3 "_law_bags" ["script", "limit"] (sp__law_bags K) := ⟨_, fd__law_bags, ok__law_bags F__law_bags W O__law_bag, He.glo_ok X G (c.fact 22 (f := .glo "_law_bags") rfl), F__law_bags.kp, FunD.bindsN F__law_bags fun _ _ _ _ _ _ us hl => match us, hl with | [_, _], _ => rfl⟩
  have O__law_take : OwnC P w K mg base (L2N.CX P w) 1 "_law_take" ["bag", "many"] (sp__law_take K) := ⟨_, fd__law_take, ok__law_take F__law_take W , He.glo_ok X G (c.fact 23 (f := .glo "_law_take") rfl), F__law_take.kp, FunD.bindsN F__law_take fun _ _ _ _ _ _ us hl => match us, hl with | [_, _], _ => rfl⟩
  have O__law_word : OwnC P w K mg base (L2N.CX P w) 1 "_law_word" ["far", "near"] (sp__law_word K) := ⟨_, fd__law_word, ok__law_word F__law_word W , He.glo_ok X G (c.fact 24 (f := .glo "_law_word") rfl), F__law_word.kp, FunD.bindsN F__law_word fun _ _ _ _ _ _ us hl => match us, hl with | [_, _], _ => rfl⟩
  have O__law_words : OwnC P w K mg base (L2N.CX P w) 2 "_law_words" ["thing", "stands"] (sp__law_words K) := ⟨_, fd__law_words, ok__law_words F__law_words W O__law_word, He.glo_ok X G (c.fact 25 (f := .glo "_law_words") rfl), F__law_words.kp, FunD.bindsN F__law_words fun _ _ _ _ _ _ us hl => match us, hl with | [_, _], _ => rfl⟩
  have O__law_refused : OwnC P w K mg base (L2N.CX P w) 41 "_law_refused" ["call", "one", "two", "three"] (sp__law_refused K P w mg base) := ⟨_, fd__law_refused, ok__law_refused F__law_refused W , He.glo_ok X G (c.fact 26 (f := .glo "_law_refused") rfl), F__law_refused.kp, FunD.bindsN F__law_refused fun _ _ _ _ _ _ us hl => match us, hl with | [_, _, _, _], _ => rfl⟩
  have O__law_open : OwnC P w K mg base (L2N.CX P w) 3 "_law_open" ["length", "stands", "words"] (sp__law_open K) := ⟨_, fd__law_open, ok__law_open F__law_open W O__law_words, He.glo_ok X G (c.fact 27 (f := .glo "_law_open") rfl), F__law_open.kp, FunD.bindsN F__law_open fun _ _ _ _ _ _ us hl => match us, hl with | [_, _, _], _ => rfl⟩
  have O__law_after : OwnC P w K mg base (L2N.CX P w) 4 "_law_after" ["length", "state", "deed"] (sp__law_after K) := ⟨_, fd__law_after, ok__law_after F__law_after W O__law_from O__law_open, He.glo_ok X G (c.fact 28 (f := .glo "_law_after") rfl), F__law_after.kp, FunD.bindsN F__law_after fun _ _ _ _ _ _ us hl => match us, hl with | [_, _, _], _ => rfl⟩
  have O__law_do : OwnC P w K mg base (L2N.CX P w) 5 "_law_do" ["search", "deed"] (sp__law_do K) := ⟨_, fd__law_do, ok__law_do F__law_do W O_Search_stand O_Search_back O_Search_answer, He.glo_ok X G (c.fact 29 (f := .glo "_law_do") rfl), F__law_do.kp, FunD.bindsN F__law_do fun _ _ _ _ _ _ us hl => match us, hl with | [_, _], _ => rfl⟩
  exact ok_law F_law W O__law_bags O__law_take O_Search___init__ O__law_words O__law_after O__law_refused O__law_do O_Search_stands O_Search_answers O_Search___len__ O_Search_waits O_Search_can_lie O__law_open O_Search___eq__ O_Search_back TB0
theorem tab0 {H : Hp} {A : Addr} {q : Str} (h : H A = some (.tbl #[])) : LamX.Tabs [(A, q)] H := fun p hp => by
  rw [List.mem_singleton.mp hp]
  exact ⟨#[], h, trivial, fun pos cv e => by cases e⟩
end Wc
open PySem PySem.W PySem.Calls PyProof.Rows
set_option maxRecDepth 100000 in
set_option maxHeartbeats 0 in
theorem PySem.Challenge.cw_warmcold_k13_whole_a_search_deed_by_deed_holds : PySem.Challenge.rw_warmcold_k13_whole_a_search_deed_by_deed.Holds := by
  w_on; o_law
  refine HandSHeadRun.head_any (r := OpenLaw.row PySem.Challenge.rw_warmcold_k13_whole_a_search_deed_by_deed) (q := view (OpenLaw.row PySem.Challenge.rw_warmcold_k13_whole_a_search_deed_by_deed).prog [39]) (H := Wc.hk) (ob := Wc.ob) (M := 4000) (loose := Wc.loose) (d := HandSHeadRun.topDef (OpenLaw.row PySem.Challenge.rw_warmcold_k13_whole_a_search_deed_by_deed).prog 39) (kwd := []) Wc.ob_eq (by kernel_rfl) (fun s => by kernel_rfl) Wc.run (by kernel_rfl) (by kernel_rfl) (by kernel_rfl) (by rfl) (by first | assumption | decide +kernel) (by decide +kernel) ⟨rfl, rfl, rfl, rfl, rfl, by decide +kernel⟩ ?hw ?hc
  case hw => w_witness2
  case hc =>
    refine LamX.walk_ofTsE (l := PySem.Challenge.rw_warmcold_k13_whole_a_search_deed_by_deed) (n := 63) (k := 42) (x := "script") (CX := fun w => L2N.CX (PySem.Challenge.rw_warmcold_k13_whole_a_search_deed_by_deed).prog w) rfl (by decide) (by kernel_rfl) ⟨rfl, by decide, by decide⟩ ?F (fun _ _ _ _ _ ⟨_, _, _, _, _, _, _, _, _, _, _, _, z⟩ => z)
    intro w mg fa h Y G hmg0
    obtain ⟨K, KX, c⟩ := Y
    have hmg : mg ("law" : PySem.Str) = some (.ref fa) := by
      have e : (HandSHeadRun.topDef (OpenLaw.row PySem.Challenge.rw_warmcold_k13_whole_a_search_deed_by_deed).prog 39).name = ("law" : PySem.Str) := by kernel_rfl
      rw [← e]
      exact hmg0
    obtain ⟨fd, hb, hF⟩ := Wc.facts (P := (PySem.Challenge.rw_warmcold_k13_whole_a_search_deed_by_deed).prog) (w := w) KX G hmg c
    have m1 : (("law", none) : He.Defn) ∈ Wc.tf := List.mem_singleton.mpr rfl
    refine ⟨K, KX, fd, [He.cT K ("law", none)], Wc.sp_law K [((He.cT K ("law", none)).2, Wc.qLam)], fun p hp => ?_, fun p hp => ?_, fun p hp => ?_, hb, fun H a ns hl _ hT hS => ⟨a, ns, rfl, hS, hl, Wc.tab0 (hT _ (List.mem_singleton.mpr rfl)), fun _ => rfl⟩, fun base hK hN hTB => hF base hK hN (hTB _ (List.mem_singleton.mpr rfl))⟩
    · rw [List.mem_singleton.mp hp]
      exact c.empty _ m1
    · rw [List.mem_singleton.mp hp]
      exact c.out _ m1
    · rw [List.mem_singleton.mp hp]
      exact PySem.W.codeHd_of_K KX (c.hd _ m1)
