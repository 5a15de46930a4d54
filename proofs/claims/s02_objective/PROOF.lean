import PyProof.Rows.All
import Wide.All
import OpenK.AllK
import Wide.FinOn
import Open.SpecLaws
import KE.OsGo
import HandS.ForSpec
import HandS.WideBits
import HandS.Iter
import HandS.Comp
import PySem.Challenge.RW_weaklink_s02_objective
set_option Elab.async false
set_option linter.all false
set_option maxRecDepth 100000
set_option maxHeartbeats 2000000
/-! Part 1: the mathematics of the tree's list, of sets of nodes and of the objective. -/
namespace WL
open Ks592

/-- what the program reads of a list that is a tree -/
structure TreeOk (ns : List Int) (tree : Tree) : Prop where
  len : ns.length = 2 * tree.length
  par : ∀ k, k < tree.length → ns[2 * k]? = some ((nodeAt tree k).parent : Int)
  wt : ∀ k, k < tree.length → ns[2 * k + 1]? = some ((nodeAt tree k).weight : Int)
  few : tree.length ≤ 10
  wf : ∀ k, k < tree.length → (nodeAt tree k).parent ≤ k
  ww : ∀ k, k < tree.length → (nodeAt tree k).weight ≤ 99

def NodeFits (ns : List Int) (i k : Nat) : Prop := ∃ a b : Int, ns[2 * k]? = some a ∧ ns[2 * k + 1]? = some b ∧ a ≤ ((i + k : Nat) : Int) ∧ b ≤ 99

theorem nodeAt_zero (nd : Node) (t : Tree) : nodeAt (nd :: t) 0 = nd := rfl
theorem nodeAt_succ (nd : Node) (t : Tree) (k : Nat) : nodeAt (nd :: t) (k + 1) = nodeAt t k := by
  unfold nodeAt
  simp

theorem parse_some : ∀ (t : Tree) (ns : List Int) (i : Nat), (∀ x ∈ ns, 0 ≤ x) → parseTree i (ns.map Int.toNat) = some t →
    ns.length = 2 * t.length ∧ ∀ k, k < t.length → ns[2 * k]? = some ((nodeAt t k).parent : Int) ∧ ns[2 * k + 1]? = some ((nodeAt t k).weight : Int) ∧ (nodeAt t k).parent ≤ i + k ∧ (nodeAt t k).weight ≤ 99
  | t, [], i, _, h => by
    simp [parseTree] at h
    subst h
    simp
  | t, [x], i, _, h => by simp [parseTree] at h
  | t, a :: b :: r, i, hn, h => by
    simp only [List.map_cons, parseTree] at h
    by_cases c : i < a.toNat ∨ 99 < b.toNat
    · rw [if_pos c] at h
      cases h
    · rw [if_neg c] at h
      cases e : parseTree (i + 1) (r.map Int.toNat) with
      | none =>
        rw [e] at h
        cases h
      | some t' =>
        rw [e] at h
        have ht : (⟨a.toNat, b.toNat⟩ : Node) :: t' = t := Option.some.inj h
        subst ht
        have ha : 0 ≤ a := hn a (by simp)
        have hb : 0 ≤ b := hn b (by simp)
        obtain ⟨h1, h2⟩ := parse_some t' r (i + 1) (fun x hx => hn x (by simp [hx])) e
        refine ⟨by simp [h1]; omega, fun k hk => ?_⟩
        cases k with
        | zero =>
          rw [nodeAt_zero]
          refine ⟨?_, ?_, ?_, ?_⟩
          · show some a = some ((a.toNat : Nat) : Int)
            rw [Int.toNat_of_nonneg ha]
          · show some b = some ((b.toNat : Nat) : Int)
            rw [Int.toNat_of_nonneg hb]
          · show a.toNat ≤ i + 0
            omega
          · show b.toNat ≤ 99
            omega
        | succ k =>
          rw [nodeAt_succ]
          obtain ⟨g1, g2, g3, g4⟩ := h2 k (by simp at hk; omega)
          refine ⟨?_, ?_, by omega, g4⟩
          · rw [show 2 * (k + 1) = 2 * k + 1 + 1 by omega]
            exact g1
          · rw [show 2 * (k + 1) + 1 = 2 * k + 1 + 1 + 1 by omega]
            exact g2
theorem parse_none : ∀ (ns : List Int) (i : Nat), parseTree i (ns.map Int.toNat) = none → ns.length % 2 = 1 ∨ ∃ k, 2 * k + 1 < ns.length ∧ ¬ NodeFits ns i k
  | [], i, h => by simp [parseTree] at h
  | [x], i, h => .inl rfl
  | a :: b :: r, i, h => by
    simp only [List.map_cons, parseTree] at h
    by_cases c : i < a.toNat ∨ 99 < b.toNat
    · refine .inr ⟨0, by simp, ?_⟩
      rintro ⟨a', b', h1, h2, h3, h4⟩
      simp at h1 h2
      subst h1 h2
      omega
    · rw [if_neg c] at h
      cases e : parseTree (i + 1) (r.map Int.toNat) with
      | some t' =>
        rw [e] at h
        cases h
      | none =>
        rcases parse_none r (i + 1) e with g | ⟨k, g1, g2⟩
        · refine .inl ?_
          simp only [List.length_cons]
          omega
        · refine .inr ⟨k + 1, by simp only [List.length_cons]; omega, fun ⟨a', b', h1, h2, h3, h4⟩ => g2 ⟨a', b', ?_, ?_, ?_, h4⟩⟩
          · rw [show 2 * (k + 1) = 2 * k + 1 + 1 by omega] at h1
            exact h1
          · rw [show 2 * (k + 1) + 1 = 2 * k + 1 + 1 + 1 by omega] at h2
            exact h2
          · omega

/-- the tree of a list, where the list is a tree within the limits -/
def treeOf (ns : List Int) : Option Tree := match parseTree 0 (ns.map Int.toNat) with
  | none => none
  | some t => if 10 < t.length then none else some t

theorem treeOf_some {ns : List Int} {t : Tree} (hn : ∀ x ∈ ns, 0 ≤ x) (h : treeOf ns = some t) : TreeOk ns t := by
  unfold treeOf at h
  cases e : parseTree 0 (ns.map Int.toNat) with
  | none => rw [e] at h; cases h
  | some t' =>
    rw [e] at h
    have h : (if 10 < t'.length then none else some t') = some t := h
    by_cases c : 10 < t'.length
    · rw [if_pos c] at h; cases h
    · rw [if_neg c] at h
      obtain rfl := Option.some.inj h
      obtain ⟨h1, h2⟩ := parse_some t' ns 0 hn e
      exact ⟨h1, fun k hk => (h2 k hk).1, fun k hk => (h2 k hk).2.1, by omega, fun k hk => by have := (h2 k hk).2.2.1; omega, fun k hk => (h2 k hk).2.2.2⟩
theorem treeOf_none {ns : List Int} (h : treeOf ns = none) (hn : ∀ x ∈ ns, 0 ≤ x) (h1 : ns.length % 2 = 0) (h2 : ns.length / 2 ≤ 10) : ∃ k, 2 * k + 1 < ns.length ∧ ¬ NodeFits ns 0 k := by
  unfold treeOf at h
  cases e : parseTree 0 (ns.map Int.toNat) with
  | none =>
    rcases parse_none ns 0 e with g | g
    · omega
    · exact g
  | some t' =>
    rw [e] at h
    have h : (if 10 < t'.length then none else some t') = none := h
    have := (parse_some t' ns 0 hn e).1
    rw [if_neg (by omega)] at h
    cases h
theorem treeOf_of {ns : List Int} (hn : ∀ x ∈ ns, 0 ≤ x) (h1 : ns.length % 2 = 0) (h2 : ns.length / 2 ≤ 10) (h3 : ∀ k, 2 * k + 1 < ns.length → NodeFits ns 0 k) : (treeOf ns).isSome = true := by
  cases e : treeOf ns with
  | some t => rfl
  | none =>
    obtain ⟨k, g1, g2⟩ := treeOf_none e hn h1 h2
    exact absurd (h3 k g1) g2
theorem treeOf_len {ns : List Int} (hn : ∀ x ∈ ns, 0 ≤ x) (h : ns.length % 2 = 1 ∨ 10 < ns.length / 2) : treeOf ns = none := by
  cases e : treeOf ns with
  | none => rfl
  | some t =>
    have := treeOf_some hn e
    have h1 := this.len
    have h2 := this.few
    omega
theorem treeOf_bad {ns : List Int} (hn : ∀ x ∈ ns, 0 ≤ x) {k : Nat} (hk : 2 * k + 1 < ns.length) (h : ¬ NodeFits ns 0 k) : treeOf ns = none := by
  cases e : treeOf ns with
  | none => rfl
  | some t =>
    have T := treeOf_some hn e
    have h1 := T.len
    refine absurd ⟨_, _, T.par k (by omega), T.wt k (by omega), ?_, ?_⟩ h
    · have := T.wf k (by omega)
      omega
    · have := T.ww k (by omega)
      omega

theorem with_none {ns : List Int} (h : treeOf ns = none) (f : Tree → Result) : withTree (ns.map Int.toNat) f = number (-22) := by
  unfold treeOf at h
  unfold withTree
  cases e : parseTree 0 (ns.map Int.toNat) with
  | none => rfl
  | some t' =>
    rw [e] at h
    have h : (if 10 < t'.length then none else some t') = none := h
    by_cases c : 10 < t'.length
    · exact if_pos c
    · rw [if_neg c] at h; cases h
theorem with_some {ns : List Int} {t : Tree} (h : treeOf ns = some t) (f : Tree → Result) : withTree (ns.map Int.toNat) f = f t := by
  unfold treeOf at h
  unfold withTree
  cases e : parseTree 0 (ns.map Int.toNat) with
  | none => rw [e] at h; cases h
  | some t' =>
    rw [e] at h
    have h : (if 10 < t'.length then none else some t') = some t := h
    by_cases c : 10 < t'.length
    · rw [if_pos c] at h; cases h
    · rw [if_neg c] at h
      obtain rfl := Option.some.inj h
      exact if_neg c

/-! ### sets -/
theorem bit_shift (m k : Nat) : decide ((((m : Int) / 2 ^ k).toNat % 2 : Nat) = 1) = m.testBit k := by
  have e : ((m : Int) / 2 ^ k) = ((m / 2 ^ k : Nat) : Int) := by
    rw [Int.natCast_ediv, Int.natCast_pow] <;> rfl
  rw [e, Int.toNat_natCast, Nat.testBit_eq_decide_div_mod_eq]
/-- whether the parent is the root or in the set -/
def hasPar (tree : Tree) (m k : Nat) : Bool := match (nodeAt tree k).parent with
  | 0 => true
  | p + 1 => m.testBit p
def closedAt (tree : Tree) (m k : Nat) : Bool := !m.testBit k || hasPar tree m k
theorem isClosed_iff {tree : Tree} {m : Nat} : isClosed tree m = true ↔ ∀ k, k < tree.length → closedAt tree m k = true := by
  unfold isClosed
  rw [List.all_eq_true]
  exact ⟨fun h k hk => h k (List.mem_range.mpr hk), fun h k hk => h k (List.mem_range.mp hk)⟩
theorem isClosed_false {tree : Tree} {m k : Nat} (hk : k < tree.length) (h : closedAt tree m k = false) : isClosed tree m = false := by
  cases e : isClosed tree m with
  | false => rfl
  | true =>
    have := isClosed_iff.mp e k hk
    rw [h] at this
    cases this
def countTo (m i : Nat) : Nat := ((List.range i).filter fun k => m.testBit k).length
def weightTo (tree : Tree) (m i : Nat) : Nat := ((List.range i).map fun k => if m.testBit k then (nodeAt tree k).weight else 0).sum
theorem countTo_succ (m i : Nat) : countTo m (i + 1) = countTo m i + if m.testBit i then 1 else 0 := by
  unfold countTo
  rw [List.range_succ, List.filter_append, List.length_append]
  cases h : m.testBit i <;> simp [List.filter, h]
theorem weightTo_succ (tree : Tree) (m i : Nat) : weightTo tree m (i + 1) = weightTo tree m i + if m.testBit i then (nodeAt tree i).weight else 0 := by
  unfold weightTo
  rw [List.range_succ, List.map_append, List.sum_append]
  simp
theorem countTo_le (m : Nat) : ∀ i, countTo m i ≤ i
  | 0 => Nat.le_refl _
  | i + 1 => by
    rw [countTo_succ]
    have := countTo_le m i
    split <;> omega
theorem weightTo_le {tree : Tree} (m : Nat) (hw : ∀ k, k < tree.length → (nodeAt tree k).weight ≤ 99) : ∀ i, i ≤ tree.length → weightTo tree m i ≤ 99 * i
  | 0, _ => Nat.le_refl _
  | i + 1, h => by
    rw [weightTo_succ]
    have := weightTo_le m hw i (by omega)
    have := hw i (by omega)
    split <;> omega
theorem countOf_eq (tree : Tree) (m : Nat) : countOf tree m = countTo m tree.length := rfl
theorem weightOf_eq (tree : Tree) (m : Nat) : weightOf tree m = weightTo tree m tree.length := rfl

/-! ### objective, by the ways of the program -/
def costFits (p q : Int) : Bool := decide (p ≤ 999) && (decide (1 ≤ q) && decide (q ≤ 99))
theorem costFits_toNat {p q : Int} (hp : 0 ≤ p) (hq : 0 ≤ q) : costFits p q = false ↔ (999 < p.toNat ∨ q.toNat < 1 ∨ 99 < q.toNat) := by
  unfold costFits
  simp only [Bool.and_eq_false_iff, decide_eq_false_iff_not]
  omega
section
variable {p q mask : Int} {ns : List Int}
theorem obj_eq : PyKs592.objective p q mask ns = Ks592Neutral.integers (answer (.objective p.toNat q.toNat mask.toNat (ns.map Int.toNat))) := rfl
theorem obj_tree (h : treeOf ns = none) : PyKs592.objective p q mask ns = [-22] := by
  rw [obj_eq]
  unfold answer
  simp only []
  rw [with_none h] <;> rfl
theorem obj_cost {t : Tree} (h : treeOf ns = some t) (hp : 0 ≤ p) (hq : 0 ≤ q) (hc : costFits p q = false) : PyKs592.objective p q mask ns = [-22] := by
  rw [obj_eq]
  unfold answer
  simp only []
  rw [with_some h, withCost, if_pos ((costFits_toNat hp hq).mp hc)] <;> rfl
theorem cost_neg (hp : 0 ≤ p) (hq : 0 ≤ q) (hc : costFits p q = true) : ¬ (999 < p.toNat ∨ q.toNat < 1 ∨ 99 < q.toNat) := fun z => by
  rw [(costFits_toNat hp hq).mpr z] at hc
  cases hc
theorem obj_mask {t : Tree} (h : treeOf ns = some t) (hp : 0 ≤ p) (hq : 0 ≤ q) (hc : costFits p q = true) (hm : 2 ^ t.length ≤ mask.toNat) : PyKs592.objective p q mask ns = [-22] := by
  rw [obj_eq]
  unfold answer
  simp only []
  rw [with_some h, withCost, if_neg (cost_neg hp hq hc), withClosedSet, if_pos hm] <;> rfl
theorem obj_open {t : Tree} (h : treeOf ns = some t) (hp : 0 ≤ p) (hq : 0 ≤ q) (hc : costFits p q = true) (hm : ¬ 2 ^ t.length ≤ mask.toNat) (ho : isClosed t mask.toNat = false) : PyKs592.objective p q mask ns = [-33] := by
  rw [obj_eq]
  unfold answer
  simp only []
  rw [with_some h, withCost, if_neg (cost_neg hp hq hc), withClosedSet, if_neg hm, if_pos ho] <;> rfl
theorem obj_ok {t : Tree} (h : treeOf ns = some t) (hp : 0 ≤ p) (hq : 0 ≤ q) (hc : costFits p q = true) (hm : ¬ 2 ^ t.length ≤ mask.toNat) (ho : isClosed t mask.toNat = true) :
    PyKs592.objective p q mask ns = [0, q * (weightOf t mask.toNat : Nat) - p * (countOf t mask.toNat : Nat)] := by
  rw [obj_eq]
  unfold answer
  simp only []
  rw [with_some h, withCost, if_neg (cost_neg hp hq hc), withClosedSet, if_neg hm, if_neg (by rw [ho]; decide)]
  show [0, Ks592.objective t p.toNat q.toNat mask.toNat] = _
  unfold Ks592.objective
  rw [Int.natCast_mul, Int.natCast_mul, Int.toNat_of_nonneg hp, Int.toNat_of_nonneg hq]
end
end WL

namespace WL
open PySem PySem.Spec PyProof.Rows L2
/-! # the program: its statements by their places, and what the top has written -/
def top (i : Nat) : Stmt := PySem.Challenge.pw_weaklink_s02_objective.main.body.getD i (.Pass ⟨0, 0, 0, 0⟩)
abbrev s_node_total : Stmt := top 2
abbrev s_parent_entry : Stmt := top 3
abbrev s_node_weight : Stmt := top 4
abbrev s_node_fits : Stmt := top 13
abbrev s_tree_fits : Stmt := top 14
abbrev s_cost_fits : Stmt := top 15
abbrev s_mask_fits : Stmt := top 16
abbrev s_has_node : Stmt := top 18
abbrev s_has_parent : Stmt := top 19
abbrev s_is_closed : Stmt := top 20
abbrev s_set_count : Stmt := top 21
abbrev s_set_weight : Stmt := top 22
abbrev s_objective : Stmt := top 24
/-- a def of the top: where it stands, and how it takes its arguments -/
structure Kn (K : PySem.W.Frag) (mg : Str → Option Value) (x : Str) (st : Stmt) (ps : List Str) : Prop where
  ex : ∃ (f : Addr) (fd : FuncData), mg x = some (.ref f) ∧ Fun K x x st f fd ∧ Binds K fd ps []
/-- at a stands the list of a tree -/
def TreeAt (K : PySem.W.Frag) (H : Hp) (a : Addr) (tree : Ks592.Tree) : Prop := ∃ ns : List Int, SqL K H a (ns.map V.int) ∧ TreeOk ns tree
theorem at_nat {ns : List Int} {k : Nat} {z : Int} {i : Int} (e : i = (k : Int)) (h : ns[k]? = some z) : atI (ns.map V.int) i = some (V.int z) := by
  rw [e]
  refine atI_nat ?_
  rw [List.getElem?_map, h]
  rfl
theorem andV {c d : Bool} {Q : V → Hp → Prop} {H : Hp} (h : Q (.bl (c && d)) H) : if c = true then Q (.bl d) H else Q (.bl false) H := by
  cases c
  · rw [if_neg Bool.false_ne_true]
    exact h
  · rw [if_pos rfl]
    exact h
theorem orV {c d : Bool} {Q : V → Hp → Prop} {H : Hp} (h : Q (.bl (c || d)) H) : if c = true then Q (.bl true) H else Q (.bl d) H := by
  cases c
  · rw [if_neg Bool.false_ne_true]
    exact h
  · rw [if_pos rfl]
    exact h
/-- an if whose test is known -/
theorem itT {c : Bool} {A B : Prop} (hc : c = true) (h : A) : if c = true then A else B := by
  rw [if_pos hc]
  exact h
theorem itF {c : Bool} {A B : Prop} (hc : c = false) (h : B) : if c = true then A else B := by
  rw [hc, if_neg Bool.false_ne_true]
  exact h
theorem it2 {c : Bool} {A B : Prop} (h1 : c = true → A) (h2 : c = false → B) : if c = true then A else B := by
  cases c
  · exact itF rfl (h2 rfl)
  · exact itT rfl (h1 rfl)

structure Txt (K : PySem.W.Frag) (mg : Str → Option Value) : Prop where
  b_len : mg "len" = none
  b_range : mg "range" = none
  c_ROOT : ∃ t, mg "ROOT" = some (.int (0) t)
  c_OUTSIDE_LIMITS : ∃ t, mg "OUTSIDE_LIMITS" = some (.int (-22) t)
  c_NOT_CLOSED : ∃ t, mg "NOT_CLOSED" = some (.int (-33) t)
  c_MOST_NODES : ∃ t, mg "MOST_NODES" = some (.int (10) t)
  c_MOST_WEIGHT : ∃ t, mg "MOST_WEIGHT" = some (.int (99) t)
  c_MOST_P : ∃ t, mg "MOST_P" = some (.int (999) t)
  c_LEAST_Q : ∃ t, mg "LEAST_Q" = some (.int (1) t)
  c_MOST_Q : ∃ t, mg "MOST_Q" = some (.int (99) t)
  f_node_total : Kn K mg "node_total" s_node_total ["tree"]
  f_parent_entry : Kn K mg "parent_entry" s_parent_entry ["node", "tree"]
  f_node_weight : Kn K mg "node_weight" s_node_weight ["node", "tree"]
  f_node_fits : Kn K mg "node_fits" s_node_fits ["node", "tree"]
  f_tree_fits : Kn K mg "tree_fits" s_tree_fits ["tree"]
  f_cost_fits : Kn K mg "cost_fits" s_cost_fits ["p", "q"]
  f_mask_fits : Kn K mg "mask_fits" s_mask_fits ["mask", "tree"]
  f_has_node : Kn K mg "has_node" s_has_node ["mask", "node"]
  f_has_parent : Kn K mg "has_parent" s_has_parent ["mask", "node", "tree"]
  f_is_closed : Kn K mg "is_closed" s_is_closed ["mask", "tree"]
  f_set_count : Kn K mg "set_count" s_set_count ["mask", "tree"]
  f_set_weight : Kn K mg "set_weight" s_set_weight ["mask", "tree"]
  f_objective : Kn K mg "objective" s_objective ["p", "q", "mask", "tree"]
section
variable {P : Program} {w : World} {K : PySem.W.Frag} {mg : Str → Option Value} {base : Heap}
/-! node_total -/
def sp_node_total0 (K : PySem.W.Frag) : Sp := fun vs H Q _ => ∃ (a : Addr) (ns : List Int), vs = [.ref a] ∧ SqL K H a (ns.map V.int) ∧ Q (.int ((ns.length / 2 : Nat) : Int)) H
def sp_node_total (K : PySem.W.Frag) : Sp := fun vs H Q _ => ∃ (a : Addr) (tree : Ks592.Tree), vs = [.ref a] ∧ TreeAt K H a tree ∧ Q (.int ((tree.length : Nat) : Int)) H
theorem sc_node_total : FnScope ["tree"] ["tree"] (defScope s_node_total) := ⟨rfl, rfl, rfl, by decide +kernel, rfl, by decide +kernel, by decide +kernel⟩
theorem ok_node_total0 (T : Txt K mg) {f : Addr} {fd : FuncData} (F : Fun K "node_total" "node_total" s_node_total f fd) : FnOk P w K mg base CX0 1 f fd ["tree"] (sp_node_total0 K) := by
  refine F.ok sc_node_total (fun vs H Q E h => ?_) (fun cdv A outer s H vs Q E hr h => ?_)
  · obtain ⟨a, ns, rfl, _⟩ := h
    rfl
  · obtain ⟨a, ns, rfl, hS, q⟩ := h
    refine ⟨_, pss_one (ps_ret (pe_op op_fdiv (pe_callB call_len_seq (by rfl) T.b_len PySem.boot_len (pa_cons (pv 0) pa_nil)) pe_int)), ?_⟩
    refine ⟨_, rfl, _, _, rfl, .inl hS, _, _, rfl, rfl, ⟨by decide, by decide⟩, ?_⟩
    rw [List.length_map]
    exact q
theorem ok_node_total (T : Txt K mg) {f : Addr} {fd : FuncData} (F : Fun K "node_total" "node_total" s_node_total f fd) : FnOk P w K mg base CX0 1 f fd ["tree"] (sp_node_total K) :=
  (ok_node_total0 T F).imp fun vs H Q E ⟨a, tree, e, ⟨ns, hS, hT⟩, q⟩ => ⟨a, ns, e, hS, by
    rw [hT.len, show 2 * tree.length / 2 = tree.length by omega]
    exact q⟩

/-! parent_entry -/
def sp_parent_entry0 (K : PySem.W.Frag) : Sp := fun vs H Q _ => ∃ (k : Nat) (a : Addr) (ns : List Int) (z : Int), vs = [.int (k : Int), .ref a] ∧ SqL K H a (ns.map V.int) ∧ ns[2 * k]? = some z ∧ Q (.int z) H
def sp_parent_entry (K : PySem.W.Frag) : Sp := fun vs H Q _ => ∃ (k : Nat) (a : Addr) (tree : Ks592.Tree), vs = [.int (k : Int), .ref a] ∧ TreeAt K H a tree ∧ k < tree.length ∧ Q (.int (((Ks592.nodeAt tree k).parent : Nat) : Int)) H
theorem sc_parent_entry : FnScope ["node", "tree"] ["node", "tree"] (defScope s_parent_entry) := ⟨rfl, rfl, rfl, by decide +kernel, rfl, by decide +kernel, by decide +kernel⟩
theorem ok_parent_entry0 (T : Txt K mg) {f : Addr} {fd : FuncData} (F : Fun K "parent_entry" "parent_entry" s_parent_entry f fd) : FnOk P w K mg base CX0 1 f fd ["node", "tree"] (sp_parent_entry0 K) := by
  refine F.ok sc_parent_entry (fun vs H Q E h => ?_) (fun cdv A outer s H vs Q E hr h => ?_)
  · obtain ⟨k, a, ns, z, rfl, _⟩ := h
    rfl
  · obtain ⟨k, a, ns, z, rfl, hS, hz, q⟩ := h
    refine ⟨_, pss_one (ps_ret (pe_ix ix_list (pv 1) (pe_op op_mul pe_int (pv 0)) (fun _ _ => rfl))), ?_⟩
    exact ⟨_, rfl, _, rfl, _, _, rfl, rfl, .inl ⟨by decide, by decide⟩, _, _, _, _, rfl, rfl, hS, at_nat (by omega) hz, q⟩
theorem ok_parent_entry (T : Txt K mg) {f : Addr} {fd : FuncData} (F : Fun K "parent_entry" "parent_entry" s_parent_entry f fd) : FnOk P w K mg base CX0 1 f fd ["node", "tree"] (sp_parent_entry K) :=
  (ok_parent_entry0 T F).imp fun vs H Q E ⟨k, a, tree, e, ⟨ns, hS, hT⟩, hk, q⟩ => ⟨k, a, ns, _, e, hS, hT.par k hk, q⟩

/-! node_weight -/
def sp_node_weight0 (K : PySem.W.Frag) : Sp := fun vs H Q _ => ∃ (k : Nat) (a : Addr) (ns : List Int) (z : Int), vs = [.int (k : Int), .ref a] ∧ SqL K H a (ns.map V.int) ∧ ns[2 * k + 1]? = some z ∧ Q (.int z) H
def sp_node_weight (K : PySem.W.Frag) : Sp := fun vs H Q _ => ∃ (k : Nat) (a : Addr) (tree : Ks592.Tree), vs = [.int (k : Int), .ref a] ∧ TreeAt K H a tree ∧ k < tree.length ∧ Q (.int (((Ks592.nodeAt tree k).weight : Nat) : Int)) H
theorem sc_node_weight : FnScope ["node", "tree"] ["node", "tree"] (defScope s_node_weight) := ⟨rfl, rfl, rfl, by decide +kernel, rfl, by decide +kernel, by decide +kernel⟩
theorem ok_node_weight0 (T : Txt K mg) {f : Addr} {fd : FuncData} (F : Fun K "node_weight" "node_weight" s_node_weight f fd) : FnOk P w K mg base CX0 1 f fd ["node", "tree"] (sp_node_weight0 K) := by
  refine F.ok sc_node_weight (fun vs H Q E h => ?_) (fun cdv A outer s H vs Q E hr h => ?_)
  · obtain ⟨k, a, ns, z, rfl, _⟩ := h
    rfl
  · obtain ⟨k, a, ns, z, rfl, hS, hz, q⟩ := h
    refine ⟨_, pss_one (ps_ret (pe_ix ix_list (pv 1) (pe_op op_add (pe_op op_mul pe_int (pv 0)) pe_int) (fun _ _ => rfl))), ?_⟩
    exact ⟨_, rfl, _, rfl, _, _, rfl, rfl, .inl ⟨by decide, by decide⟩, _, _, rfl, rfl, _, _, _, _, rfl, rfl, hS, at_nat (by omega) hz, q⟩
theorem ok_node_weight (T : Txt K mg) {f : Addr} {fd : FuncData} (F : Fun K "node_weight" "node_weight" s_node_weight f fd) : FnOk P w K mg base CX0 1 f fd ["node", "tree"] (sp_node_weight K) :=
  (ok_node_weight0 T F).imp fun vs H Q E ⟨k, a, tree, e, ⟨ns, hS, hT⟩, hk, q⟩ => ⟨k, a, ns, _, e, hS, hT.wt k hk, q⟩

/-! node_fits -/
def sp_node_fits (K : PySem.W.Frag) : Sp := fun vs H Q _ => ∃ (k : Nat) (a : Addr) (ns : List Int), vs = [.int (k : Int), .ref a] ∧ SqL K H a (ns.map V.int) ∧ 2 * k + 1 < ns.length ∧ (∀ x ∈ ns, 0 ≤ x) ∧
  ∀ b : Bool, (b = true ↔ NodeFits ns 0 k) → Q (.bl b) H
theorem sc_node_fits : FnScope ["node", "tree", "parent_is_earlier"] ["node", "tree"] (defScope s_node_fits) := ⟨rfl, rfl, rfl, by decide +kernel, rfl, by decide +kernel, by decide +kernel⟩
theorem ok_node_fits (T : Txt K mg) {f : Addr} {fd : FuncData} (F : Fun K "node_fits" "node_fits" s_node_fits f fd) : FnOk P w K mg base CX0 2 f fd ["node", "tree"] (sp_node_fits K) := by
  obtain ⟨fp, fdp, mp, Fp, Bp⟩ := T.f_parent_entry.ex
  obtain ⟨fw, fdw, mw, Fw, Bw⟩ := T.f_node_weight.ex
  obtain ⟨tM, mM⟩ := T.c_MOST_WEIGHT
  have Gp : FnOk P w K mg base CX0 1 fp fdp ["node", "tree"] (sp_parent_entry0 K) := ok_parent_entry0 T Fp
  have Gw : FnOk P w K mg base CX0 1 fw fdw ["node", "tree"] (sp_node_weight0 K) := ok_node_weight0 T Fw
  refine F.ok sc_node_fits (fun vs H Q E h => ?_) (fun cdv A outer s H vs Q E hr h => ?_)
  · obtain ⟨k, a, ns, rfl, _⟩ := h
    rfl
  · obtain ⟨k, a, ns, rfl, hS, hk, hn, q⟩ := h
    obtain ⟨z, hz⟩ : ∃ z, ns[2 * k]? = some z := ⟨_, List.getElem?_eq_getElem (by omega)⟩
    obtain ⟨y, hy⟩ : ∃ y, ns[2 * k + 1]? = some y := ⟨_, List.getElem?_eq_getElem hk⟩
    have z0 : 0 ≤ z := hn z (List.mem_of_getElem? hz)
    have y0 : 0 ≤ y := hn y (List.mem_of_getElem? hy)
    have nf : NodeFits ns 0 k ↔ (z ≤ (k : Int) ∧ y ≤ 99) := by
      constructor
      · rintro ⟨a, b, h1, h2, h3, h4⟩
        rw [hz] at h1
        rw [hy] at h2
        cases h1
        cases h2
        exact ⟨by omega, h4⟩
      · rintro ⟨h3, h4⟩
        exact ⟨z, y, hz, hy, by omega, h4⟩
    refine ⟨_, pss_cons (ps_set (i := 2) sc_node_fits.nd rfl (Or.inl rfl) (pe_chain op_le op_le pe_int (pe_call Gp hr rfl mp Fp.kp Bp .nil pass0 (pa_cons (pv 0) (pa_cons (pv 1) pa_nil))) (pv 0)))
      (pss_one (ps_ret (pe_and (pv 2) (pe_one (pe_chain op_le op_le pe_int (pe_call Gw hr rfl mw Fw.kp Bw .nil pass0 (pa_cons (pv 0) (pa_cons (pv 1) pa_nil))) (pe_glob (v := .int 99) rfl mM ⟨_, rfl⟩)))))), ?_⟩
    refine ⟨_, rfl, _, rfl, k, a, ns, z, rfl, hS, hz, _, _, rfl, rfl, _, rfl, itT (decide_eq_true z0) ?_⟩
    refine ⟨_, rfl, _, _, rfl, rfl, _, rfl, _, rfl, it2 (fun c => ?_) (fun c => ?_)⟩
    · refine ⟨_, rfl, _, rfl, k, a, ns, y, rfl, hS, hy, _, _, rfl, rfl, _, rfl, itT (decide_eq_true y0) ?_⟩
      refine ⟨_, _, rfl, rfl, q _ ?_⟩
      rw [nf]
      have c' := of_decide_eq_true c
      exact ⟨fun h => ⟨c', of_decide_eq_true h⟩, fun h => decide_eq_true h.2⟩
    · refine q _ ?_
      rw [nf]
      have c' := of_decide_eq_false c
      exact ⟨fun h => Bool.noConfusion h, fun h => absurd h.1 c'⟩

/-! tree_fits -/
def sp_tree_fits (K : PySem.W.Frag) : Sp := fun vs H Q _ => ∃ (a : Addr) (ns : List Int), vs = [.ref a] ∧ SqL K H a (ns.map V.int) ∧ ns.length ≤ 23 ∧ (∀ x ∈ ns, 0 ≤ x) ∧ Q (.bl (treeOf ns).isSome) H
theorem sc_tree_fits : FnScope ["tree", "node"] ["tree"] (defScope s_tree_fits) := ⟨rfl, rfl, rfl, by decide +kernel, rfl, by decide +kernel, by decide +kernel⟩
theorem ok_tree_fits (T : Txt K mg) {f : Addr} {fd : FuncData} (F : Fun K "tree_fits" "tree_fits" s_tree_fits f fd) : FnOk P w K mg base CX0 3 f fd ["tree"] (sp_tree_fits K) := by
  obtain ⟨fn, fdn, mn, Fn, Bn⟩ := T.f_node_total.ex
  obtain ⟨ff, fdf, mf, Ff, Bf⟩ := T.f_node_fits.ex
  obtain ⟨tM, mM⟩ := T.c_MOST_NODES
  have Gn : FnOk P w K mg base CX0 1 fn fdn ["tree"] (sp_node_total0 K) := ok_node_total0 T Fn
  have Gf : FnOk P w K mg base CX0 2 ff fdf ["node", "tree"] (sp_node_fits K) := ok_node_fits T Ff
  refine F.ok sc_tree_fits (fun vs H Q E h => ?_) (fun cdv A outer s H vs Q E hr h => ?_)
  · obtain ⟨a, ns, rfl, _⟩ := h
    rfl
  · obtain ⟨a, ns, rfl, hS, hl, hn, q⟩ := h
    have hr1 : Room 1 _ := hr.mono (by decide)
    refine ⟨_, pss_cons (ps_if (PW.pt (pw_or (pt_cmp (pc_neI (pe_op op_mod (pe_callB call_len_seq (by rfl) T.b_len PySem.boot_len (pa_cons (pv 0) pa_nil)) pe_int) pe_int))
          (pw_or1 (pt_cmp (pc_gt (pe_call Gn hr1 rfl mn Fn.kp Bn .nil pass0 (pa_cons (pv 0) pa_nil)) (pe_glob (v := .int 10) rfl mM ⟨_, rfl⟩)))))) (pss_one (ps_ret pe_bl)) pss_nil)
      (pss_cons (ps_for PassesOwn.never rfl (pi_range1 rfl T.b_range (pa_cons (pe_call Gn hr1 rfl mn Fn.kp Bn .nil pass0 (pa_cons (pv 0) pa_nil)) pa_nil)) (pg_name (i := 1) sc_tree_fits.nd rfl (Or.inl rfl))
        (pss_one (ps_if (pt_not (pt_val (pe_call Gf hr rfl mf Ff.kp Bf .nil pass0 (pa_cons (pv 1) (pa_cons (pv 0) pa_nil))))) (pss_one (ps_ret pe_bl)) pss_nil)))
      (pss_one (ps_ret pe_bl))), ?_⟩
    refine ⟨_, rfl, _, _, rfl, .inl hS, _, _, rfl, rfl, (by show (0 : Int) < 2; decide), _, _, rfl, rfl, _, rfl, ?_⟩
    rw [List.length_map]
    refine it2 (fun c => itT rfl ?_) (fun c => ?_)
    · have c' : ¬ ((ns.length : Int) % 2 = 0) := by simpa using c
      rw [treeOf_len hn (.inl (by omega))] at q
      exact q
    have c' : ((ns.length : Int) % 2 = 0) := by simpa using c
    refine ⟨_, rfl, a, ns, rfl, hS, _, _, rfl, rfl, _, rfl, it2 (fun d => ?_) (fun d => ?_)⟩
    · have d' : (10 : Int) < ((ns.length / 2 : Nat) : Int) := of_decide_eq_true d
      rw [treeOf_len hn (.inr (by omega))] at q
      exact q
    have d' : ¬ (10 : Int) < ((ns.length / 2 : Nat) : Int) := of_decide_eq_false d
    refine ⟨_, rfl, a, ns, rfl, hS, _, rfl, by omega, by omega, for_range (fun i σ H' => ∃ v, σ = [some (.ref a), v] ∧ H' = H ∧ ∀ k, k < i → NodeFits ns 0 k) ⟨none, rfl, rfl, fun k hk => absurd hk (by omega)⟩ ?_ ?_⟩
    · rintro i σ H' hi ⟨v, rfl, rfl, hb⟩
      rw [Int.zero_add]
      have hi' : i < ns.length / 2 := by rw [Int.toNat_natCast] at hi; exact hi
      refine ⟨_, rfl, _, rfl, i, a, ns, rfl, hS, by omega, hn, fun b hb' => ⟨_, rfl, ?_⟩⟩
      cases b with
      | true =>
        refine itF rfl ⟨_, rfl, rfl, fun k hk => ?_⟩
        by_cases e : k = i
        · rw [e]
          exact hb'.mp rfl
        · exact hb k (by omega)
      | false =>
        refine itT rfl ?_
        rw [treeOf_bad hn (k := i) (by omega) (fun z => Bool.noConfusion (hb'.mpr z))] at q
        exact q
    · rintro σ H' ⟨v, rfl, rfl, hb⟩
      rw [treeOf_of hn (by omega) (by omega) (fun k hk => hb k (by rw [Int.toNat_natCast]; omega))] at q
      exact q

/-! cost_fits -/
def sp_cost_fits : Sp := fun vs H Q _ => ∃ (p q : Int), vs = [.int p, .int q] ∧ 0 ≤ p ∧ Q (.bl (costFits p q)) H
theorem sc_cost_fits : FnScope ["p", "q"] ["p", "q"] (defScope s_cost_fits) := ⟨rfl, rfl, rfl, by decide +kernel, rfl, by decide +kernel, by decide +kernel⟩
theorem ok_cost_fits (T : Txt K mg) {f : Addr} {fd : FuncData} (F : Fun K "cost_fits" "cost_fits" s_cost_fits f fd) : FnOk P w K mg base CX0 1 f fd ["p", "q"] sp_cost_fits := by
  obtain ⟨tP, mP⟩ := T.c_MOST_P
  obtain ⟨tL, mL⟩ := T.c_LEAST_Q
  obtain ⟨tQ, mQ⟩ := T.c_MOST_Q
  refine F.ok sc_cost_fits (fun vs H Q E h => ?_) (fun cdv A outer s H vs Q E hr h => ?_)
  · obtain ⟨p, q, rfl, _⟩ := h
    rfl
  · obtain ⟨p, q, rfl, hp, k⟩ := h
    refine ⟨_, pss_one (ps_ret (pe_and (pe_chain op_le op_le pe_int (pv 0) (pe_glob (v := .int 999) rfl mP ⟨_, rfl⟩)) (pe_one (pe_chain op_le op_le (pe_glob (v := .int 1) rfl mL ⟨_, rfl⟩) (pv 1) (pe_glob (v := .int 99) rfl mQ ⟨_, rfl⟩))))), ?_⟩
    unfold costFits at k
    refine ⟨_, rfl, _, _, rfl, rfl, _, rfl, itT (decide_eq_true hp) ?_⟩
    refine ⟨_, _, rfl, rfl, _, rfl, it2 (fun c => ?_) (fun c => ?_)⟩
    · rw [show decide (p ≤ 999) = true from c, Bool.true_and] at k
      refine ⟨_, rfl, _, _, rfl, rfl, _, rfl, it2 (fun d => ?_) (fun d => ?_)⟩
      · rw [show decide (1 ≤ q) = true from d, Bool.true_and] at k
        exact ⟨_, _, rfl, rfl, k⟩
      · rw [show decide (1 ≤ q) = false from d, Bool.false_and] at k
        exact k
    · rw [show decide (p ≤ 999) = false from c, Bool.false_and] at k
      exact k

/-! mask_fits -/
def sp_mask_fits (K : PySem.W.Frag) : Sp := fun vs H Q _ => ∃ (m : Int) (a : Addr) (tree : Ks592.Tree), vs = [.int m, .ref a] ∧ 0 ≤ m ∧ TreeAt K H a tree ∧ Q (.bl (decide (m < 2 ^ tree.length))) H
theorem sc_mask_fits : FnScope ["mask", "tree"] ["mask", "tree"] (defScope s_mask_fits) := ⟨rfl, rfl, rfl, by decide +kernel, rfl, by decide +kernel, by decide +kernel⟩
theorem ok_mask_fits (T : Txt K mg) {f : Addr} {fd : FuncData} (F : Fun K "mask_fits" "mask_fits" s_mask_fits f fd) : FnOk P w K mg base CX0 2 f fd ["mask", "tree"] (sp_mask_fits K) := by
  obtain ⟨fn, fdn, mn, Fn, Bn⟩ := T.f_node_total.ex
  have Gn : FnOk P w K mg base CX0 1 fn fdn ["tree"] (sp_node_total K) := ok_node_total T Fn
  refine F.ok sc_mask_fits (fun vs H Q E h => ?_) (fun cdv A outer s H vs Q E hr h => ?_)
  · obtain ⟨m, a, tree, rfl, _⟩ := h
    rfl
  · obtain ⟨m, a, tree, rfl, hm, hT, q⟩ := h
    refine ⟨_, pss_one (ps_ret (pe_chain op_le op_lt pe_int (pv 0) (pe_op op_oneShl pe_int (pe_call Gn hr rfl mn Fn.kp Bn .nil pass0 (pa_cons (pv 1) pa_nil))))), ?_⟩
    have few : tree.length ≤ 10 := by
      obtain ⟨ns, _, h⟩ := hT
      exact h.few
    refine ⟨_, rfl, _, _, rfl, rfl, _, rfl, itT (decide_eq_true hm) ?_⟩
    exact ⟨_, rfl, a, tree, rfl, hT, tree.length, rfl, rfl, by omega, _, _, rfl, rfl, q⟩

/-! has_node -/
def sp_has_node : Sp := fun vs H Q _ => ∃ (m k : Nat), vs = [.int (m : Int), .int (k : Int)] ∧ Q (.bl (m.testBit k)) H
theorem sc_has_node : FnScope ["mask", "node"] ["mask", "node"] (defScope s_has_node) := ⟨rfl, rfl, rfl, by decide +kernel, rfl, by decide +kernel, by decide +kernel⟩
theorem bit_eq (m k : Nat) : decide (((m / 2 ^ k % 2 : Nat) : Int) = 1) = m.testBit k := by
  rw [Nat.testBit_eq_decide_div_mod_eq]
  exact decide_eq_decide.mpr (by omega)
theorem shr_nat (m k : Nat) : (V.int ((m : Int) / 2 ^ k)) = V.int ((m / 2 ^ k : Nat) : Int) := by
  rw [Int.natCast_ediv, Int.natCast_pow] <;> rfl
theorem ok_has_node (T : Txt K mg) {f : Addr} {fd : FuncData} (F : Fun K "has_node" "has_node" s_has_node f fd) : FnOk P w K mg base CX0 1 f fd ["mask", "node"] sp_has_node := by
  refine F.ok sc_has_node (fun vs H Q E h => ?_) (fun cdv A outer s H vs Q E hr h => ?_)
  · obtain ⟨m, k, rfl, _⟩ := h
    rfl
  · obtain ⟨m, k, rfl, q⟩ := h
    refine ⟨_, pss_one (ps_ret (pe_cmp (pc_eqI (pe_op op_odd (pe_op op_shrN (pv 0) (pv 1)) pe_int) pe_int) rfl)), ?_⟩
    refine ⟨_, rfl, _, rfl, _, k, rfl, rfl, m / 2 ^ k, shr_nat m k, rfl, _, _, rfl, rfl, ?_⟩
    show Q (.bl (decide (((m / 2 ^ k % 2 : Nat) : Int) = 1))) H
    rw [bit_eq]
    exact q

/-! has_parent -/
def sp_has_parent (K : PySem.W.Frag) : Sp := fun vs H Q _ => ∃ (m k : Nat) (a : Addr) (tree : Ks592.Tree), vs = [.int (m : Int), .int (k : Int), .ref a] ∧ TreeAt K H a tree ∧ k < tree.length ∧ Q (.bl (hasPar tree m k)) H
theorem sc_has_parent : FnScope ["mask", "node", "tree", "entry"] ["mask", "node", "tree"] (defScope s_has_parent) := ⟨rfl, rfl, rfl, by decide +kernel, rfl, by decide +kernel, by decide +kernel⟩
theorem ok_has_parent (T : Txt K mg) {f : Addr} {fd : FuncData} (F : Fun K "has_parent" "has_parent" s_has_parent f fd) : FnOk P w K mg base CX0 2 f fd ["mask", "node", "tree"] (sp_has_parent K) := by
  obtain ⟨fp, fdp, mp, Fp, Bp⟩ := T.f_parent_entry.ex
  obtain ⟨fh, fdh, mh, Fh, Bh⟩ := T.f_has_node.ex
  obtain ⟨tR, mR⟩ := T.c_ROOT
  have Gp : FnOk P w K mg base CX0 1 fp fdp ["node", "tree"] (sp_parent_entry K) := ok_parent_entry T Fp
  have Gh : FnOk P w K mg base CX0 1 fh fdh ["mask", "node"] sp_has_node := ok_has_node T Fh
  refine F.ok sc_has_parent (fun vs H Q E h => ?_) (fun cdv A outer s H vs Q E hr h => ?_)
  · obtain ⟨m, k, a, tree, rfl, _⟩ := h
    rfl
  · obtain ⟨m, k, a, tree, rfl, hT, hk, q⟩ := h
    refine ⟨_, pss_cons (ps_set (i := 3) sc_has_parent.nd rfl (Or.inl rfl) (pe_call Gp hr rfl mp Fp.kp Bp .nil pass0 (pa_cons (pv 1) (pa_cons (pv 2) pa_nil))))
      (pss_one (ps_ret (pe_or (pe_cmp (pc_eqI (pv 3) (pe_glob (v := .int 0) rfl mR ⟨_, rfl⟩)) rfl) (pe_one (pe_call Gh hr rfl mh Fh.kp Bh .nil pass0 (pa_cons (pv 0) (pa_cons (pe_op op_sub (pv 3) pe_int) pa_nil))))))), ?_⟩
    refine ⟨_, rfl, _, rfl, k, a, tree, rfl, hT, hk, ?_⟩
    refine ⟨_, rfl, _, _, rfl, rfl, _, rfl, ?_⟩
    unfold hasPar at q
    cases e : (Ks592.nodeAt tree k).parent with
    | zero =>
      rw [e] at q
      exact itT (decide_eq_true (show ((0 : Nat) : Int) = 0 from rfl)) q
    | succ p =>
      rw [e] at q
      refine itF (decide_eq_false (show ¬ ((p + 1 : Nat) : Int) = 0 by omega)) ?_
      refine ⟨_, rfl, _, rfl, _, _, rfl, rfl, m, p, ?_, q⟩
      show [V.int (m : Int), V.int (((p + 1 : Nat) : Int) - 1)] = _
      rw [show ((p + 1 : Nat) : Int) - 1 = (p : Int) by omega]

/-! is_closed -/
def sp_is_closed (K : PySem.W.Frag) : Sp := fun vs H Q _ => ∃ (m : Nat) (a : Addr) (tree : Ks592.Tree), vs = [.int (m : Int), .ref a] ∧ TreeAt K H a tree ∧ Q (.bl (Ks592.isClosed tree m)) H
theorem sc_is_closed : FnScope ["mask", "tree", "node"] ["mask", "tree"] (defScope s_is_closed) := ⟨rfl, rfl, rfl, by decide +kernel, rfl, by decide +kernel, by decide +kernel⟩
theorem few_of {H : Hp} {a : Addr} {tree : Ks592.Tree} (h : TreeAt K H a tree) : tree.length ≤ 10 := by
  obtain ⟨ns, _, h⟩ := h
  exact h.few
theorem ok_is_closed (T : Txt K mg) {f : Addr} {fd : FuncData} (F : Fun K "is_closed" "is_closed" s_is_closed f fd) : FnOk P w K mg base CX0 3 f fd ["mask", "tree"] (sp_is_closed K) := by
  obtain ⟨fn, fdn, mn, Fn, Bn⟩ := T.f_node_total.ex
  obtain ⟨fh, fdh, mh, Fh, Bh⟩ := T.f_has_node.ex
  obtain ⟨fp, fdp, mp, Fp, Bp⟩ := T.f_has_parent.ex
  have Gn : FnOk P w K mg base CX0 1 fn fdn ["tree"] (sp_node_total K) := ok_node_total T Fn
  have Gh : FnOk P w K mg base CX0 1 fh fdh ["mask", "node"] sp_has_node := ok_has_node T Fh
  have Gp : FnOk P w K mg base CX0 2 fp fdp ["mask", "node", "tree"] (sp_has_parent K) := ok_has_parent T Fp
  refine F.ok sc_is_closed (fun vs H Q E h => ?_) (fun cdv A outer s H vs Q E hr h => ?_)
  · obtain ⟨m, a, tree, rfl, _⟩ := h
    rfl
  · obtain ⟨m, a, tree, rfl, hT, q⟩ := h
    have few := few_of hT
    have hr1 : Room 1 _ := hr.mono (by decide)
    refine ⟨_, pss_cons (ps_for PassesOwn.never rfl (pi_range1 rfl T.b_range (pa_cons (pe_call Gn hr1 rfl mn Fn.kp Bn .nil pass0 (pa_cons (pv 1) pa_nil)) pa_nil)) (pg_name (i := 2) sc_is_closed.nd rfl (Or.inl rfl))
        (pss_one (ps_if (PW.pt (pw_and (pt_val (pe_call Gh hr1 rfl mh Fh.kp Bh .nil pass0 (pa_cons (pv 0) (pa_cons (pv 2) pa_nil))))
          (pw_and1 (pt_not (pt_val (pe_call Gp hr rfl mp Fp.kp Bp .nil pass0 (pa_cons (pv 0) (pa_cons (pv 2) (pa_cons (pv 1) pa_nil))))))))) (pss_one (ps_ret pe_bl)) pss_nil)))
      (pss_one (ps_ret pe_bl)), ?_⟩
    refine ⟨_, rfl, a, tree, rfl, hT, _, rfl, by omega, by omega, for_range (fun i σ H' => ∃ v, σ = [some (.int (m : Int)), some (.ref a), v] ∧ H' = H ∧ ∀ k, k < i → closedAt tree m k = true) ⟨none, rfl, rfl, fun k hk => absurd hk (by omega)⟩ ?_ ?_⟩
    · rintro i σ H' hi ⟨v, rfl, rfl, hb⟩
      rw [Int.zero_add]
      have hi' : i < tree.length := by rw [Int.toNat_natCast] at hi; exact hi
      have more : closedAt tree m i = true → ∀ k, k < i + 1 → closedAt tree m k = true := fun z k hk => by
        by_cases e : k = i
        · rw [e]
          exact z
        · exact hb k (by omega)
      refine ⟨_, rfl, _, rfl, m, i, rfl, _, rfl, it2 (fun c => ?_) (fun c => ?_)⟩
      · refine ⟨_, rfl, _, rfl, _, rfl, m, i, a, tree, rfl, hT, hi', _, rfl, it2 (fun d => ?_) (fun d => ?_)⟩
        · have d' : hasPar tree m i = false := by simpa using d
          rw [isClosed_false hi' (by unfold closedAt; rw [c, d']; rfl)] at q
          exact q
        · have d' : hasPar tree m i = true := by simpa using d
          exact ⟨_, rfl, rfl, more (by unfold closedAt; rw [d', Bool.or_true])⟩
      · exact itF rfl ⟨_, rfl, rfl, more (by unfold closedAt; rw [c]; rfl)⟩
    · rintro σ H' ⟨v, rfl, rfl, hb⟩
      rw [isClosed_iff.mpr (fun k hk => hb k (by rw [Int.toNat_natCast]; exact hk))] at q
      exact q

/-! set_count -/
def sp_set_count (K : PySem.W.Frag) : Sp := fun vs H Q _ => ∃ (m : Nat) (a : Addr) (tree : Ks592.Tree), vs = [.int (m : Int), .ref a] ∧ TreeAt K H a tree ∧ Q (.int ((Ks592.countOf tree m : Nat) : Int)) H
theorem sc_set_count : FnScope ["mask", "tree", "count", "node"] ["mask", "tree"] (defScope s_set_count) := ⟨rfl, rfl, rfl, by decide +kernel, rfl, by decide +kernel, by decide +kernel⟩
theorem ok_set_count (T : Txt K mg) {f : Addr} {fd : FuncData} (F : Fun K "set_count" "set_count" s_set_count f fd) : FnOk P w K mg base CX0 2 f fd ["mask", "tree"] (sp_set_count K) := by
  obtain ⟨fn, fdn, mn, Fn, Bn⟩ := T.f_node_total.ex
  obtain ⟨fh, fdh, mh, Fh, Bh⟩ := T.f_has_node.ex
  have Gn : FnOk P w K mg base CX0 1 fn fdn ["tree"] (sp_node_total K) := ok_node_total T Fn
  have Gh : FnOk P w K mg base CX0 1 fh fdh ["mask", "node"] sp_has_node := ok_has_node T Fh
  refine F.ok sc_set_count (fun vs H Q E h => ?_) (fun cdv A outer s H vs Q E hr h => ?_)
  · obtain ⟨m, a, tree, rfl, _⟩ := h
    rfl
  · obtain ⟨m, a, tree, rfl, hT, q⟩ := h
    have few : tree.length ≤ 10 := by
      obtain ⟨ns, _, h⟩ := hT
      exact h.few
    refine ⟨_, pss_cons (ps_set (i := 2) sc_set_count.nd rfl (Or.inl rfl) pe_int)
      (pss_cons (ps_for PassesOwn.never rfl (pi_range1 rfl T.b_range (pa_cons (pe_call Gn hr rfl mn Fn.kp Bn .nil pass0 (pa_cons (pv 1) pa_nil)) pa_nil)) (pg_name (i := 3) sc_set_count.nd rfl (Or.inl rfl))
        (pss_one (ps_if (pt_val (pe_call Gh hr rfl mh Fh.kp Bh .nil pass0 (pa_cons (pv 0) (pa_cons (pv 3) pa_nil)))) (pss_one (ps_aug (i := 2) sc_set_count.nd rfl (Or.inl rfl) pe_int ip_add)) pss_nil)))
      (pss_one (ps_ret (pv 2)))), ?_⟩
    refine ⟨_, rfl, a, tree, rfl, hT, _, rfl, by omega, by omega, for_range (fun i σ H' => ∃ v, σ = [some (.int (m : Int)), some (.ref a), some (.int ((countTo m i : Nat) : Int)), v] ∧ H' = H) ⟨none, rfl, rfl⟩ ?_ ?_⟩
    · rintro i σ H' hi ⟨v, rfl, rfl⟩
      rw [Int.zero_add, countTo_succ]
      refine ⟨_, rfl, _, rfl, m, i, rfl, _, rfl, it2 (fun c => ?_) (fun c => ?_)⟩
      · rw [if_pos c]
        exact ⟨_, rfl, _, _, rfl, rfl, _, rfl, rfl⟩
      · rw [if_neg (by rw [c]; decide)]
        exact ⟨_, rfl, rfl⟩
    · rintro σ H' ⟨v, rfl, rfl⟩
      refine ⟨_, rfl, ?_⟩
      rw [Int.toNat_natCast]
      exact q

/-! set_weight -/
def sp_set_weight (K : PySem.W.Frag) : Sp := fun vs H Q _ => ∃ (m : Nat) (a : Addr) (tree : Ks592.Tree), vs = [.int (m : Int), .ref a] ∧ TreeAt K H a tree ∧ Q (.int ((Ks592.weightOf tree m : Nat) : Int)) H
theorem sc_set_weight : FnScope ["mask", "tree", "weight", "node"] ["mask", "tree"] (defScope s_set_weight) := ⟨rfl, rfl, rfl, by decide +kernel, rfl, by decide +kernel, by decide +kernel⟩
theorem ok_set_weight (T : Txt K mg) {f : Addr} {fd : FuncData} (F : Fun K "set_weight" "set_weight" s_set_weight f fd) : FnOk P w K mg base CX0 2 f fd ["mask", "tree"] (sp_set_weight K) := by
  obtain ⟨fn, fdn, mn, Fn, Bn⟩ := T.f_node_total.ex
  obtain ⟨fh, fdh, mh, Fh, Bh⟩ := T.f_has_node.ex
  obtain ⟨fw, fdw, mw, Fw, Bw⟩ := T.f_node_weight.ex
  have Gn : FnOk P w K mg base CX0 1 fn fdn ["tree"] (sp_node_total K) := ok_node_total T Fn
  have Gh : FnOk P w K mg base CX0 1 fh fdh ["mask", "node"] sp_has_node := ok_has_node T Fh
  have Gw : FnOk P w K mg base CX0 1 fw fdw ["node", "tree"] (sp_node_weight K) := ok_node_weight T Fw
  refine F.ok sc_set_weight (fun vs H Q E h => ?_) (fun cdv A outer s H vs Q E hr h => ?_)
  · obtain ⟨m, a, tree, rfl, _⟩ := h
    rfl
  · obtain ⟨m, a, tree, rfl, hT, q⟩ := h
    have few : tree.length ≤ 10 := by
      obtain ⟨ns, _, h⟩ := hT
      exact h.few
    refine ⟨_, pss_cons (ps_set (i := 2) sc_set_weight.nd rfl (Or.inl rfl) pe_int)
      (pss_cons (ps_for PassesOwn.never rfl (pi_range1 rfl T.b_range (pa_cons (pe_call Gn hr rfl mn Fn.kp Bn .nil pass0 (pa_cons (pv 1) pa_nil)) pa_nil)) (pg_name (i := 3) sc_set_weight.nd rfl (Or.inl rfl))
        (pss_one (ps_if (pt_val (pe_call Gh hr rfl mh Fh.kp Bh .nil pass0 (pa_cons (pv 0) (pa_cons (pv 3) pa_nil)))) (pss_one (ps_aug (i := 2) sc_set_weight.nd rfl (Or.inl rfl) (pe_call Gw hr rfl mw Fw.kp Bw .nil pass0 (pa_cons (pv 3) (pa_cons (pv 1) pa_nil))) ip_add)) pss_nil)))
      (pss_one (ps_ret (pv 2)))), ?_⟩
    refine ⟨_, rfl, a, tree, rfl, hT, _, rfl, by omega, by omega, for_range (fun i σ H' => ∃ v, σ = [some (.int (m : Int)), some (.ref a), some (.int ((weightTo tree m i : Nat) : Int)), v] ∧ H' = H) ⟨none, rfl, rfl⟩ ?_ ?_⟩
    · rintro i σ H' hi ⟨v, rfl, rfl⟩
      have hi' : i < tree.length := by rw [Int.toNat_natCast] at hi; exact hi
      rw [Int.zero_add, weightTo_succ]
      refine ⟨_, rfl, _, rfl, m, i, rfl, _, rfl, it2 (fun c => ?_) (fun c => ?_)⟩
      · rw [if_pos c]
        exact ⟨_, rfl, _, rfl, _, rfl, i, a, tree, rfl, hT, hi', _, _, rfl, rfl, _, rfl, rfl⟩
      · rw [if_neg (by rw [c]; decide)]
        exact ⟨_, rfl, rfl⟩
    · rintro σ H' ⟨v, rfl, rfl⟩
      refine ⟨_, rfl, ?_⟩
      rw [Int.toNat_natCast]
      exact q

/-! objective -/
def sp_objective (K : PySem.W.Frag) : Sp := fun vs H Q _ => ∃ (p q m : Int) (a : Addr) (ns : List Int), vs = [.int p, .int q, .int m, .ref a] ∧ SqL K H a (ns.map V.int) ∧ ns.length ≤ 23 ∧ (∀ x ∈ ns, 0 ≤ x) ∧ 0 ≤ p ∧ 0 ≤ q ∧ 0 ≤ m ∧
  ∀ (H' : Hp) (r : Addr), H' r = some (.lst ((PyKs592.objective p q m ns).map V.int)) → Q (.ref r) H'
theorem sc_objective : FnScope ["p", "q", "mask", "tree"] ["p", "q", "mask", "tree"] (defScope s_objective) := ⟨rfl, rfl, rfl, by decide +kernel, rfl, by decide +kernel, by decide +kernel⟩
theorem ok_objective (T : Txt K mg) {f : Addr} {fd : FuncData} (F : Fun K "objective" "objective" s_objective f fd) : FnOk P w K mg base CX0 4 f fd ["p", "q", "mask", "tree"] (sp_objective K) := by
  obtain ⟨ft, fdt, mt, Ft, Bt⟩ := T.f_tree_fits.ex
  obtain ⟨fc, fdc, mc, Fc, Bc⟩ := T.f_cost_fits.ex
  obtain ⟨fm, fdm, mm, Fm, Bm⟩ := T.f_mask_fits.ex
  obtain ⟨fi, fdi, mi, Fi, Bi⟩ := T.f_is_closed.ex
  obtain ⟨fw, fdw, mw, Fw, Bw⟩ := T.f_set_weight.ex
  obtain ⟨fn, fdn, mn, Fn, Bn⟩ := T.f_set_count.ex
  obtain ⟨tO, mO⟩ := T.c_OUTSIDE_LIMITS
  obtain ⟨tN, mN⟩ := T.c_NOT_CLOSED
  have Gt : FnOk P w K mg base CX0 3 ft fdt ["tree"] (sp_tree_fits K) := ok_tree_fits T Ft
  have Gc : FnOk P w K mg base CX0 1 fc fdc ["p", "q"] sp_cost_fits := ok_cost_fits T Fc
  have Gm : FnOk P w K mg base CX0 2 fm fdm ["mask", "tree"] (sp_mask_fits K) := ok_mask_fits T Fm
  have Gi : FnOk P w K mg base CX0 3 fi fdi ["mask", "tree"] (sp_is_closed K) := ok_is_closed T Fi
  have Gw : FnOk P w K mg base CX0 2 fw fdw ["mask", "tree"] (sp_set_weight K) := ok_set_weight T Fw
  have Gn : FnOk P w K mg base CX0 2 fn fdn ["mask", "tree"] (sp_set_count K) := ok_set_count T Fn
  refine F.ok sc_objective (fun vs H Q E h => ?_) (fun cdv A outer s H vs Q E hr h => ?_)
  · obtain ⟨p, q, m, a, ns, rfl, _⟩ := h
    rfl
  · obtain ⟨p, q, m, a, ns, rfl, hS, hl, hn, hp, hq, hm, k⟩ := h
    have hr1 : Room 1 _ := hr.mono (by decide)
    have hr2 : Room 2 _ := hr.mono (by decide)
    refine ⟨_, pss_cons (ps_if (PW.pt (pw_or (pt_not (pt_val (pe_call Gt hr rfl mt Ft.kp Bt .nil pass0 (pa_cons (pv 3) pa_nil))))
          (pw_or (pt_not (pt_val (pe_call Gc hr1 rfl mc Fc.kp Bc .nil pass0 (pa_cons (pv 0) (pa_cons (pv 1) pa_nil)))))
          (pw_or1 (pt_not (pt_val (pe_call Gm hr2 rfl mm Fm.kp Bm .nil pass0 (pa_cons (pv 2) (pa_cons (pv 3) pa_nil))))))))) (pss_one (ps_ret (pe_lst (pa_cons (pe_glob (v := .int (-22)) rfl mO ⟨_, rfl⟩) pa_nil)))) pss_nil)
      (pss_cons (ps_if (pt_not (pt_val (pe_call Gi hr rfl mi Fi.kp Bi .nil pass0 (pa_cons (pv 2) (pa_cons (pv 3) pa_nil))))) (pss_one (ps_ret (pe_lst (pa_cons (pe_glob (v := .int (-33)) rfl mN ⟨_, rfl⟩) pa_nil)))) pss_nil)
      (pss_one (ps_ret (pe_lst (pa_cons pe_int (pa_cons (pe_op op_sub (pe_op op_mul (pv 1) (pe_call Gw hr2 rfl mw Fw.kp Bw .nil pass0 (pa_cons (pv 2) (pa_cons (pv 3) pa_nil))))
        (pe_op op_mul (pv 0) (pe_call Gn hr2 rfl mn Fn.kp Bn .nil pass0 (pa_cons (pv 2) (pa_cons (pv 3) pa_nil))))) pa_nil)))))), ?_⟩
    refine ⟨_, rfl, a, ns, rfl, hS, hl, hn, _, rfl, ?_⟩
    cases et : treeOf ns with
    | none =>
      refine itT rfl (itT rfl ⟨(by show 1 ≤ sizeLine; decide), fun r _ => k _ r ?_⟩)
      rw [obj_tree et]
      exact upd_same
    | some tree =>
    have hT : TreeAt K H a tree := ⟨ns, hS, treeOf_some hn et⟩
    refine itF rfl ⟨_, rfl, _, rfl, p, q, rfl, hp, _, rfl, it2 (fun c => ?_) (fun c => ?_)⟩
    · refine itT rfl ⟨(by show 1 ≤ sizeLine; decide), fun r _ => k _ r ?_⟩
      rw [obj_cost et hp hq (by simpa using c)]
      exact upd_same
    have hc : costFits p q = true := by simpa using c
    have hb := cost_neg hp hq hc
    refine ⟨_, rfl, _, rfl, m, a, tree, rfl, hm, hT, _, rfl, it2 (fun d => ?_) (fun d => ?_)⟩
    · refine ⟨(by show 1 ≤ sizeLine; decide), fun r _ => k _ r ?_⟩
      have d' : ¬ m < 2 ^ tree.length := by simpa using d
      rw [obj_mask et hp hq hc (by
        have e : ((2 ^ tree.length : Nat) : Int) = 2 ^ tree.length := Int.natCast_pow 2 _
        omega)]
      exact upd_same
    have d' : m < 2 ^ tree.length := by simpa using d
    have dm : ¬ 2 ^ tree.length ≤ m.toNat := by
      have e : ((2 ^ tree.length : Nat) : Int) = 2 ^ tree.length := Int.natCast_pow 2 _
      omega
    have em : m = ((m.toNat : Nat) : Int) := (Int.toNat_of_nonneg hm).symm
    refine ⟨_, rfl, _, rfl, m.toNat, a, tree, ?_, hT, _, rfl, it2 (fun o => ?_) (fun o => ?_)⟩
    · rw [← em]
      rfl
    · refine ⟨(by show 1 ≤ sizeLine; decide), fun r _ => k _ r ?_⟩
      rw [obj_open et hp hq hc dm (by simpa using o)]
      exact upd_same
    refine ⟨_, rfl, _, rfl, _, rfl, m.toNat, a, tree, ?_, hT, _, _, rfl, rfl, .inl ⟨by omega, by omega⟩, _, rfl, _, rfl, _, rfl, m.toNat, a, tree, ?_, hT, _, _, rfl, rfl, .inl ⟨by omega, by omega⟩, _, _, rfl, rfl, (by show 2 ≤ sizeLine; decide), fun r _ => k _ r ?_⟩
    · rw [← em]
      rfl
    · rw [← em]
      rfl
    rw [obj_ok et hp hq hc dm (by simpa using o)]
    exact upd_same

end
theorem all_mk {P : Program} {w : World} {K : PySem.W.Frag} {h : Heap} {mg : Str → Option Value} {fa : Addr} (X : K.In h) (G : h.Ns mainGlobals mg) (hfa : mg "objective" = some (.ref fa))
  (b_len : PySem.W.nsIn K mainGlobals "len" = some none)
  (b_range : PySem.W.nsIn K mainGlobals "range" = some none)
  {t_ROOT : Tok} (c_ROOT : PySem.W.nsIn K mainGlobals "ROOT" = some (some (.int (0) t_ROOT)))
  {t_OUTSIDE_LIMITS : Tok} (c_OUTSIDE_LIMITS : PySem.W.nsIn K mainGlobals "OUTSIDE_LIMITS" = some (some (.int (-22) t_OUTSIDE_LIMITS)))
  {t_NOT_CLOSED : Tok} (c_NOT_CLOSED : PySem.W.nsIn K mainGlobals "NOT_CLOSED" = some (some (.int (-33) t_NOT_CLOSED)))
  {t_MOST_NODES : Tok} (c_MOST_NODES : PySem.W.nsIn K mainGlobals "MOST_NODES" = some (some (.int (10) t_MOST_NODES)))
  {t_MOST_WEIGHT : Tok} (c_MOST_WEIGHT : PySem.W.nsIn K mainGlobals "MOST_WEIGHT" = some (some (.int (99) t_MOST_WEIGHT)))
  {t_MOST_P : Tok} (c_MOST_P : PySem.W.nsIn K mainGlobals "MOST_P" = some (some (.int (999) t_MOST_P)))
  {t_LEAST_Q : Tok} (c_LEAST_Q : PySem.W.nsIn K mainGlobals "LEAST_Q" = some (some (.int (1) t_LEAST_Q)))
  {t_MOST_Q : Tok} (c_MOST_Q : PySem.W.nsIn K mainGlobals "MOST_Q" = some (some (.int (99) t_MOST_Q)))
  {f_node_total : Addr} {od_node_total an_node_total : Option Addr} {sl_node_total : Array (Option Value)} {oc_node_total kV_node_total dc_node_total pm_node_total cd_node_total ct_node_total : Value}
  (a_node_total : PySem.W.nsIn K mainGlobals "node_total" = some (some (.ref f_node_total)))
  (l_node_total : K.lookup f_node_total = some ⟨oc_node_total, od_node_total, .func (PySem.W.fnOf "node_total" "node_total" (defArgs s_node_total) (defBody s_node_total) (defScope s_node_total) .none kV_node_total dc_node_total pm_node_total an_node_total cd_node_total ct_node_total), sl_node_total⟩)
  (d_node_total : PySem.W.codeIn K cd_node_total "node_total" = true) (k_node_total : PySem.W.keepIn K (.ref f_node_total) = true)
  {f_parent_entry : Addr} {od_parent_entry an_parent_entry : Option Addr} {sl_parent_entry : Array (Option Value)} {oc_parent_entry kV_parent_entry dc_parent_entry pm_parent_entry cd_parent_entry ct_parent_entry : Value}
  (a_parent_entry : PySem.W.nsIn K mainGlobals "parent_entry" = some (some (.ref f_parent_entry)))
  (l_parent_entry : K.lookup f_parent_entry = some ⟨oc_parent_entry, od_parent_entry, .func (PySem.W.fnOf "parent_entry" "parent_entry" (defArgs s_parent_entry) (defBody s_parent_entry) (defScope s_parent_entry) .none kV_parent_entry dc_parent_entry pm_parent_entry an_parent_entry cd_parent_entry ct_parent_entry), sl_parent_entry⟩)
  (d_parent_entry : PySem.W.codeIn K cd_parent_entry "parent_entry" = true) (k_parent_entry : PySem.W.keepIn K (.ref f_parent_entry) = true)
  {f_node_weight : Addr} {od_node_weight an_node_weight : Option Addr} {sl_node_weight : Array (Option Value)} {oc_node_weight kV_node_weight dc_node_weight pm_node_weight cd_node_weight ct_node_weight : Value}
  (a_node_weight : PySem.W.nsIn K mainGlobals "node_weight" = some (some (.ref f_node_weight)))
  (l_node_weight : K.lookup f_node_weight = some ⟨oc_node_weight, od_node_weight, .func (PySem.W.fnOf "node_weight" "node_weight" (defArgs s_node_weight) (defBody s_node_weight) (defScope s_node_weight) .none kV_node_weight dc_node_weight pm_node_weight an_node_weight cd_node_weight ct_node_weight), sl_node_weight⟩)
  (d_node_weight : PySem.W.codeIn K cd_node_weight "node_weight" = true) (k_node_weight : PySem.W.keepIn K (.ref f_node_weight) = true)
  {f_node_fits : Addr} {od_node_fits an_node_fits : Option Addr} {sl_node_fits : Array (Option Value)} {oc_node_fits kV_node_fits dc_node_fits pm_node_fits cd_node_fits ct_node_fits : Value}
  (a_node_fits : PySem.W.nsIn K mainGlobals "node_fits" = some (some (.ref f_node_fits)))
  (l_node_fits : K.lookup f_node_fits = some ⟨oc_node_fits, od_node_fits, .func (PySem.W.fnOf "node_fits" "node_fits" (defArgs s_node_fits) (defBody s_node_fits) (defScope s_node_fits) .none kV_node_fits dc_node_fits pm_node_fits an_node_fits cd_node_fits ct_node_fits), sl_node_fits⟩)
  (d_node_fits : PySem.W.codeIn K cd_node_fits "node_fits" = true) (k_node_fits : PySem.W.keepIn K (.ref f_node_fits) = true)
  {f_tree_fits : Addr} {od_tree_fits an_tree_fits : Option Addr} {sl_tree_fits : Array (Option Value)} {oc_tree_fits kV_tree_fits dc_tree_fits pm_tree_fits cd_tree_fits ct_tree_fits : Value}
  (a_tree_fits : PySem.W.nsIn K mainGlobals "tree_fits" = some (some (.ref f_tree_fits)))
  (l_tree_fits : K.lookup f_tree_fits = some ⟨oc_tree_fits, od_tree_fits, .func (PySem.W.fnOf "tree_fits" "tree_fits" (defArgs s_tree_fits) (defBody s_tree_fits) (defScope s_tree_fits) .none kV_tree_fits dc_tree_fits pm_tree_fits an_tree_fits cd_tree_fits ct_tree_fits), sl_tree_fits⟩)
  (d_tree_fits : PySem.W.codeIn K cd_tree_fits "tree_fits" = true) (k_tree_fits : PySem.W.keepIn K (.ref f_tree_fits) = true)
  {f_cost_fits : Addr} {od_cost_fits an_cost_fits : Option Addr} {sl_cost_fits : Array (Option Value)} {oc_cost_fits kV_cost_fits dc_cost_fits pm_cost_fits cd_cost_fits ct_cost_fits : Value}
  (a_cost_fits : PySem.W.nsIn K mainGlobals "cost_fits" = some (some (.ref f_cost_fits)))
  (l_cost_fits : K.lookup f_cost_fits = some ⟨oc_cost_fits, od_cost_fits, .func (PySem.W.fnOf "cost_fits" "cost_fits" (defArgs s_cost_fits) (defBody s_cost_fits) (defScope s_cost_fits) .none kV_cost_fits dc_cost_fits pm_cost_fits an_cost_fits cd_cost_fits ct_cost_fits), sl_cost_fits⟩)
  (d_cost_fits : PySem.W.codeIn K cd_cost_fits "cost_fits" = true) (k_cost_fits : PySem.W.keepIn K (.ref f_cost_fits) = true)
  {f_mask_fits : Addr} {od_mask_fits an_mask_fits : Option Addr} {sl_mask_fits : Array (Option Value)} {oc_mask_fits kV_mask_fits dc_mask_fits pm_mask_fits cd_mask_fits ct_mask_fits : Value}
  (a_mask_fits : PySem.W.nsIn K mainGlobals "mask_fits" = some (some (.ref f_mask_fits)))
  (l_mask_fits : K.lookup f_mask_fits = some ⟨oc_mask_fits, od_mask_fits, .func (PySem.W.fnOf "mask_fits" "mask_fits" (defArgs s_mask_fits) (defBody s_mask_fits) (defScope s_mask_fits) .none kV_mask_fits dc_mask_fits pm_mask_fits an_mask_fits cd_mask_fits ct_mask_fits), sl_mask_fits⟩)
  (d_mask_fits : PySem.W.codeIn K cd_mask_fits "mask_fits" = true) (k_mask_fits : PySem.W.keepIn K (.ref f_mask_fits) = true)
  {f_has_node : Addr} {od_has_node an_has_node : Option Addr} {sl_has_node : Array (Option Value)} {oc_has_node kV_has_node dc_has_node pm_has_node cd_has_node ct_has_node : Value}
  (a_has_node : PySem.W.nsIn K mainGlobals "has_node" = some (some (.ref f_has_node)))
  (l_has_node : K.lookup f_has_node = some ⟨oc_has_node, od_has_node, .func (PySem.W.fnOf "has_node" "has_node" (defArgs s_has_node) (defBody s_has_node) (defScope s_has_node) .none kV_has_node dc_has_node pm_has_node an_has_node cd_has_node ct_has_node), sl_has_node⟩)
  (d_has_node : PySem.W.codeIn K cd_has_node "has_node" = true) (k_has_node : PySem.W.keepIn K (.ref f_has_node) = true)
  {f_has_parent : Addr} {od_has_parent an_has_parent : Option Addr} {sl_has_parent : Array (Option Value)} {oc_has_parent kV_has_parent dc_has_parent pm_has_parent cd_has_parent ct_has_parent : Value}
  (a_has_parent : PySem.W.nsIn K mainGlobals "has_parent" = some (some (.ref f_has_parent)))
  (l_has_parent : K.lookup f_has_parent = some ⟨oc_has_parent, od_has_parent, .func (PySem.W.fnOf "has_parent" "has_parent" (defArgs s_has_parent) (defBody s_has_parent) (defScope s_has_parent) .none kV_has_parent dc_has_parent pm_has_parent an_has_parent cd_has_parent ct_has_parent), sl_has_parent⟩)
  (d_has_parent : PySem.W.codeIn K cd_has_parent "has_parent" = true) (k_has_parent : PySem.W.keepIn K (.ref f_has_parent) = true)
  {f_is_closed : Addr} {od_is_closed an_is_closed : Option Addr} {sl_is_closed : Array (Option Value)} {oc_is_closed kV_is_closed dc_is_closed pm_is_closed cd_is_closed ct_is_closed : Value}
  (a_is_closed : PySem.W.nsIn K mainGlobals "is_closed" = some (some (.ref f_is_closed)))
  (l_is_closed : K.lookup f_is_closed = some ⟨oc_is_closed, od_is_closed, .func (PySem.W.fnOf "is_closed" "is_closed" (defArgs s_is_closed) (defBody s_is_closed) (defScope s_is_closed) .none kV_is_closed dc_is_closed pm_is_closed an_is_closed cd_is_closed ct_is_closed), sl_is_closed⟩)
  (d_is_closed : PySem.W.codeIn K cd_is_closed "is_closed" = true) (k_is_closed : PySem.W.keepIn K (.ref f_is_closed) = true)
  {f_set_count : Addr} {od_set_count an_set_count : Option Addr} {sl_set_count : Array (Option Value)} {oc_set_count kV_set_count dc_set_count pm_set_count cd_set_count ct_set_count : Value}
  (a_set_count : PySem.W.nsIn K mainGlobals "set_count" = some (some (.ref f_set_count)))
  (l_set_count : K.lookup f_set_count = some ⟨oc_set_count, od_set_count, .func (PySem.W.fnOf "set_count" "set_count" (defArgs s_set_count) (defBody s_set_count) (defScope s_set_count) .none kV_set_count dc_set_count pm_set_count an_set_count cd_set_count ct_set_count), sl_set_count⟩)
  (d_set_count : PySem.W.codeIn K cd_set_count "set_count" = true) (k_set_count : PySem.W.keepIn K (.ref f_set_count) = true)
  {f_set_weight : Addr} {od_set_weight an_set_weight : Option Addr} {sl_set_weight : Array (Option Value)} {oc_set_weight kV_set_weight dc_set_weight pm_set_weight cd_set_weight ct_set_weight : Value}
  (a_set_weight : PySem.W.nsIn K mainGlobals "set_weight" = some (some (.ref f_set_weight)))
  (l_set_weight : K.lookup f_set_weight = some ⟨oc_set_weight, od_set_weight, .func (PySem.W.fnOf "set_weight" "set_weight" (defArgs s_set_weight) (defBody s_set_weight) (defScope s_set_weight) .none kV_set_weight dc_set_weight pm_set_weight an_set_weight cd_set_weight ct_set_weight), sl_set_weight⟩)
  (d_set_weight : PySem.W.codeIn K cd_set_weight "set_weight" = true) (k_set_weight : PySem.W.keepIn K (.ref f_set_weight) = true)
  {f_objective : Addr} {od_objective an_objective : Option Addr} {sl_objective : Array (Option Value)} {oc_objective kV_objective dc_objective pm_objective cd_objective ct_objective : Value}
  (a_objective : PySem.W.nsIn K mainGlobals "objective" = some (some (.ref f_objective)))
  (l_objective : K.lookup f_objective = some ⟨oc_objective, od_objective, .func (PySem.W.fnOf "objective" "objective" (defArgs s_objective) (defBody s_objective) (defScope s_objective) .none kV_objective dc_objective pm_objective an_objective cd_objective ct_objective), sl_objective⟩)
  (d_objective : PySem.W.codeIn K cd_objective "objective" = true) (k_objective : PySem.W.keepIn K (.ref f_objective) = true)
  : ∃ fd : FuncData, (∀ (s : Shared) (us : List Value), us.length = (["p", "q", "mask", "tree"] : List Str).length → BindsTo s fd ⟨us, []⟩ ((["p", "q", "mask", "tree"] : List Str).zip us)) ∧ ∀ base : Heap, K.In base → base.Ns mainGlobals mg → FnOk P w K mg base CX0 4 fa fd ["p", "q", "mask", "tree"] (sp_objective K) := by
  have e := hfa.symm.trans (PySem.W.mg_of X G a_objective)
  cases e
  have F_node_total := fun_mk (st := s_node_total) l_node_total d_node_total k_node_total
  have B_node_total := F_node_total.binds (ps := ["tree"]) fun _ _ _ _ _ _ us hl => match us, hl with | [_], _ => rfl
  have F_parent_entry := fun_mk (st := s_parent_entry) l_parent_entry d_parent_entry k_parent_entry
  have B_parent_entry := F_parent_entry.binds (ps := ["node", "tree"]) fun _ _ _ _ _ _ us hl => match us, hl with | [_, _], _ => rfl
  have F_node_weight := fun_mk (st := s_node_weight) l_node_weight d_node_weight k_node_weight
  have B_node_weight := F_node_weight.binds (ps := ["node", "tree"]) fun _ _ _ _ _ _ us hl => match us, hl with | [_, _], _ => rfl
  have F_node_fits := fun_mk (st := s_node_fits) l_node_fits d_node_fits k_node_fits
  have B_node_fits := F_node_fits.binds (ps := ["node", "tree"]) fun _ _ _ _ _ _ us hl => match us, hl with | [_, _], _ => rfl
  have F_tree_fits := fun_mk (st := s_tree_fits) l_tree_fits d_tree_fits k_tree_fits
  have B_tree_fits := F_tree_fits.binds (ps := ["tree"]) fun _ _ _ _ _ _ us hl => match us, hl with | [_], _ => rfl
  have F_cost_fits := fun_mk (st := s_cost_fits) l_cost_fits d_cost_fits k_cost_fits
  have B_cost_fits := F_cost_fits.binds (ps := ["p", "q"]) fun _ _ _ _ _ _ us hl => match us, hl with | [_, _], _ => rfl
  have F_mask_fits := fun_mk (st := s_mask_fits) l_mask_fits d_mask_fits k_mask_fits
  have B_mask_fits := F_mask_fits.binds (ps := ["mask", "tree"]) fun _ _ _ _ _ _ us hl => match us, hl with | [_, _], _ => rfl
  have F_has_node := fun_mk (st := s_has_node) l_has_node d_has_node k_has_node
  have B_has_node := F_has_node.binds (ps := ["mask", "node"]) fun _ _ _ _ _ _ us hl => match us, hl with | [_, _], _ => rfl
  have F_has_parent := fun_mk (st := s_has_parent) l_has_parent d_has_parent k_has_parent
  have B_has_parent := F_has_parent.binds (ps := ["mask", "node", "tree"]) fun _ _ _ _ _ _ us hl => match us, hl with | [_, _, _], _ => rfl
  have F_is_closed := fun_mk (st := s_is_closed) l_is_closed d_is_closed k_is_closed
  have B_is_closed := F_is_closed.binds (ps := ["mask", "tree"]) fun _ _ _ _ _ _ us hl => match us, hl with | [_, _], _ => rfl
  have F_set_count := fun_mk (st := s_set_count) l_set_count d_set_count k_set_count
  have B_set_count := F_set_count.binds (ps := ["mask", "tree"]) fun _ _ _ _ _ _ us hl => match us, hl with | [_, _], _ => rfl
  have F_set_weight := fun_mk (st := s_set_weight) l_set_weight d_set_weight k_set_weight
  have B_set_weight := F_set_weight.binds (ps := ["mask", "tree"]) fun _ _ _ _ _ _ us hl => match us, hl with | [_, _], _ => rfl
  have F_objective := fun_mk (st := s_objective) l_objective d_objective k_objective
  have B_objective := F_objective.binds (ps := ["p", "q", "mask", "tree"]) fun _ _ _ _ _ _ us hl => match us, hl with | [_, _, _, _], _ => rfl
  have T : Txt K mg := ⟨PySem.W.mg_none_of X G b_len, PySem.W.mg_none_of X G b_range, ⟨_, PySem.W.mg_of X G c_ROOT⟩, ⟨_, PySem.W.mg_of X G c_OUTSIDE_LIMITS⟩, ⟨_, PySem.W.mg_of X G c_NOT_CLOSED⟩, ⟨_, PySem.W.mg_of X G c_MOST_NODES⟩, ⟨_, PySem.W.mg_of X G c_MOST_WEIGHT⟩, ⟨_, PySem.W.mg_of X G c_MOST_P⟩, ⟨_, PySem.W.mg_of X G c_LEAST_Q⟩, ⟨_, PySem.W.mg_of X G c_MOST_Q⟩, ⟨⟨_, _, PySem.W.mg_of X G a_node_total, F_node_total, B_node_total⟩⟩, ⟨⟨_, _, PySem.W.mg_of X G a_parent_entry, F_parent_entry, B_parent_entry⟩⟩, ⟨⟨_, _, PySem.W.mg_of X G a_node_weight, F_node_weight, B_node_weight⟩⟩, ⟨⟨_, _, PySem.W.mg_of X G a_node_fits, F_node_fits, B_node_fits⟩⟩, ⟨⟨_, _, PySem.W.mg_of X G a_tree_fits, F_tree_fits, B_tree_fits⟩⟩, ⟨⟨_, _, PySem.W.mg_of X G a_cost_fits, F_cost_fits, B_cost_fits⟩⟩, ⟨⟨_, _, PySem.W.mg_of X G a_mask_fits, F_mask_fits, B_mask_fits⟩⟩, ⟨⟨_, _, PySem.W.mg_of X G a_has_node, F_has_node, B_has_node⟩⟩, ⟨⟨_, _, PySem.W.mg_of X G a_has_parent, F_has_parent, B_has_parent⟩⟩, ⟨⟨_, _, PySem.W.mg_of X G a_is_closed, F_is_closed, B_is_closed⟩⟩, ⟨⟨_, _, PySem.W.mg_of X G a_set_count, F_set_count, B_set_count⟩⟩, ⟨⟨_, _, PySem.W.mg_of X G a_set_weight, F_set_weight, B_set_weight⟩⟩, ⟨⟨_, _, PySem.W.mg_of X G a_objective, F_objective, B_objective⟩⟩⟩
  exact ⟨PySem.W.fnOf "objective" "objective" (defArgs s_objective) (defBody s_objective) (defScope s_objective) .none kV_objective dc_objective pm_objective an_objective cd_objective ct_objective, fun s us hu => match us, hu with | [_, _, _, _], _ => .of_eq rfl, fun base _ _ => ok_objective T F_objective⟩
end WL
-- needs: Math1
open PySem PySem.W PyProof.Rows
set_option maxRecDepth 100000 in
set_option maxHeartbeats 8000000 in
theorem PySem.Challenge.cw_weaklink_s02_objective_holds : PySem.Challenge.rw_weaklink_s02_objective.Holds := by
  w_on; k_headS; (case hw => exact ⟨[.int 0, .int 1, .int 0, .list []], by decide +kernel, by decide +kernel⟩)
  k_fillS
  refine L2.walk_specK (r := PySem.Challenge.rw_weaklink_s02_objective) (k := 4) (CX := L2.CX0) (ps := ["p", "q", "mask", "tree"]) (sp := WL.sp_objective) (by decide +kernel) rfl rfl ⟨rfl, by decide, by decide⟩ (fun w h Y => PySem.W.kIn_of Y) ?F ?S (fun _ _ _ _ z => z)
  case F =>
    intro w mg fa h Y KX G hmg
    refine' WL.all_mk KX G hmg ?b_len ?b_range ?c_ROOT ?c_OUTSIDE_LIMITS ?c_NOT_CLOSED ?c_MOST_NODES ?c_MOST_WEIGHT ?c_MOST_P ?c_LEAST_Q ?c_MOST_Q ?a_node_total ?l_node_total ?d_node_total ?k_node_total ?a_parent_entry ?l_parent_entry ?d_parent_entry ?k_parent_entry ?a_node_weight ?l_node_weight ?d_node_weight ?k_node_weight ?a_node_fits ?l_node_fits ?d_node_fits ?k_node_fits ?a_tree_fits ?l_tree_fits ?d_tree_fits ?k_tree_fits ?a_cost_fits ?l_cost_fits ?d_cost_fits ?k_cost_fits ?a_mask_fits ?l_mask_fits ?d_mask_fits ?k_mask_fits ?a_has_node ?l_has_node ?d_has_node ?k_has_node ?a_has_parent ?l_has_parent ?d_has_parent ?k_has_parent ?a_is_closed ?l_is_closed ?d_is_closed ?k_is_closed ?a_set_count ?l_set_count ?d_set_count ?k_set_count ?a_set_weight ?l_set_weight ?d_set_weight ?k_set_weight ?a_objective ?l_objective ?d_objective ?k_objective
    (case b_len => k_is)
    (case b_range => k_is)
    (case c_ROOT => k_is)
    (case c_OUTSIDE_LIMITS => k_is)
    (case c_NOT_CLOSED => k_is)
    (case c_MOST_NODES => k_is)
    (case c_MOST_WEIGHT => k_is)
    (case c_MOST_P => k_is)
    (case c_LEAST_Q => k_is)
    (case c_MOST_Q => k_is)
    (case a_node_total => k_is)
    (case l_node_total => k_is)
    (case d_node_total => k_is)
    (case k_node_total => k_is)
    (case a_parent_entry => k_is)
    (case l_parent_entry => k_is)
    (case d_parent_entry => k_is)
    (case k_parent_entry => k_is)
    (case a_node_weight => k_is)
    (case l_node_weight => k_is)
    (case d_node_weight => k_is)
    (case k_node_weight => k_is)
    (case a_node_fits => k_is)
    (case l_node_fits => k_is)
    (case d_node_fits => k_is)
    (case k_node_fits => k_is)
    (case a_tree_fits => k_is)
    (case l_tree_fits => k_is)
    (case d_tree_fits => k_is)
    (case k_tree_fits => k_is)
    (case a_cost_fits => k_is)
    (case l_cost_fits => k_is)
    (case d_cost_fits => k_is)
    (case k_cost_fits => k_is)
    (case a_mask_fits => k_is)
    (case l_mask_fits => k_is)
    (case d_mask_fits => k_is)
    (case k_mask_fits => k_is)
    (case a_has_node => k_is)
    (case l_has_node => k_is)
    (case d_has_node => k_is)
    (case k_has_node => k_is)
    (case a_has_parent => k_is)
    (case l_has_parent => k_is)
    (case d_has_parent => k_is)
    (case k_has_parent => k_is)
    (case a_is_closed => k_is)
    (case l_is_closed => k_is)
    (case d_is_closed => k_is)
    (case k_is_closed => k_is)
    (case a_set_count => k_is)
    (case l_set_count => k_is)
    (case d_set_count => k_is)
    (case k_set_count => k_is)
    (case a_set_weight => k_is)
    (case l_set_weight => k_is)
    (case d_set_weight => k_is)
    (case k_set_weight => k_is)
    (case a_objective => k_is)
    (case l_objective => k_is)
    (case d_objective => k_is)
    (case k_objective => k_is)
  case S =>
    intro K H xs a hO hwi hask hx
    obtain ⟨p, q, m, ns, u⟩ := a
    cases hx with
    | cons h1 hx =>
    cases hx with
    | cons h2 hx =>
    cases hx with
    | cons h3 hx =>
    cases hx with
    | cons h4 hx =>
    cases hx
    cases h1
    cases h2
    cases h3
    cases h4 with
    | lst hs ha =>
      have e := L2.ints_dw ns _ ha
      subst e
      have z : (Codec.inInt 0 4294967295 p && (Codec.inInt 0 4294967295 q && (Codec.inInt 0 4294967295 m && ((Codec.inLen 0 23 ns && ns.all (Codec.inInt 0 4294967295)) && true)))) = true := hwi
      simp only [Bool.and_eq_true] at z
      obtain ⟨z1, z2, z3, ⟨z4, z5⟩, _⟩ := z
      exact ⟨p, q, m, _, ns, rfl, hs, (Codec.inNat_iff.mp z4).2, fun x hx => (Codec.inInt_iff.mp (List.all_eq_true.mp z5 x hx)).1, (Codec.inInt_iff.mp z1).1, (Codec.inInt_iff.mp z2).1, (Codec.inInt_iff.mp z3).1, fun H' r hr => .lst (L2.SqL.of hr) (L2.dw_ints _)⟩
#print axioms PySem.Challenge.cw_weaklink_s02_objective_holds

