import PyProof.Rows.All
import Wide.All
import OpenK.AllK
import Wide.FinOn
import HandS.ForMost
import HandS.ForExc
import HandS.Wide
import HandS.IsInst
import HandS.Flow
import HandS.FStrTup
import HandS.NoneIn
import HandS.TupAny
import HandS.Style
import HandS.TryMany
import HandS.ExcIs
import HandS.ExcField
import HandS.ExcOwn
import KE.KExcInit
import KE.KExcIs
import HandS.Walk
import HandS.Zip
import HandS.Star
import HandS.Style
import PyProof.Rows.SortShellAny
import KE.GoesZip
import KE.GoesMore
import KE.SortKeyHeap
import HandS.Lambda
import HandS.EndTab
import PySem.Challenge.RW_treewalks_k93_whole_merged_search_trees
set_option Elab.async false
set_option maxRecDepth 100000
set_option maxHeartbeats 4000000
namespace Tw
open PySem PySem.Spec PyProof.Rows L2
/-! ### trees over signs -/
abbrev ch (c : Nat) : Str := ⟨#[c]⟩
def tx (l : List Nat) : Str := ⟨l.toArray⟩
theorem tx_cps (l : List Nat) : (tx l).cps.toList = l := rfl
theorem tx_size (l : List Nat) : (tx l).cps.size = l.length := rfl
theorem tx_len (l : List Nat) : (tx l).length = l.length := rfl
theorem tx_one (c : Nat) : tx [c] = ch c := rfl
theorem tx_app (a b : List Nat) : tx a ++ tx b = tx (a ++ b) := by
  show (⟨(tx a).cps ++ (tx b).cps⟩ : Str) = _
  simp [tx]
theorem ch_app (c : Nat) (b : List Nat) : ch c ++ tx b = tx (c :: b) := tx_app [c] b
theorem tx_inj {a b : List Nat} (h : tx a = tx b) : a = b := congrArg (fun z : Str => z.cps.toList) h
theorem ch_inj {a b : Nat} (h : ch a = ch b) : a = b := by have := tx_inj (a := [a]) (b := [b]) h; simpa using this
theorem ch_lt (a b : Nat) : decide ((ch a).cps.toList < (ch b).cps.toList) = decide (a < b) := by
  have : ((ch a).cps.toList < (ch b).cps.toList) ↔ a < b := by
    show [a] < [b] ↔ _
    simp [List.cons_lt_cons_iff]
  simp only [this]
theorem tx_to (l : List Nat) (k : Nat) : cutS (tx l) none (some (k : Int)) = tx (l.take k) := by
  unfold cutS tx
  show (⟨_⟩ : Str) = ⟨_⟩
  rw [HT.sIx_nat, HT.sIx_none]
  show (⟨((l.drop 0).take (min k l.length - 0)).toArray⟩ : Str) = ⟨(l.take k).toArray⟩
  rw [List.drop_zero, Nat.sub_zero, Nat.min_def]
  split
  · rfl
  · rw [List.take_of_length_le (Nat.le_refl _), List.take_of_length_le (by omega)]
theorem tx_from (l : List Nat) (k : Nat) : cutS (tx l) (some (k : Int)) none = tx (l.drop k) := by
  unfold cutS tx
  show (⟨_⟩ : Str) = ⟨_⟩
  rw [HT.sIx_nat, HT.sIx_none]
  show (⟨((l.drop (min k l.length)).take (l.length - min k l.length)).toArray⟩ : Str) = ⟨(l.drop k).toArray⟩
  by_cases h : k ≤ l.length
  · rw [Nat.min_eq_left h, List.take_of_length_le (by rw [List.length_drop]; omega)]
  · rw [Nat.min_eq_right (by omega), List.drop_eq_nil_of_le (Nat.le_refl _), List.drop_eq_nil_of_le (by omega), List.take_nil]
theorem joinL_ones : ∀ l : List Nat, TL.joinL [] (l.map fun c => [c]) = l
  | [] => rfl
  | [c] => rfl
  | c :: d :: r => by
    have := joinL_ones (d :: r)
    show [c] ++ ([] ++ TL.joinL [] ((d :: r).map fun c => [c])) = _
    rw [this]; rfl
theorem tx_join (l : List Nat) : Txt.join (Str.ofString "") (l.map ch) = tx l := by
  rw [TL.join_eq]
  have e := TL.tl_join (Str.ofString "") (l.map ch)
  refine TL.ext_tl (e.trans ?_)
  rw [List.map_map]
  exact joinL_ones l
theorem tx_joinOk (l : List Nat) (h : l.length ≤ 1000) : ((l.map ch).map (·.length)).sum + (l.map ch).length * (Str.ofString "").length ≤ 16777216 := by
  have e0 : (Str.ofString "").length = 0 := by decide +kernel
  have e1 : ∀ l : List Nat, ((l.map ch).map (·.length)).sum = l.length := by
    intro l
    induction l with
    | nil => rfl
    | cons c r ih =>
      rw [List.map_cons, List.map_cons, List.sum_cons, ih, List.length_cons]
      show 1 + r.length = _
      omega
  rw [e0, e1]
  omega
inductive B where
  | nil
  | node (l : B) (x : Nat) (r : B)
  deriving DecidableEq
def B.size : B → Nat
  | .nil => 0
  | .node l _ r => l.size + 1 + r.size
def B.deep : B → Nat
  | .nil => 0
  | .node l _ r => 1 + max l.deep r.deep
def B.data : B → PyData
  | .nil => .none
  | .node l x r => .tuple [l.data, .str (ch x), r.data]
def B.pre : B → List Nat
  | .nil => []
  | .node l x r => x :: (l.pre ++ r.pre)
def B.mid : B → List Nat
  | .nil => []
  | .node l x r => l.mid ++ x :: r.mid
theorem B.deep_le : ∀ t : B, t.deep ≤ t.size
  | .nil => Nat.le_refl _
  | .node l _ r => by
    have h1 := l.deep_le
    have h2 := r.deep_le
    show 1 + max l.deep r.deep ≤ l.size + 1 + r.size
    omega
theorem B.pre_len : ∀ t : B, t.pre.length = t.size
  | .nil => rfl
  | .node l x r => by
    have h1 := l.pre_len
    have h2 := r.pre_len
    show (x :: (l.pre ++ r.pre)).length = l.size + 1 + r.size
    rw [List.length_cons, List.length_append]
    omega
theorem B.mid_len : ∀ t : B, t.mid.length = t.size
  | .nil => rfl
  | .node l x r => by
    have h1 := l.mid_len
    have h2 := r.mid_len
    show (l.mid ++ x :: r.mid).length = l.size + 1 + r.size
    rw [List.length_append, List.length_cons]
    omega
theorem B.mid_mem (t : B) (c : Nat) : c ∈ t.mid ↔ c ∈ t.pre := by
  induction t with
  | nil => exact Iff.rfl
  | node l x r h1 h2 =>
    show c ∈ l.mid ++ x :: r.mid ↔ c ∈ x :: (l.pre ++ r.pre)
    rw [List.mem_append, List.mem_cons, List.mem_cons, List.mem_append, h1, h2]
    constructor
    · rintro (h | h | h)
      · exact .inr (.inl h)
      · exact .inl h
      · exact .inr (.inr h)
    · rintro (h | h | h)
      · exact .inr (.inl h)
      · exact .inl h
      · exact .inr (.inr h)
/-- the tree t lies at v -/
inductive BAt (H : Hp) : V → B → Prop
  | nil : BAt H .non .nil
  | node {a : Addr} {l r : V} {x : Nat} {tl tr : B} : H a = some (.tup [l, .str (ch x), r]) → BAt H l tl → BAt H r tr → BAt H (.ref a) (.node tl x tr)
/-- tuples stand still -/
def KeepT (H H' : Hp) : Prop := ∀ b xs, H b = some (.tup xs) → H' b = some (.tup xs)
theorem KeepT.refl (H : Hp) : KeepT H H := fun _ _ h => h
theorem KeepT.trans {H H1 H2 : Hp} (a : KeepT H H1) (b : KeepT H1 H2) : KeepT H H2 := fun c xs h => b c xs (a c xs h)
theorem Same.keepT {H H' : Hp} (h : Same H H') : KeepT H H' := fun b xs e => h b _ e
theorem BAt.keep {H H' : Hp} (k : KeepT H H') {v : V} {t : B} (h : BAt H v t) : BAt H' v t := by
  induction h with
  | nil => exact .nil
  | node e _ _ h1 h2 => exact .node (k _ _ e) h1 h2
theorem BAt.same {H H' : Hp} (k : Same H H') {v : V} {t : B} (h : BAt H v t) : BAt H' v t := h.keep (Tw.Same.keepT k)
theorem BAt.dp {K : PySem.W.Frag} {H : Hp} {v : V} {t : B} (h : BAt H v t) : Dp K H v t.data := by
  induction h with
  | nil => exact .non
  | node e _ _ h1 h2 => exact .tup (SqT.of e) (.cons h1 (.cons (.str _) (.cons h2 .nil)))
theorem BAt.inv {H : Hp} {v : V} {t : B} (h : BAt H v t) : (v = .non ∧ t = .nil) ∨ ∃ a l r x tl tr, v = .ref a ∧ t = .node tl x tr ∧ H a = some (.tup [l, .str (ch x), r]) ∧ BAt H l tl ∧ BAt H r tr := by
  cases h with
  | nil => exact .inl ⟨rfl, rfl⟩
  | node e h1 h2 => exact .inr ⟨_, _, _, _, _, _, rfl, rfl, e, h1, h2⟩
theorem same_new {H : Hp} {p : Addr} (h : H p = none) (o : HO) : Same H (upd H p o) := fun b u q => by rw [upd_ne (ne_of_none q h)]; exact q
theorem small {n : Nat} (h : n ≤ 1000) : n ≤ sizeLine := Nat.le_of_lt (small1000 h)
theorem at_map {α : Type} {f : α → V} {ns : List α} {i : Int} {v : α} (h0 : 0 ≤ i) (h : ns[i.toNat]? = some v) : atI (ns.map f) i = some (f v) := by
  have e : i = ((i.toNat : Nat) : Int) := by omega
  rw [e]
  exact atI_nat (by rw [List.getElem?_map, h]; rfl)
theorem ixN_nat {n : Nat} {i : Int} (h0 : 0 ≤ i) (h : i < n) : ixN n i = some i.toNat := by
  unfold ixN
  first
    | rw [if_pos h0, if_pos h]
    | (rw [if_pos h0]; rw [if_pos (by omega)])
    | simp [h0, h]
theorem cut_to (xs : List V) (k : Nat) : cutV xs none (some (k : Int)) = xs.take k := by
  unfold cutV
  rw [HT.sIx_nat, HT.sIx_none, List.drop_zero, Nat.sub_zero]
  rw [Nat.min_def]
  split
  · rfl
  · rw [List.take_of_length_le (Nat.le_refl _), List.take_of_length_le (by omega)]
theorem cut_from (xs : List V) (k : Nat) : cutV xs (some (k : Int)) none = xs.drop k := by
  unfold cutV
  rw [HT.sIx_nat, HT.sIx_none]
  by_cases h : k ≤ xs.length
  · rw [Nat.min_eq_left h, List.take_of_length_le (by rw [List.length_drop]; omega)]
  · rw [Nat.min_eq_right (by omega), List.drop_eq_nil_of_le (Nat.le_refl _), List.drop_eq_nil_of_le (by omega), List.take_nil]
theorem kept {σ : L2.St} {H : Hp} {A B : Hp → Prop} (h : A H) : tYes σ H (fun b H3 => if b = true then A H3 else B H3) := by
  show if true = true then A H else B H
  exact iteT h
theorem erase_map {α β : Type} (f : α → β) : ∀ (l : List α) (i : Nat), (l.map f).eraseIdx i = (l.eraseIdx i).map f
  | [], _ => rfl
  | _ :: _, 0 => rfl
  | x :: l, i + 1 => congrArg (f x :: ·) (erase_map f l i)
/-- a def that stands at a name, with its promise -/
structure Df (P : Program) (w : World) (K : PySem.W.Frag) (mg : Str → Option Value) (base : Heap) (k : Nat) (nm : Str) (ps : List Str) (sp : Sp) where
  f : Addr
  fd : FuncData
  ok : FnOk P w K mg base CX0 k f fd ps sp
  b : Binds K fd ps []
  kp : PySem.W.keepIn K (.ref f) = true
  g : mg nm = some (.ref f)
structure Mgs (mg : Str → Option Value) : Prop where
  zip : mg "zip" = none
  all : mg "all" = none
  repr : mg "repr" = none
  len : mg "len" = none
  isinstance : mg "isinstance" = none
  list : mg "list" = none
  tuple : mg "tuple" = none
  str : mg "str" = none
  int : mg "int" = none
  bool : mg "bool" = none
  dict : mg "dict" = none
  range : mg "range" = none
  enumerate : mg "enumerate" = none
  sum : mg "sum" = none
  sorted : mg "sorted" = none
  abs : mg "abs" = none
  min : mg "min" = none
  max : mg "max" = none
theorem vals_signs : ∀ (l : List Nat) (vs : List Value), vs.length = l.length → (∀ (j : Nat) (v : Value), vs[j]? = some v → ∃ c u, l[j]? = some c ∧ v = .str ⟨#[c]⟩ u) → Vals (l.map fun c => V.str ⟨#[c]⟩) vs
  | [], [], _, _ => .nil
  | [], _ :: _, h, _ => by simp at h
  | _ :: _, [], h, _ => by simp at h
  | c :: l, v :: vs, h, k => by
    obtain ⟨c', u, e, rfl⟩ := k 0 v rfl
    cases e
    exact .cons ⟨u, rfl⟩ (vals_signs l vs (by simpa using h) fun j v e => k (j + 1) v e)
theorem call_signs {X : Cx} (hc : X.calm = true) : CallR X (.type "list") (fun xs H Q => ∃ x : Str, xs = [.str x] ∧ x.cps.size ≤ 1000 ∧ ∀ p, H p = none → Q (.ref p) (upd H p (.lst (x.cps.toList.map fun c => V.str ⟨#[c]⟩)))) := by
  intro pins s σ H xs us Q I r h
  obtain ⟨x, rfl, hz, q⟩ := h
  obtain ⟨u, rfl, t, rfl⟩ := vals1 r
  have hz' : x.cps.size ≤ sizeLine := small hz
  refine call_list_str (I.ok.hd hc) x t (fun h' tk acc' c' hk hS hacc => ?_) hz'
  have hv : Vals (x.cps.toList.map fun c => V.str ⟨#[c]⟩) acc'.toList := vals_signs _ _ (by rw [Array.length_toList, Array.length_toList]; exact hacc.1) fun j v e => by
    obtain ⟨c, u, h1, h2⟩ := hacc.2 j v (by rw [← Array.getElem?_toList]; exact e)
    exact ⟨c, u, by rw [Array.getElem?_toList]; exact h1, h2⟩
  exact ⟨.ref s.heap.objs.size, _, I.laid (t' := tk) hk (Nat.le_refl _) (show ObjOk X.prog X.w _ h' _ (.lst _) from ⟨by rw [List.length_map, Array.length_toList]; exact hz', acc'.toList, c', hv, by rw [Array.toArray_toList]; exact hS⟩), rfl, q _ (I.hok.fresh (Nat.le_refl _))⟩
/-- for c in text -/
theorem for_text {x : Str} {g : TG} {tb : TS} {D : Ends} {σ : L2.St} {H : Hp} (Pv : Nat → L2.St → Hp → Prop) (h0 : Pv 0 σ H)
    (hs : ∀ i c σ H, x.cps.toList[i]? = some c → Pv i σ H → g (.str ⟨#[c]⟩) σ H fun σ2 H2 => tb { D with nx := Pv (i + 1), ct := Pv (i + 1), bk := D.nx } σ2 H2)
    (hd : ∀ σ H, Pv x.cps.toList.length σ H → D.nx σ H) :
    ∃ W : Nat → Nat → L2.St → Hp → Prop, (∃ m, W 0 m σ H) ∧ ∀ i m σ H, W i m σ H →
      ((Its x).stop i H ∧ D.nx σ H) ∨ ((Its x).go i H ∧ ∃ N : L2.St → Hp → Prop, (∀ σ' H', N σ' H' → ∃ m', m' < m ∧ W (i + 1) m' σ' H') ∧ ∀ v H', (Its x).yld i H v H' → g v σ H' fun σ2 H2 => tb { D with nx := N, ct := N, bk := D.nx } σ2 H2) := by
  refine for_it walk_str Pv h0 (fun _ _ _ _ _ => trivial) (fun i v σ H H' hi hp hy => ?_) (fun σ H hp => hd σ H (by rw [Array.length_toList]; exact hp))
  obtain ⟨rfl, c, hc, rfl⟩ := hy
  exact hs i c σ H' (by rw [Array.getElem?_toList]; exact hc) hp
theorem lc_text {x : Str} {g : TG} {tt : TT} {te : TE} {vs : List Nat} {σ : L2.St} {H1 : Hp} {D : Addr} {Qd : Hp → Prop} (Pv : Nat → Hp → Prop) (h0 : Pv 0 (upd H1 D (.lst [])))
    (hs : ∀ i c H, x.cps.toList[i]? = some c → Pv i H → g (.str ⟨#[c]⟩) (wipe σ vs) H fun σ2 H2 => wipe σ2 vs = wipe σ vs ∧ tt σ2 H2 fun b H3 =>
      if b = true then te σ2 H3 fun y H4 => ∃ acc, H4 D = some (.lst acc) ∧ acc.length < sizeLine ∧ Pv (i + 1) (upd H4 D (.lst (acc ++ [y]))) else Pv (i + 1) H3) (hd : ∀ H, Pv x.cps.toList.length H → Qd H) :
    ∃ W : Nat → Nat → Hp → Prop, (∃ m, W 0 m (upd H1 D (.lst []))) ∧ ∀ i m H, W i m H →
      ((Its x).stop i H ∧ Qd H) ∨ ((Its x).go i H ∧ ∃ Nx : Hp → Prop, (∀ H', Nx H' → ∃ m', m' < m ∧ W (i + 1) m' H') ∧ ∀ v H', (Its x).yld i H v H' → g v (wipe σ vs) H' fun σ2 H2 => wipe σ2 vs = wipe σ vs ∧ tt σ2 H2 fun b H3 =>
        if b = true then te σ2 H3 fun y H4 => ∃ acc, H4 D = some (.lst acc) ∧ acc.length < sizeLine ∧ Nx (upd H4 D (.lst (acc ++ [y]))) else Nx H3) := by
  refine lc_it walk_str Pv h0 (fun _ _ _ _ => trivial) (fun i v H H' hi hp hy => ?_) (fun H hp => hd H (by rw [Array.length_toList]; exact hp))
  obtain ⟨rfl, c, hc, rfl⟩ := hy
  exact hs i c H' (by rw [Array.getElem?_toList]; exact hc) hp
/-! ### the text by places -/
def top (i : Nat) : Stmt := PySem.Challenge.pw_treewalks_k93_whole_merged_search_trees.main.body.getD i (.Pass ⟨0, 0, 0, 0⟩)
abbrev s_is_whole_number : Stmt := top 9
abbrev s_is_index : Stmt := top 10
abbrev s_size_of : Stmt := top 12
abbrev s_is_kind : Stmt := top 15
abbrev s_ordered_steps : Stmt := top 16
abbrev s_deep_steps : Stmt := top 17
abbrev s_level_steps : Stmt := top 18
abbrev s_walk : Stmt := top 19
abbrev s_with_letter : Stmt := top 21
abbrev s_inserted : Stmt := top 22
abbrev s_tree_of : Stmt := top 23
abbrev s_sizes_in : Stmt := top 24
abbrev s_count_together : Stmt := top 25
abbrev s_count_orders : Stmt := top 26
abbrev s_next_steps : Stmt := top 27
abbrev s_numbered_order : Stmt := top 28
abbrev s_order_at : Stmt := top 29
abbrev s_order_index : Stmt := top 30
abbrev s__law_begin : Stmt := top 32
abbrev s__law_next : Stmt := top 33
abbrev s__law_same : Stmt := top 34
abbrev s__law_mixed : Stmt := top 35
abbrev s__law_free : Stmt := top 36
abbrev s__law_order : Stmt := top 37
abbrev s__law_ways : Stmt := top 38
abbrev s__law_merged : Stmt := top 39
abbrev s__law_drawn_order : Stmt := top 40
abbrev s__law_count : Stmt := top 41
abbrev s_law : Stmt := top 42
theorem sc_is_whole_number : FnScope ["value"] ["value"] (defScope s_is_whole_number) := ⟨rfl, rfl, rfl, by decide +kernel, rfl, by decide +kernel, by decide +kernel⟩
theorem sc_is_index : FnScope ["value", "many"] ["value", "many"] (defScope s_is_index) := ⟨rfl, rfl, rfl, by decide +kernel, rfl, by decide +kernel, by decide +kernel⟩
theorem sc_size_of : FnScope ["tree"] ["tree"] (defScope s_size_of) := ⟨rfl, rfl, rfl, by decide +kernel, rfl, by decide +kernel, by decide +kernel⟩
theorem sc_is_kind : FnScope ["value"] ["value"] (defScope s_is_kind) := ⟨rfl, rfl, rfl, by decide +kernel, rfl, by decide +kernel, by decide +kernel⟩
theorem sc_ordered_steps : FnScope ["tree", "kind"] ["tree", "kind"] (defScope s_ordered_steps) := ⟨rfl, rfl, rfl, by decide +kernel, rfl, by decide +kernel, by decide +kernel⟩
theorem sc_deep_steps : FnScope ["tree", "kind", "path", "left", "label", "right", "root", "lefts", "rights"] ["tree", "kind", "path"] (defScope s_deep_steps) := ⟨rfl, rfl, rfl, by decide +kernel, rfl, by decide +kernel, by decide +kernel⟩
theorem sc_level_steps : FnScope ["tree"] ["tree"] (defScope s_level_steps) := ⟨rfl, rfl, rfl, by decide +kernel, rfl, by decide +kernel, by decide +kernel⟩
theorem sc_walk : FnScope ["tree", "kind", "path", "label"] ["tree", "kind"] (defScope s_walk) := ⟨rfl, rfl, rfl, by decide +kernel, rfl, by decide +kernel, by decide +kernel⟩
theorem sc_with_letter : FnScope ["tree", "letter", "left", "label", "right"] ["tree", "letter"] (defScope s_with_letter) := ⟨rfl, rfl, rfl, by decide +kernel, rfl, by decide +kernel, by decide +kernel⟩
theorem sc_inserted : FnScope ["tree", "letter"] ["tree", "letter"] (defScope s_inserted) := ⟨rfl, rfl, rfl, by decide +kernel, rfl, by decide +kernel, by decide +kernel⟩
theorem sc_tree_of : FnScope ["order", "tree", "letter"] ["order"] (defScope s_tree_of) := ⟨rfl, rfl, rfl, by decide +kernel, rfl, by decide +kernel, by decide +kernel⟩
theorem sc_sizes_in : FnScope ["tree", "left", "label", "right", "below"] ["tree"] (defScope s_sizes_in) := ⟨rfl, rfl, rfl, by decide +kernel, rfl, by decide +kernel, by decide +kernel⟩
theorem sc_count_together : FnScope ["parts", "part", "size", "sizes", "orders", "at"] ["parts"] (defScope s_count_together) := ⟨rfl, rfl, rfl, by decide +kernel, rfl, by decide +kernel, by decide +kernel⟩
theorem sc_count_orders : FnScope ["tree"] ["tree"] (defScope s_count_orders) := ⟨rfl, rfl, rfl, by decide +kernel, rfl, by decide +kernel, by decide +kernel⟩
theorem sc_next_steps : FnScope ["parts", "found", "at", "left", "letter", "right", "side", "sides"] ["parts"] (defScope s_next_steps) := ⟨rfl, rfl, rfl, by decide +kernel, rfl, by decide +kernel, by decide +kernel⟩
theorem sc_numbered_order : FnScope ["parts", "index", "more", "letter", "rest", "many"] ["parts", "index"] (defScope s_numbered_order) := ⟨rfl, rfl, rfl, by decide +kernel, rfl, by decide +kernel, by decide +kernel⟩
theorem sc_order_at : FnScope ["tree", "index"] ["tree", "index"] (defScope s_order_at) := ⟨rfl, rfl, rfl, by decide +kernel, rfl, by decide +kernel, by decide +kernel⟩
theorem sc_order_index : FnScope ["tree", "value", "index", "parts", "letter", "steps", "other", "rest", "taken"] ["tree", "value"] (defScope s_order_index) := ⟨rfl, rfl, rfl, by decide +kernel, rfl, by decide +kernel, by decide +kernel⟩
theorem sc__law_begin : FnScope ["_law_script", "_law_cell", "_law_greats", "_law_whole"] ["_law_script"] (defScope s__law_begin) := ⟨rfl, rfl, rfl, by decide +kernel, rfl, by decide +kernel, by decide +kernel⟩
theorem sc__law_next : FnScope ["_law_deck", "_law_many", "_law_rest", "_law_mixed_here"] ["_law_deck", "_law_many"] (defScope s__law_next) := ⟨rfl, rfl, rfl, by decide +kernel, rfl, by decide +kernel, by decide +kernel⟩
theorem sc__law_same : FnScope ["_law_found", "_law_due", "_law_k"] ["_law_found", "_law_due"] (defScope s__law_same) := ⟨rfl, rfl, rfl, by decide +kernel, rfl, by decide +kernel, by decide +kernel⟩
theorem sc__law_mixed : FnScope ["_law_deck", "_law_items", "_law_rest", "_law_found"] ["_law_deck", "_law_items"] (defScope s__law_mixed) := ⟨rfl, rfl, rfl, by decide +kernel, rfl, by decide +kernel, by decide +kernel⟩
theorem sc__law_free : FnScope ["_law_deck", "_law_letters", "_law_spot"] ["_law_deck", "_law_letters"] (defScope s__law_free) := ⟨rfl, rfl, rfl, by decide +kernel, rfl, by decide +kernel, by decide +kernel⟩
theorem sc__law_order : FnScope ["_law_deck", "_law_low", "_law_high", "_law_size", "_law_way", "_law_letters"] ["_law_deck", "_law_low", "_law_high"] (defScope s__law_order) := ⟨rfl, rfl, rfl, by decide +kernel, rfl, by decide +kernel, by decide +kernel⟩
theorem sc__law_ways : FnScope ["_law_one", "_law_other", "_law_found", "_law_k"] ["_law_one", "_law_other"] (defScope s__law_ways) := ⟨rfl, rfl, rfl, by decide +kernel, rfl, by decide +kernel, by decide +kernel⟩
theorem sc__law_merged : FnScope ["_law_deck", "_law_one", "_law_other", "_law_found"] ["_law_deck", "_law_one", "_law_other"] (defScope s__law_merged) := ⟨rfl, rfl, rfl, by decide +kernel, rfl, by decide +kernel, by decide +kernel⟩
theorem sc__law_drawn_order : FnScope ["_law_deck", "_law_tree"] ["_law_deck", "_law_tree"] (defScope s__law_drawn_order) := ⟨rfl, rfl, rfl, by decide +kernel, rfl, by decide +kernel, by decide +kernel⟩
theorem sc__law_count : FnScope ["_law_tree"] ["_law_tree"] (defScope s__law_count) := ⟨rfl, rfl, rfl, by decide +kernel, rfl, by decide +kernel, by decide +kernel⟩
theorem sc_law : FnScope ["_law_script", "_law_deck", "_law_turn", "_law_order_here", "_law_tree", "_law_left", "_law_own", "_law_right", "_law_letter", "_law_parts", "_law_part", "_law_again", "_law_other"] ["_law_script"] (defScope s_law) := ⟨rfl, rfl, rfl, by decide +kernel, rfl, by decide +kernel, by decide +kernel⟩
/-! ### xs != [], xs == [] -/
section
variable {X : Cx}
theorem op_neL (hu : X.A.units < cLine) : OpR X (compareOp .NotEq) (fun x y H Q => ∃ a b xs, x = .ref a ∧ y = .ref b ∧ SqL X.K H a xs ∧ SqL X.K H b [] ∧ Q (.bl (!xs.isEmpty)) H) := by
  intro pins s σ H x y v u Q I rx ry h
  obtain ⟨a, b, xs, rfl, rfl, hx, hy, q⟩ := h
  cases rx
  cases ry
  obtain ⟨its, r1, t1, _⟩ := I.list hx
  obtain ⟨its2, r2, t2, _⟩ := I.list hy
  cases r2
  cases r1 with
  | nil =>
    have rc := SeqAt.RcNeAt.lists (A := X.A) (s := s) (items := ([] : List Value).toArray) (items2 := ([] : List Value).toArray) (e := fun _ => true) t1.isList t2.isList rfl hu (fun j h1 _ => absurd h1 (by simp))
    exact rc X.prog X.w X.xe _ ⟨.bl _, H, I, rfl, q⟩
  | cons _ _ =>
    have rc := SeqAt.RcNeAt.lists_lengths (A := X.A) (s := s) t1.isList t2.isList (by simp) hu
    exact rc X.prog X.w X.xe _ ⟨.bl _, H, I, rfl, q⟩
theorem cmpOf_ltS {prog : Program} {w : World} {A : Around} (x y : Str) (t u : Tok) :
    CmpOf prog w A .Lt (fun i v => (#[Value.str x t, Value.str y u])[i]? = some v) (fun i j => decide (([x, y].getD i x).cps.toList < ([x, y].getD j x).cps.toList)) := fun i j vi vj s Q E hi hj h => by
  have one : ∀ (i : Nat) (v : Value), (#[Value.str x t, Value.str y u])[i]? = some v → ∃ tk, v = .str ([x, y].getD i x) tk := fun i v e => by
    match i with
    | 0 => exact ⟨t, by simpa using e.symm⟩
    | 1 => exact ⟨u, by simpa using e.symm⟩
    | n + 2 => simp at e
  obtain ⟨t1, rfl⟩ := one i vi hi
  obtain ⟨t2, rfl⟩ := one j vj hj
  exact lt_str h
theorem cmpOf_gtS {prog : Program} {w : World} {A : Around} (x y : Str) (t u : Tok) :
    CmpOf prog w A .Gt (fun i v => (#[Value.str x t, Value.str y u])[i]? = some v) (fun i j => decide (([x, y].getD j x).cps.toList < ([x, y].getD i x).cps.toList)) := fun i j vi vj s Q E hi hj h => by
  have one : ∀ (i : Nat) (v : Value), (#[Value.str x t, Value.str y u])[i]? = some v → ∃ tk, v = .str ([x, y].getD i x) tk := fun i v e => by
    match i with
    | 0 => exact ⟨t, by simpa using e.symm⟩
    | 1 => exact ⟨u, by simpa using e.symm⟩
    | n + 2 => simp at e
  obtain ⟨t1, rfl⟩ := one i vi hi
  obtain ⟨t2, rfl⟩ := one j vj hj
  exact PySem.P.gt_str h
theorem argBest1 (bt : Nat → Nat → Bool) : argBest bt 1 = if bt 1 0 = true then 1 else 0 := rfl
theorem max_two_str {prog : Program} {w : World} {A : Around} {E : Value → Shared → Prop} {s : Shared} {Q : Value → Shared → Prop} {x y : Str} {t u : Tok} (hh : A.handled = none)
    (h : ∀ h' tk, (∀ c o, s.heap.get? c = some o → h'.get? c = some o) → Q (if x.cps.toList < y.cps.toList then .str y u else .str x t) { s with heap := h', toks := tk }) :
    wpAny (model prog w) A (call (.builtin "max") [.str x t, .str y u]) Q E s := by
  have hT : (s.heap.push { cls := .type "tuple", data := .seq #[.str x t, .str y u] }).IsTuple s.heap.objs.size #[.str x t, .str y u] := ⟨_, Heap.get?_push_size _ rfl, rfl, 0, rfl⟩
  refine call_max_two (wpAny_pyIter_tuple hT ?_)
  have hsz : (s.heap.push { cls := .type "tuple", data := .seq #[.str x t, .str y u] }).objs.size = s.heap.objs.size + 1 := Heap.size_push ..
  refine ⟨_, [_, s.heap.objs.size], [_], _, _, _, _, rfl, Walks.tuple (A := A.in1) hh _ s.heap.objs.size (by rw [hsz]; exact Nat.ne_of_lt (Nat.lt_succ_self _)) #[.str x t, .str y u],
    ⟨⟨_, Heap.get?_push_size _ rfl, rfl, rfl⟩, hT.push _⟩, fun c hc => ?_, by simp, cmpOf_gtS x y t u, fun v h' tk hP hk => ?_⟩
  · show c < ((s.heap.push _).push _).objs.size
    rw [Heap.size_push, hsz]
    rcases List.mem_cons.mp hc with rfl | hc
    · rw [hsz]; exact Nat.lt_succ_self _
    · rcases List.mem_cons.mp hc with rfl | hc
      · exact Nat.lt_succ_of_lt (Nat.lt_succ_self _)
      · cases hc
  · have hold : ∀ c o, s.heap.get? c = some o → h'.get? c = some o := fun c o e => by
      refine hk c o (fun hm => ?_) (Heap.get?_push_of_some _ (Heap.get?_push_of_some _ e))
      rcases List.mem_cons.mp hm with e1 | hm
      · have := Heap.lt_size e; rw [e1, hsz] at this; exact Nat.lt_irrefl _ (Nat.lt_of_succ_lt this)
      · cases hm
    have := h h' tk hold
    have hv : v = if x.cps.toList < y.cps.toList then .str y u else .str x t := by
      rw [show #[Value.str x t, Value.str y u].size - 1 = 1 from rfl, argBest1] at hP
      replace hP : #[Value.str x t, Value.str y u][if decide (x.cps.toList < y.cps.toList) = true then 1 else 0]? = some v := hP
      by_cases hc : x.cps.toList < y.cps.toList
      · rw [if_pos (decide_eq_true hc)] at hP
        rw [if_pos hc]
        exact (Option.some.inj hP).symm
      · rw [if_neg (fun z => hc (of_decide_eq_true z))] at hP
        rw [if_neg hc]
        exact (Option.some.inj hP).symm
    rw [hv]; exact this
theorem min_two_str {prog : Program} {w : World} {A : Around} {E : Value → Shared → Prop} {s : Shared} {Q : Value → Shared → Prop} {x y : Str} {t u : Tok} (hh : A.handled = none)
    (h : ∀ h' tk, (∀ c o, s.heap.get? c = some o → h'.get? c = some o) → Q (if y.cps.toList < x.cps.toList then .str y u else .str x t) { s with heap := h', toks := tk }) :
    wpAny (model prog w) A (call (.builtin "min") [.str x t, .str y u]) Q E s := by
  have hT : (s.heap.push { cls := .type "tuple", data := .seq #[.str x t, .str y u] }).IsTuple s.heap.objs.size #[.str x t, .str y u] := ⟨_, Heap.get?_push_size _ rfl, rfl, 0, rfl⟩
  refine call_min_two (wpAny_pyIter_tuple hT ?_)
  have hsz : (s.heap.push { cls := .type "tuple", data := .seq #[.str x t, .str y u] }).objs.size = s.heap.objs.size + 1 := Heap.size_push ..
  refine ⟨_, [_, s.heap.objs.size], [_], _, _, _, _, rfl, Walks.tuple (A := A.in1) hh _ s.heap.objs.size (by rw [hsz]; exact Nat.ne_of_lt (Nat.lt_succ_self _)) #[.str x t, .str y u],
    ⟨⟨_, Heap.get?_push_size _ rfl, rfl, rfl⟩, hT.push _⟩, fun c hc => ?_, by simp, cmpOf_ltS x y t u, fun v h' tk hP hk => ?_⟩
  · show c < ((s.heap.push _).push _).objs.size
    rw [Heap.size_push, hsz]
    rcases List.mem_cons.mp hc with rfl | hc
    · rw [hsz]; exact Nat.lt_succ_self _
    · rcases List.mem_cons.mp hc with rfl | hc
      · exact Nat.lt_succ_of_lt (Nat.lt_succ_self _)
      · cases hc
  · have hold : ∀ c o, s.heap.get? c = some o → h'.get? c = some o := fun c o e => by
      refine hk c o (fun hm => ?_) (Heap.get?_push_of_some _ (Heap.get?_push_of_some _ e))
      rcases List.mem_cons.mp hm with e1 | hm
      · have := Heap.lt_size e; rw [e1, hsz] at this; exact Nat.lt_irrefl _ (Nat.lt_of_succ_lt this)
      · cases hm
    have := h h' tk hold
    have hv : v = if y.cps.toList < x.cps.toList then .str y u else .str x t := by
      rw [show #[Value.str x t, Value.str y u].size - 1 = 1 from rfl, argBest1] at hP
      replace hP : #[Value.str x t, Value.str y u][if decide (y.cps.toList < x.cps.toList) = true then 1 else 0]? = some v := hP
      by_cases hc : y.cps.toList < x.cps.toList
      · rw [if_pos (decide_eq_true hc)] at hP
        rw [if_pos hc]
        exact (Option.some.inj hP).symm
      · rw [if_neg (fun z => hc (of_decide_eq_true z))] at hP
        rw [if_neg hc]
        exact (Option.some.inj hP).symm
    rw [hv]; exact this
theorem call_max2S (hc : X.calm = true) : CallR X (.builtin "max") (fun xs H Q => ∃ a b : Nat, xs = [.str (ch a), .str (ch b)] ∧ Q (.str (ch (max a b))) H) := by
  intro pins s σ H xs us Q I r h
  obtain ⟨a, b, rfl, q⟩ := h
  obtain ⟨u, w', rfl, ⟨t, rfl⟩, ⟨t', rfl⟩⟩ := vals2 r
  refine max_two_str (I.ok.hd hc) fun h' tk k => ⟨_, H, I.kept k, ?_, q⟩
  have e : ((ch a).cps.toList < (ch b).cps.toList) ↔ a < b := by
    have := ch_lt a b
    simpa using this
  by_cases hj : a < b
  · rw [if_pos (e.mpr hj), Nat.max_eq_right (Nat.le_of_lt hj)]; exact ⟨_, rfl⟩
  · rw [if_neg (fun z => hj (e.mp z)), Nat.max_eq_left (by omega)]; exact ⟨_, rfl⟩
theorem call_min2S (hc : X.calm = true) : CallR X (.builtin "min") (fun xs H Q => ∃ a b : Nat, xs = [.str (ch a), .str (ch b)] ∧ Q (.str (ch (min a b))) H) := by
  intro pins s σ H xs us Q I r h
  obtain ⟨a, b, rfl, q⟩ := h
  obtain ⟨u, w', rfl, ⟨t, rfl⟩, ⟨t', rfl⟩⟩ := vals2 r
  refine min_two_str (I.ok.hd hc) fun h' tk k => ⟨_, H, I.kept k, ?_, q⟩
  have e : ((ch b).cps.toList < (ch a).cps.toList) ↔ b < a := by
    have := ch_lt b a
    simpa using this
  by_cases hj : b < a
  · rw [if_pos (e.mpr hj), Nat.min_eq_right (Nat.le_of_lt hj)]; exact ⟨_, rfl⟩
  · rw [if_neg (fun z => hj (e.mp z)), Nat.min_eq_left (by omega)]; exact ⟨_, rfl⟩
end
/-! ### the deck -/
structure Deck where
  dk : Addr
  ga : Addr
structure DeckOk (H : Hp) (D : Deck) : Prop where
  ex : ∃ (gs : List Int) (wh n : Int), H D.dk = some (.lst [.ref D.ga, .int wh, .int n]) ∧ H D.ga = some (.lst (gs.map V.int)) ∧ gs.length ≤ 63 ∧ 0 ≤ wh ∧ wh < 2 ^ 62
  ne : D.dk ≠ D.ga
/-- all stands still but the deck's two lists -/
def SameD (D : Deck) (H H' : Hp) : Prop := ∀ b o, b ≠ D.dk → b ≠ D.ga → H b = some o → H' b = some o
theorem SameD.refl (D : Deck) (H : Hp) : SameD D H H := fun _ _ _ _ h => h
theorem SameD.trans {D : Deck} {H H1 H2 : Hp} (a : SameD D H H1) (b : SameD D H1 H2) : SameD D H H2 := fun c o h1 h2 h => b c o h1 h2 (a c o h1 h2 h)
theorem SameD.of {D : Deck} {H H' : Hp} (h : Same H H') : SameD D H H' := fun b o _ _ e => h b o e
theorem DeckOk.lists {H : Hp} {D : Deck} (d : DeckOk H D) : (∃ xs, H D.dk = some (.lst xs)) ∧ (∃ xs, H D.ga = some (.lst xs)) := by
  obtain ⟨gs, wh, n, h1, h2, _⟩ := d.ex
  exact ⟨⟨_, h1⟩, ⟨_, h2⟩⟩
theorem SameD.keepT {D : Deck} {H H' : Hp} (h : SameD D H H') (d : DeckOk H D) : KeepT H H' := fun b xs e => by
  obtain ⟨⟨x1, h1⟩, ⟨x2, h2⟩⟩ := d.lists
  exact h b _ (ne_of e h1 (by intro z; cases z)) (ne_of e h2 (by intro z; cases z)) e
theorem SameD.free {D : Deck} {H H' : Hp} (h : SameD D H H') (d : DeckOk H' D) {p : Addr} (e : H' p = none) : H p = none := by
  obtain ⟨⟨x1, h1⟩, ⟨x2, h2⟩⟩ := d.lists
  have n1 : p ≠ D.dk := fun z => by rw [z, h1] at e; cases e
  have n2 : p ≠ D.ga := fun z => by rw [z, h2] at e; cases e
  cases q : H p with
  | none => rfl
  | some o =>
    rw [h p o n1 n2 q] at e
    cases e
theorem DeckOk.same {H H' : Hp} {D : Deck} (d : DeckOk H D) (h : Same H H') : DeckOk H' D := by
  obtain ⟨gs, wh, n, h1, h2, h3⟩ := d.ex
  exact ⟨⟨gs, wh, n, h _ _ h1, h _ _ h2, h3⟩, d.ne⟩
structure Off (D : Deck) (p : Addr) : Prop where
  dk : p ≠ D.dk
  ga : p ≠ D.ga
theorem DeckOk.new {H : Hp} {D : Deck} (d : DeckOk H D) {p : Addr} (e : H p = none) : Off D p := by
  obtain ⟨⟨x1, h1⟩, ⟨x2, h2⟩⟩ := d.lists
  refine ⟨fun z => ?_, fun z => ?_⟩
  · rw [z, h1] at e
    cases e
  · rw [z, h2] at e
    cases e
theorem DeckOk.put {H : Hp} {D : Deck} (d : DeckOk H D) {p : Addr} (f : Off D p) (o : HO) : DeckOk (upd H p o) D := by
  obtain ⟨gs, wh, n, h1, h2, h3⟩ := d.ex
  exact ⟨⟨gs, wh, n, by rw [upd_ne f.dk.symm]; exact h1, by rw [upd_ne f.ga.symm]; exact h2, h3⟩, d.ne⟩
theorem SameD.put {D : Deck} {H H' : Hp} {p : Addr} (s : SameD D H H') (e : H p = none) (o : HO) : SameD D H (upd H' p o) := fun b u h1 h2 h => by
  rw [upd_ne (ne_of_none h e)]
  exact s b u h1 h2 h
theorem SameD.at {D : Deck} {H H' : Hp} {p : Addr} {o : HO} (s : SameD D H H') (f : Off D p) (e : H p = some o) : H' p = some o := s p o f.dk f.ga e
theorem modP (z p : Int) (h0 : 0 < p) (h1 : p < 2 ^ 64) : -(2 ^ 64) < z % p ∧ z % p < 2 ^ 64 := by
  have a := Int.emod_nonneg z (show p ≠ 0 by omega)
  have b := Int.emod_lt_of_pos z h0
  omega
def spNext : Sp := fun vs H Q _ => ∃ (D : Deck) (m : Int), vs = [.ref D.dk, .int m] ∧ DeckOk H D ∧ 0 < m ∧ m < 1073741824 ∧ ∀ (i : Int) (H' : Hp), 0 ≤ i → i < m → DeckOk H' D → SameD D H H' → Q (.int i) H'
section
variable {P : Program} {w : World} {K : PySem.W.Frag} {mg : Str → Option Value} {base : Heap} {f : Addr} {fd : FuncData}
theorem ok_next {k : Nat} (F : Fun K "_law_next" "_law_next" s__law_next f fd) : FnOk P w K mg base CX0 (k + 1) f fd ["_law_deck", "_law_many"] spNext := by
  refine F.ok sc__law_next (fun vs H Q E h => ?_) (fun cdv A outer s H vs Q E hr h => ?_)
  · obtain ⟨D, m, rfl, _⟩ := h
    rfl
  obtain ⟨D, m, rfl, d, m0, m1, q⟩ := h
  refine ⟨_, (pss_cons (ps_while PassesOwn.never (pt_cmpR (op_neL hr.units0) (pe_ix ix_list (pv 0) pe_int (fun _ _ => rfl)) (pe_lst pa_nil) (nomark _))
      (pss_cons (ps_set (i := 2) sc__law_next.nd rfl (.inl rfl) (pe_bm0 PySem.F.plainAttrs_list PySem.F.slot_list_pop PySem.F.type_list_pop mt_pop (pe_ix ix_list (pv 0) pe_int (fun _ _ => rfl))))
    (pss_one (ps_if (pt_cmpR op_gt (pv 2) pe_int (nomark _))
      (pss_cons (ps_expr (pe_bm PySem.F.plainAttrs_list PySem.F.slot_list_append PySem.F.type_list_append mt_append (pe_ix ix_list (pv 0) pe_int (fun _ _ => rfl)) (pa_cons (pe_op op_fdiv (pv 2) (pv 1)) pa_nil)))
    (pss_one (ps_ret (pe_op op_mod (pv 2) (pv 1))))) pss_nil))))
    (pss_cons (ps_asg (pe_op op_add (pe_ix ix_list (pv 0) pe_int (fun _ _ => rfl)) pe_int) (pg_sub (pv 0) pe_int set_list))
    (pss_cons (ps_set (i := 3) sc__law_next.nd rfl (.inl rfl) (pe_op op_add (pe_op op_mul (pe_ix ix_list (pv 0) pe_int (fun _ _ => rfl)) (pe_op op_add pe_int (pe_op op_mul pe_int (pe_ix ix_list (pv 0) pe_int (fun _ _ => rfl))))) (pe_op op_mul pe_int (pe_ix ix_list (pv 0) pe_int (fun _ _ => rfl)))))
    (pss_cons (ps_set (i := 3) sc__law_next.nd rfl (.inl rfl) (pe_op op_mod (pv 3) pe_int))
    (pss_cons (ps_set (i := 3) sc__law_next.nd rfl (.inl rfl) (pe_op op_mod (pe_op op_mul (pv 3) (pv 3)) pe_int))
    (pss_one (ps_ret (pe_op op_mod (pe_op op_fdiv (pe_op op_mod (pe_op op_mul (pv 3) (pv 3)) pe_int) pe_int) (pv 1))))))))), ?_⟩
  refine while_by (fun σ H' => ∃ r, σ = [some (.ref D.dk), some (.int m), r, none] ∧ DeckOk H' D ∧ SameD D H H') (fun σ H' => match H' D.ga with | some (.lst xs) => xs.length | _ => 0) ⟨none, rfl, d, SameD.refl D H⟩ (fun σ H' hp => ?_) ?_
  · obtain ⟨r, rfl, d', s'⟩ := hp
    obtain ⟨gs, wh, n, e1, e2, gl, w0, w1⟩ := d'.ex
    have at0 : ∀ b c, atI [V.ref D.ga, b, c] 0 = some (.ref D.ga) := fun _ _ => atI_nat (j := 0) rfl
    refine ⟨_, rfl, D.dk, _, _, _, rfl, rfl, SqL.of e1, at0 _ _, (by show 0 ≤ sizeLine; decide), fun el ne => ?_⟩
    have q1 := same_new ne (.lst [])
    refine ⟨D.ga, el, _, rfl, rfl, SqL.of (q1 _ _ e2), SqL.of upd_same, _, rfl, ?_⟩
    have d1 := d'.same q1
    have s1 := s'.trans (SameD.of q1)
    have e1' := q1 _ _ e1
    have e2' := q1 _ _ e2
    generalize upd H' el (.lst []) = H1 at d1 s1 e1' e2'
    cases hg : gs with
    | nil =>
      refine iteF ?_
      subst hg
      -- the count
      refine ⟨_, rfl, D.dk, _, _, _, rfl, rfl, SqL.of e1', atI_nat (j := 2) rfl, _, _, rfl, rfl, _, rfl, D.dk, _, _, 2, rfl, rfl, e1', rfl, ?_⟩
      have x1 : (upd H1 D.dk (.lst [.ref D.ga, .int wh, .int (n + 1)])) D.dk = some (.lst [.ref D.ga, .int wh, .int (n + 1)]) := upd_same
      have x2 : (upd H1 D.dk (.lst [.ref D.ga, .int wh, .int (n + 1)])) D.ga = some (.lst []) := by rw [upd_ne d.ne.symm]; exact e2'
      have s2 : SameD D H (upd H1 D.dk (.lst [.ref D.ga, .int wh, .int (n + 1)])) := s1.trans fun b o h1 _ e => by rw [upd_ne h1]; exact e
      have y1 : atI [V.ref D.ga, .int wh, .int (n + 1)] 1 = some (.int wh) := atI_nat (j := 1) rfl
      have y2 : atI [V.ref D.ga, .int wh, .int (n + 1)] 2 = some (.int (n + 1)) := atI_nat (j := 2) rfl
      refine ⟨_, rfl, D.dk, _, _, _, rfl, rfl, SqL.of x1, y1, _, rfl, D.dk, _, _, _, rfl, rfl, SqL.of x1, y2, _, _, rfl, rfl, .inl ⟨by decide, by decide⟩, _, _, rfl, rfl, _, _, rfl, rfl, .inl ⟨by omega, by omega⟩, ?_⟩
      refine ⟨_, rfl, D.dk, _, _, _, rfl, rfl, SqL.of x1, y2, _, _, rfl, rfl, .inl ⟨by decide, by decide⟩, _, _, rfl, rfl, ?_⟩
      refine ⟨_, rfl, _, _, rfl, rfl, (show (0 : Int) < 2305843009213693951 by decide), ?_⟩
      refine ⟨_, rfl, _, rfl, _, _, rfl, rfl, .inl (modP _ _ (by decide) (by decide)), _, _, rfl, rfl, (show (0 : Int) < 2305843009213693951 by decide), ?_⟩
      refine ⟨_, rfl, _, rfl, _, _, rfl, rfl, .inl (modP _ _ (by decide) (by decide)), _, _, rfl, rfl, (show (0 : Int) < 4611686018427387847 by decide), _, _, rfl, rfl, ⟨by decide, by decide⟩, _, rfl, _, _, rfl, rfl, m0, ?_⟩
      exact q _ _ (Int.emod_nonneg _ (by omega)) (Int.emod_lt_of_pos _ m0) ⟨⟨[], wh, n + 1, x1, x2, by decide, w0, w1⟩, d.ne⟩ s2
    | cons g0 gr =>
      refine iteT ?_
      have gne : gs ≠ [] := by rw [hg]; exact List.cons_ne_nil _ _
      have gl' : gs.length - 1 < gs.length := by rw [hg]; exact Nat.lt_succ_self _
      have lst : (gs.map V.int)[(gs.map V.int).length - 1]? = some (.int gs[gs.length - 1]) := by
        rw [List.length_map, List.getElem?_map, List.getElem?_eq_getElem gl']
        rfl
      refine ⟨_, rfl, D.dk, _, _, _, rfl, rfl, SqL.of e1', at0 _ _, .inl ⟨rfl, _, SqL.of e2'⟩, D.ga, _, _, rfl, rfl, e2', lst, ?_⟩
      have z1 : (upd H1 D.ga (.lst (gs.map V.int).dropLast)) D.dk = some (.lst [.ref D.ga, .int wh, .int n]) := by rw [upd_ne d.ne]; exact e1'
      have z2 : (upd H1 D.ga (.lst (gs.map V.int).dropLast)) D.ga = some (.lst (gs.dropLast.map V.int)) := by rw [upd_same, List.map_dropLast]
      have s2 : SameD D H (upd H1 D.ga (.lst (gs.map V.int).dropLast)) := s1.trans fun b o _ h2 e => by rw [upd_ne h2]; exact e
      have dl : gs.dropLast.length < gs.length := by rw [List.length_dropLast]; exact gl'
      refine ⟨_, rfl, _, _, rfl, rfl, _, rfl, ite2 (fun _ => ?_) (fun _ => ?_)⟩
      · refine ⟨_, rfl, D.dk, _, _, _, rfl, rfl, SqL.of z1, at0 _ _, .inl ⟨rfl, _, SqL.of z2⟩, _, rfl, _, rfl, _, _, rfl, rfl, ⟨m0, m1⟩, D.ga, _, _, rfl, rfl, z2, by rw [List.length_map]; exact small1000 (by omega), ?_⟩
        refine ⟨_, rfl, _, rfl, _, _, rfl, rfl, m0, ?_⟩
        refine q _ _ (Int.emod_nonneg _ (by omega)) (Int.emod_lt_of_pos _ m0) ⟨⟨gs.dropLast ++ [gs[gs.length - 1] / m], wh, n, ?_, ?_, ?_, w0, w1⟩, d.ne⟩ ?_
        · rw [upd_ne d.ne]; exact z1
        · rw [upd_same, List.map_append]; rfl
        · rw [List.length_append, List.length_cons, List.length_nil]; omega
        · exact s2.trans fun b o _ h2 e => by rw [upd_ne h2]; exact e
      · refine ⟨⟨_, rfl, ⟨⟨gs.dropLast, wh, n, z1, z2, by omega, w0, w1⟩, d.ne⟩, s2⟩, ?_⟩
        show (match (upd H1 D.ga (.lst (gs.map V.int).dropLast)) D.ga with | some (.lst xs) => xs.length | _ => 0) < (match H' D.ga with | some (.lst xs) => xs.length | _ => 0)
        rw [z2, e2]
        show (gs.dropLast.map V.int).length < (gs.map V.int).length
        rw [List.length_map, List.length_map]
        exact dl
  · intro σ H' Q1 Q2 hQ h
    obtain ⟨v, e, p, xs, i, y, e2, e3, e4, e5, e6, h⟩ := h
    refine ⟨v, e, p, xs, i, y, e2, e3, e4, e5, e6, fun el ne => ?_⟩
    obtain ⟨a, b, zs, h1, h2, h3, h4, k, h5, h6⟩ := h el ne
    exact ⟨a, b, zs, h1, h2, h3, h4, k, h5, hQ _ _ h6⟩
end
/-! ### _law_begin -/
def spBegin (K : PySem.W.Frag) : Sp := fun vs H Q _ => ∃ (a : Addr) (ns : List Int), vs = [.ref a] ∧ SqL K H a (ns.map V.int) ∧ ns.length ≤ 63 ∧ ∀ (D : Deck) (H' : Hp), DeckOk H' D → Same H H' → Q (.ref D.dk) H'
section
variable {P : Program} {w : World} {K : PySem.W.Frag} {mg : Str → Option Value} {base : Heap} {f : Addr} {fd : FuncData}
theorem ok_begin {k : Nat} (F : Fun K "_law_begin" "_law_begin" s__law_begin f fd) (M : Mgs mg) : FnOk P w K mg base CX0 (k + 1) f fd ["_law_script"] (spBegin K) := by
  refine F.ok sc__law_begin (fun vs H Q E h => ?_) (fun cdv A outer s H vs Q E hr h => ?_)
  · obtain ⟨a, ns, rfl, _⟩ := h
    rfl
  obtain ⟨a, ns, rfl, hS, hn, q⟩ := h
  refine ⟨_, (pss_cons (ps_setLc (i := 2) (own := [("_law_cell", 1)]) (g := gName 1) (by rfl) sc__law_begin.nd rfl rfl (sw_true rfl rfl rfl (by decide +kernel)) (pi_list (pv 0)) (blkOk_by (N := ["_law_script", "_law_cell", "_law_greats", "_law_whole"]) (sc := defScope s__law_begin) (by decide +kernel)) (fun _ _ _ _ _ => (pg_name (i := 1) sc__law_begin.nd rfl (.inl rfl))) (fun _ _ _ _ _ => pts_one (pt_cmpR op_ge (pe_callB call_abs rfl M.abs (by decide +kernel) (pa_cons (pv 1) pa_nil)) (pe_op op_pow pe_int pe_int) (nomark _))) (fun _ _ _ _ _ => (pe_callB call_abs rfl M.abs (by decide +kernel) (pa_cons (pv 1) pa_nil))))
    (pss_cons (ps_set (i := 3) sc__law_begin.nd rfl (.inl rfl) (pe_op op_add pe_int (pe_callB call_len_seq rfl M.len PySem.boot_len (pa_cons (pv 0) pa_nil))))
    (pss_cons (ps_for PassesOwn.never rfl (pi_list (pv 0)) (pg_name (i := 1) sc__law_begin.nd rfl (.inl rfl))
      (pss_one (ps_set (i := 3) sc__law_begin.nd rfl (.inl rfl) (pe_op op_mod (pe_op op_add (pe_op op_add (pe_op op_mul (pv 3) pe_int) (pe_op op_mul pe_int (pe_callB call_abs rfl M.abs (by decide +kernel) (pa_cons (pv 1) pa_nil)))) (pe_callTy call_int1 rfl M.int (by decide +kernel) (pa_cons (pe_cmpR op_lt (pv 1) pe_int (nomark _)) pa_nil))) pe_int))))
    (pss_one (ps_ret (pe_lst (pa_cons (pe_revL (pv 2)) (pa_cons (pv 3) (pa_cons pe_int pa_nil))))))))), ?_⟩
  refine ⟨.ref a, rfl, a, rfl, ⟨_, hS⟩, fun d1 n1 => ?_⟩
  have s1 := same_new n1 (.lst [])
  refine lc_list (K := K) (a := a) (xs := ns.map V.int) (fun i H' => Same H H' ∧ ∃ zs : List Int, zs.length ≤ i ∧ H' d1 = some (.lst (zs.map V.int))) ⟨s1, [], Nat.le_refl _, upd_same⟩ (fun i H' _ hp => hp.1.seq hS) (fun i x H' hx hp => ?_) (fun H1 hp => ?_)
  · obtain ⟨sm, zs, hz, hd⟩ := hp
    rw [List.getElem?_map] at hx
    obtain ⟨y, hy, rfl⟩ := Option.map_eq_some_iff.mp hx
    have hi : i < 63 := by
      have := (List.getElem?_eq_some_iff.mp hy).1
      omega
    refine ⟨rfl, ?_⟩
    refine ⟨_, rfl, _, rfl, _, _, rfl, rfl, ⟨by decide, by decide, by decide⟩, _, _, rfl, rfl, _, rfl, ite2 (fun _ => ?_) (fun _ => ?_)⟩
    · refine ⟨_, rfl, _, rfl, _, hd, by rw [List.length_map]; exact small1000 (by omega), fun b o e => ?_, zs ++ [if y < 0 then -y else y], by rw [List.length_append]; show zs.length + 1 ≤ i + 1; omega, ?_⟩
      · rw [upd_ne (ne_of_none e n1)]
        exact sm _ _ e
      · rw [upd_same, List.map_append]
        rfl
    · exact ⟨sm, zs, by omega, hd⟩
  obtain ⟨sm, zs, hz, hd⟩ := hp
  rw [List.length_map] at hz
  refine ⟨.ref a, rfl, a, _, rfl, .inl (sm.seq hS), _, _, rfl, rfl, ?_⟩
  refine ⟨.ref a, rfl, a, rfl, ⟨_, sm.seq hS⟩, ?_⟩
  refine for_list (K := K) (a := a) (xs := ns.map V.int) (fun i σ H' => H' = H1 ∧ ∃ (c : Option V) (wh : Int), σ = [some (.ref a), c, some (.ref d1), some (.int wh)] ∧ 0 ≤ wh ∧ wh < 2 ^ 62) ⟨rfl, _, _, rfl, by omega, by rw [List.length_map]; omega⟩ (fun i σ H' _ hp => by rw [hp.1]; exact sm.seq hS) (fun i x σ H' hx hp => ?_) (fun σ H' hp => ?_)
  · obtain ⟨rfl, c, wh, rfl, w0, w1⟩ := hp
    rw [List.getElem?_map] at hx
    obtain ⟨y, hy, rfl⟩ := Option.map_eq_some_iff.mp hx
    refine ⟨_, rfl, _, _, rfl, rfl, .inl ⟨by omega, by omega⟩, _, rfl, _, rfl, _, _, rfl, rfl, .inl ⟨by decide, by decide⟩, _, _, rfl, rfl, _, rfl, _, _, rfl, rfl, .inr ⟨_, rfl, _, _, rfl, rfl, _, _, rfl, rfl, (show (0 : Int) < 2305843009213693951 by decide), ?_⟩⟩
    refine ⟨rfl, _, _, rfl, Int.emod_nonneg _ (by decide), ?_⟩
    exact Int.lt_trans (Int.emod_lt_of_pos _ (by decide)) (by decide)
  · obtain ⟨rfl, c, wh, rfl, w0, w1⟩ := hp
    refine ⟨_, rfl, d1, _, rfl, SqL.of hd, fun ga nga => ?_⟩
    refine ⟨_, rfl, (by show 3 ≤ sizeLine; decide), fun dk ndk => ?_⟩
    have s2 := same_new nga (.lst (zs.map V.int).reverse)
    have s3 := same_new ndk (.lst [.ref ga, .int wh, .int 0])
    have ega : (upd H' ga (.lst (zs.map V.int).reverse)) ga = some (.lst (zs.reverse.map V.int)) := by rw [upd_same, List.map_reverse]
    exact q ⟨dk, ga⟩ _ ⟨⟨zs.reverse, wh, 0, upd_same, s3 _ _ ega, by rw [List.length_reverse]; omega, w0, w1⟩, (ne_of_none ega ndk).symm⟩ (sm.trans (s2.trans s3))
end
/-! ### _law_mixed, _law_free -/
abbrev vc (c : Nat) : V := .str (ch c)
theorem erase_perm {α : Type} : ∀ {l : List α} {i : Nat} (h : i < l.length), List.Perm (l[i] :: l.eraseIdx i) l
  | x :: l, 0, _ => List.Perm.refl _
  | x :: l, i + 1, h => by
    have := erase_perm (l := l) (i := i) (Nat.lt_of_succ_lt_succ h)
    show List.Perm (l[i]'(Nat.lt_of_succ_lt_succ h) :: x :: l.eraseIdx i) (x :: l)
    exact (List.Perm.swap _ _ _).trans (this.cons x)
def spMixed : Sp := fun vs H Q _ => ∃ (D : Deck) (a : Addr) (ls : List Nat), vs = [.ref D.dk, .ref a] ∧ DeckOk H D ∧ H a = some (.lst (ls.map vc)) ∧ Off D a ∧ ls.length ≤ 60 ∧
  ∀ (p : Addr) (zs : List Nat) (H' : Hp), DeckOk H' D → SameD D H H' → H' p = some (.lst (zs.map vc)) → zs.Perm ls → Off D p → Q (.ref p) H'
section
variable {P : Program} {w : World} {K : PySem.W.Frag} {mg : Str → Option Value} {base : Heap} {f : Addr} {fd : FuncData}
theorem ok_mixed {k : Nat} (F : Fun K "_law_mixed" "_law_mixed" s__law_mixed f fd) (M : Mgs mg) (D_law_next : Df P w K mg base k "_law_next" ["_law_deck", "_law_many"] spNext) : FnOk P w K mg base CX0 (k + 1) f fd ["_law_deck", "_law_items"] spMixed := by
  refine F.ok sc__law_mixed (fun vs H Q E h => ?_) (fun cdv A outer s H vs Q E hr h => ?_)
  · obtain ⟨D, a, ls, rfl, _⟩ := h
    rfl
  obtain ⟨D, a, ls, rfl, d, ea, oa, hl, q⟩ := h
  refine ⟨_, (pss_cons (ps_par (i := 2) (j := 3) (by rfl) sc__law_mixed.nd rfl rfl (by decide) rfl rfl (pa_cons (pe_callTy call_list_of rfl M.list (by decide +kernel) (pa_cons (pv 1) pa_nil)) (pa_cons (pe_lst pa_nil) pa_nil)) (by rfl))
    (pss_cons (ps_while PassesOwn.never (pt_cmpR (op_neL hr.units0) (pv 2) (pe_lst pa_nil) (nomark _))
      (pss_one (ps_expr (pe_bm PySem.F.plainAttrs_list PySem.F.slot_list_append PySem.F.type_list_append mt_append (pv 3) (pa_cons (pe_bm PySem.F.plainAttrs_list PySem.F.slot_list_pop PySem.F.type_list_pop mt_popAt (pv 2) (pa_cons (pe_call D_law_next.ok (hr.mono (by omega)) rfl D_law_next.g D_law_next.kp D_law_next.b .nil pass0 (pa_cons (pv 0) (pa_cons (pe_callB call_len_seq rfl M.len PySem.boot_len (pa_cons (pv 2) pa_nil)) pa_nil))) pa_nil)) pa_nil)))))
    (pss_one (ps_ret (pv 3))))), ?_⟩
  refine ⟨_, rfl, a, _, rfl, .inl (SqL.of ea), fun ra nra => ⟨(by show 0 ≤ sizeLine; decide), fun fa nfa => ?_⟩⟩
  refine ⟨_, _, rfl, ?_⟩
  have q1 := same_new nra (.lst (ls.map vc))
  have q2 := same_new nfa (.lst [])
  have era := q2 _ _ (upd_same (H := H) (a := ra) (o := .lst (ls.map vc)))
  have nrf : ra ≠ fa := ne_of_none upd_same nfa
  have nfaH : H fa = none := by
    rw [upd_ne nrf.symm] at nfa
    exact nfa
  have ora := d.new nra
  have ofa := d.new nfaH
  refine while_by (fun σ H' => σ = [some (.ref D.dk), some (.ref a), some (.ref ra), some (.ref fa)] ∧ ∃ rest xs : List Nat, DeckOk H' D ∧ SameD D H H' ∧ H' ra = some (.lst (rest.map vc)) ∧ H' fa = some (.lst (xs.map vc)) ∧ (xs ++ rest).Perm ls) (fun σ H' => match H' ra with | some (.lst xs) => xs.length | _ => 0)
    ⟨rfl, ls, [], (d.same q1).same q2, SameD.of (q1.trans q2), era, upd_same, List.Perm.refl _⟩ (fun σ H' hp => ?_) ?_
  · obtain ⟨rfl, rest, xs, d', s', er, ef, pm⟩ := hp
    have hlen : xs.length + rest.length = ls.length := by rw [← List.length_append]; exact pm.length_eq
    refine ⟨_, rfl, (by show 0 ≤ sizeLine; decide), fun el ne => ?_⟩
    have q3 := same_new ne (.lst [])
    refine ⟨ra, el, _, rfl, rfl, SqL.of (q3 _ _ er), SqL.of upd_same, _, rfl, ?_⟩
    have d1 := d'.same q3
    have s1 := s'.trans (SameD.of q3)
    have er1 := q3 _ _ er
    have ef1 := q3 _ _ ef
    generalize upd H' el (.lst []) = H1 at d1 s1 er1 ef1
    cases hg : rest with
    | nil =>
      refine iteF ?_
      subst hg
      rw [List.append_nil] at pm
      exact ⟨_, rfl, q fa xs H1 d1 s1 ef1 pm ofa⟩
    | cons g0 gr =>
      refine iteT ?_
      have r0 : 0 < rest.length := by rw [hg]; exact Nat.succ_pos _
      refine ⟨_, rfl, .inl ⟨rfl, _, SqL.of ef1⟩, _, rfl, .inl ⟨rfl, _, SqL.of er1⟩, _, rfl, _, rfl, ra, _, rfl, .inl (SqL.of er1), D, _, rfl, d1, ?_, ?_, fun j H2 j0 j1 d2 s2 => ?_⟩
      · rw [List.length_map]; omega
      · rw [List.length_map]; omega
      rw [List.length_map] at j1
      have hj : j.toNat < rest.length := by omega
      have er2 := s2.at ora er1
      have ef2 := s2.at ofa ef1
      refine ⟨ra, _, j, j.toNat, vc rest[j.toNat], rfl, rfl, er2, by omega, by omega, ?_, ?_, ?_⟩
      · exact (ixN_seq (ixN_nat j0 (by rw [List.length_map]; omega))).1
      · rw [List.getElem?_map, List.getElem?_eq_getElem hj]; rfl
      have ef3 : (upd H2 ra (.lst ((rest.map vc).eraseIdx j.toNat))) fa = some (.lst (xs.map vc)) := by rw [upd_ne nrf.symm]; exact ef2
      refine ⟨fa, _, _, rfl, rfl, ef3, by rw [List.length_map]; exact small1000 (by omega), ?_⟩
      refine ⟨⟨rfl, rest.eraseIdx j.toNat, xs ++ [rest[j.toNat]], (d2.put ora _).put ofa _, ((s1.trans s2).put nra _).put nfaH _, ?_, ?_, ?_⟩, ?_⟩
      · rw [upd_ne nrf, upd_same, erase_map]
      · rw [upd_same, List.map_append]; rfl
      · rw [List.append_assoc]
        exact (List.Perm.append_left xs (erase_perm hj)).trans pm
      · show (match (upd (upd H2 ra _) fa (.lst (xs.map vc ++ [vc rest[j.toNat]]))) ra with | some (.lst xs) => xs.length | _ => 0) < (match H' ra with | some (.lst xs) => xs.length | _ => 0)
        rw [upd_ne nrf, upd_same, er]
        show ((rest.map vc).eraseIdx j.toNat).length < (rest.map vc).length
        rw [List.length_eraseIdx_of_lt (by rw [List.length_map]; exact hj), List.length_map]
        omega
  · intro σ H' Q1 Q2 hQ h
    obtain ⟨v, e, h0, h⟩ := h
    refine ⟨v, e, h0, fun el ne => ?_⟩
    obtain ⟨a, b, zs, h1, h2, h3, h4, k, h5, h6⟩ := h el ne
    exact ⟨a, b, zs, h1, h2, h3, h4, k, h5, hQ _ _ h6⟩
end
def spFree (n : Nat) : Sp := fun vs H Q _ => ∃ (D : Deck) (a : Addr) (ls : List Nat), vs = [.ref D.dk, .ref a] ∧ DeckOk H D ∧ H a = some (.lst (ls.map vc)) ∧ Off D a ∧ ls.length < n ∧ ls.length ≤ 60 ∧
  ∀ (p : Addr) (zs : List Nat) (H' : Hp), DeckOk H' D → SameD D H H' → H' p = some (.lst (zs.map vc)) → zs.Perm ls → Off D p → Q (.ref p) H'
section
variable {P : Program} {w : World} {K : PySem.W.Frag} {mg : Str → Option Value} {base : Heap} {f : Addr} {fd : FuncData}
theorem op_eqL {X : Cx} (hu : X.A.units < cLine) : OpR X (compareOp .Eq) (fun x y H Q => ∃ a b xs, x = .ref a ∧ y = .ref b ∧ SqL X.K H a xs ∧ SqL X.K H b [] ∧ Q (.bl xs.isEmpty) H) := by
  intro pins s σ H x y v u Q I rx ry h
  obtain ⟨a, b, xs, rfl, rfl, hx, hy, q⟩ := h
  cases rx
  cases ry
  obtain ⟨its, r1, t1, _⟩ := I.list hx
  obtain ⟨its2, r2, t2, _⟩ := I.list hy
  cases r2
  cases r1 with
  | nil =>
    have rc := SeqAt.RcAt.lists (A := X.A) (s := s) (items := ([] : List Value).toArray) (items2 := ([] : List Value).toArray) (e := fun _ => true) t1.isList t2.isList rfl hu (fun j h1 _ => absurd h1 (by simp))
    exact rc X.prog X.w X.xe _ ⟨.bl _, H, I, rfl, q⟩
  | cons _ _ =>
    have rc := SeqAt.RcAt.lists_lengths (A := X.A) (s := s) t1.isList t2.isList (by simp) hu
    exact rc X.prog X.w X.xe _ ⟨.bl _, H, I, rfl, q⟩
theorem ok_free (F : Fun K "_law_free" "_law_free" s__law_free f fd) (b : Binds K fd ["_law_deck", "_law_letters"] []) (g : mg "_law_free" = some (.ref f)) (M : Mgs mg) (D_law_next : Df P w K mg base 1 "_law_next" ["_law_deck", "_law_many"] spNext) :
    ∀ n : Nat, FnOk P w K mg base CX0 (n + 1) f fd ["_law_deck", "_law_letters"] (spFree n)
  | 0 => by
    have no : ∀ vs H Q E, ¬ spFree 0 vs H Q E := fun vs H Q E h => by
      obtain ⟨D, a, ls, _, _, _, _, h1, _⟩ := h
      omega
    exact ⟨fun vs H Q E h => absurd h (no vs H Q E), fun A outer s H args us vs Q E _ _ _ _ h => absurd h (no vs H Q E)⟩
  | n + 1 => by
    have Dself : Df P w K mg base (n + 1) "_law_free" ["_law_deck", "_law_letters"] (spFree n) := ⟨f, fd, ok_free F b g M D_law_next n, b, F.kp, g⟩
    refine F.ok sc__law_free (fun vs H Q E h => ?_) (fun cdv A outer s H vs Q E hr h => ?_)
    · obtain ⟨D, a, ls, rfl, _⟩ := h
      rfl
    obtain ⟨D, a, ls, rfl, d, ea, oa, hn, hl, q⟩ := h
    refine ⟨_, (pss_cons (ps_if (pt_cmpR (op_eqL hr.units0) (pv 1) (pe_lst pa_nil) (nomark _))
      (pss_one (ps_ret (pe_lst pa_nil))) pss_nil)
    (pss_cons (ps_set (i := 2) sc__law_free.nd rfl (.inl rfl) (pe_call D_law_next.ok (hr.mono (by omega)) rfl D_law_next.g D_law_next.kp D_law_next.b .nil pass0 (pa_cons (pv 0) (pa_cons (pe_callB call_len_seq rfl M.len PySem.boot_len (pa_cons (pv 1) pa_nil)) pa_nil))))
    (pss_one (ps_ret (pe_op op_cat (pe_op op_cat (pe_lst (pa_cons (pe_ix ix_list (pv 1) (pv 2) (fun _ _ => rfl)) pa_nil)) (pe_call Dself.ok (hr.mono (by omega)) rfl Dself.g Dself.kp Dself.b .nil pass0 (pa_cons (pv 0) (pa_cons (pe_slice sl_list (pv 1) po_none (po_some (pv 2))) pa_nil)))) (pe_call Dself.ok (hr.mono (by omega)) rfl Dself.g Dself.kp Dself.b .nil pass0 (pa_cons (pv 0) (pa_cons (pe_slice sl_list (pv 1) (po_some (pe_op op_add (pv 2) pe_int)) po_none) pa_nil)))))))), ?_⟩
    refine ⟨_, rfl, (by show 0 ≤ sizeLine; decide), fun el ne => ?_⟩
    have q1 := same_new ne (.lst [])
    refine ⟨a, el, _, rfl, rfl, SqL.of (q1 _ _ ea), SqL.of upd_same, _, rfl, ite2 (fun c => ?_) (fun c => ?_)⟩
    · have e0 : ls = [] := by
        have := List.isEmpty_iff.mp c
        exact List.map_eq_nil_iff.mp this
      refine ⟨(by show 0 ≤ sizeLine; decide), fun p np => ?_⟩
      have q2 := same_new np (.lst [])
      subst e0
      exact q p [] _ ((d.same q1).same q2) (SameD.of (q1.trans q2)) upd_same (List.Perm.refl _) ((d.same q1).new np)
    · have l0 : 0 < ls.length := by
        cases ls with
        | nil => exact absurd rfl c
        | cons _ _ => exact Nat.succ_pos _
      refine ⟨_, rfl, _, rfl, a, _, rfl, .inl (SqL.of (q1 _ _ ea)), D, _, rfl, d.same q1, by rw [List.length_map]; omega, by rw [List.length_map]; omega, fun j H1 j0 j1 d1 s1 => ?_⟩
      rw [List.length_map] at j1
      have hj : j.toNat < ls.length := by omega
      have ej : j = ((j.toNat : Nat) : Int) := by omega
      have sA := (SameD.of q1).trans s1
      have ea1 := sA.at oa ea
      refine ⟨_, rfl, _, rfl, a, _, _, _, rfl, rfl, SqL.of ea1, at_map j0 (List.getElem?_eq_getElem hj), (by show 1 ≤ sizeLine; decide), fun r nr => ?_⟩
      have q2 := same_new nr (.lst [vc ls[j.toNat]])
      have or_ := d1.new nr
      have er := upd_same (H := H1) (a := r) (o := .lst [vc ls[j.toNat]])
      have d2 := d1.same q2
      have s2 := sA.trans (SameD.of q2)
      have ea2 := q2 _ _ ea1
      generalize upd H1 r (.lst [vc ls[j.toNat]]) = H2 at d2 s2 ea2 er
      refine ⟨_, rfl, _, rfl, _, rfl, _, rfl, a, _, rfl, SqL.of ea2, fun p1 np1 => ?_⟩
      rw [ej, cut_to, ← List.map_take]
      have q3 := same_new np1 (.lst ((ls.take j.toNat).map vc))
      have lt : (ls.take j.toNat).length = j.toNat := by rw [List.length_take]; omega
      refine ⟨D, p1, ls.take j.toNat, rfl, d2.same q3, upd_same, d2.new np1, by omega, by omega, fun pl zl H3 d3 s3 el3 pml ol => ?_⟩
      have s23 := (SameD.of (D := D) q3).trans s3
      refine ⟨r, pl, _, _, rfl, rfl, s23.at or_ er, el3, ?_, fun r2 nr2 => ?_⟩
      · rw [List.length_map, pml.length_eq]; exact small (by show 1 + _ ≤ 1000; omega)
      have q4 := same_new nr2 (.lst ([vc ls[j.toNat]] ++ zl.map vc))
      have or2 := d3.new nr2
      have er2 := upd_same (H := H3) (a := r2) (o := .lst ([vc ls[j.toNat]] ++ zl.map vc))
      have d4 := d3.same q4
      have s4 := (s2.trans s23).trans (SameD.of q4)
      have ea4 := s4.at oa ea
      generalize upd H3 r2 (.lst ([vc ls[j.toNat]] ++ zl.map vc)) = H4 at d4 s4 ea4 er2
      refine ⟨_, rfl, _, rfl, _, rfl, _, _, rfl, rfl, _, rfl, a, _, rfl, SqL.of ea4, fun p2 np2 => ?_⟩
      rw [show cutV (ls.map vc) (some (((j.toNat : Nat) : Int) + 1)) none = (ls.drop (j.toNat + 1)).map vc by rw [show ((j.toNat : Nat) : Int) + 1 = ((j.toNat + 1 : Nat) : Int) by omega, cut_from, List.map_drop]]
      have q5 := same_new np2 (.lst ((ls.drop (j.toNat + 1)).map vc))
      have ld : (ls.drop (j.toNat + 1)).length = ls.length - 1 - j.toNat := by rw [List.length_drop]; omega
      refine ⟨D, p2, ls.drop (j.toNat + 1), rfl, d4.same q5, upd_same, d4.new np2, by omega, by omega, fun pr zr H5 d5 s5 er5 pmr or5 => ?_⟩
      have s45 := (SameD.of (D := D) q5).trans s5
      refine ⟨r2, pr, _, _, rfl, rfl, s45.at or2 er2, er5, ?_, fun r3 nr3 => ?_⟩
      · rw [List.length_append, List.length_map, List.length_map, pml.length_eq, pmr.length_eq]; exact small (by show 1 + _ + _ ≤ 1000; omega)
      have q6 := same_new nr3 (.lst (([vc ls[j.toNat]] ++ zl.map vc) ++ zr.map vc))
      refine q r3 (ls[j.toNat] :: (zl ++ zr)) _ (d5.same q6) ((s4.trans s45).trans (SameD.of q6)) ?_ ?_ (d5.new nr3)
      · rw [upd_same, List.map_cons, List.map_append]; rfl
      · have h1 : (ls[j.toNat] :: (zl ++ zr)).Perm (ls[j.toNat] :: (ls.take j.toNat ++ ls.drop (j.toNat + 1))) := (pml.append pmr).cons _
        refine h1.trans ?_
        refine List.Perm.symm (List.perm_middle.symm.trans ?_).symm
        rw [← List.drop_eq_getElem_cons hj, List.take_append_drop]
end
/-! ### _law_order -/
theorem iteI {i j : Int} {A B : Prop} (h : i = j) (a : A) : if decide (V.int i = V.int j) = true then A else B := by
  rw [if_pos (decide_eq_true (congrArg V.int h))]; exact a
theorem iteJ {i j : Int} {A B : Prop} (h : i ≠ j) (b : B) : if decide (V.int i = V.int j) = true then A else B := by
  rw [if_neg (fun z => h (V.int.inj (of_decide_eq_true z)))]; exact b
def abcN : List Nat := (Str.ofString "abcdefghijklmnopqrstuvwxyz").cps.toList
theorem abcN_len : abcN.length = 26 := by decide +kernel
theorem abcN_nodup : abcN.Nodup := by decide +kernel
theorem abcN_in : ∀ c ∈ abcN, 97 ≤ c ∧ c ≤ 122 := by decide +kernel
theorem perm_ch {ys : List Str} {l : List Nat} (h : ys.Perm (l.map ch)) : ∃ zs : List Nat, ys = zs.map ch ∧ zs.Perm l := by
  have hy : ∀ y ∈ ys, ch ((fun y : Str => y.cps.toList.headD 0) y) = y := fun y hy => by
    obtain ⟨c, _, rfl⟩ := List.mem_map.mp (h.mem_iff.mp hy)
    rfl
  refine ⟨ys.map fun y => y.cps.toList.headD 0, ?_, ?_⟩
  · rw [List.map_map]
    clear h
    induction ys with
    | nil => rfl
    | cons y r ih =>
      rw [List.map_cons, ← ih fun z hz => hy z (List.mem_cons_of_mem _ hz)]
      exact congrArg (· :: r) (hy y List.mem_cons_self).symm
  · have := h.map (fun y : Str => y.cps.toList.headD 0)
    rw [List.map_map] at this
    have e : l.map ((fun y : Str => y.cps.toList.headD 0) ∘ ch) = l := by
      clear h this
      induction l with
      | nil => rfl
      | cons c r ih => rw [List.map_cons, ih]; rfl
    rw [e] at this
    exact this
theorem map_vc (l : List Nat) : l.map vc = (l.map ch).map V.str := by rw [List.map_map]; rfl
/-- letters, each once -/
def Lts (l : List Nat) : Prop := l.Nodup ∧ ∀ c ∈ l, 97 ≤ c ∧ c ≤ 122
theorem Lts.perm {l l' : List Nat} (h : Lts l) (p : l'.Perm l) : Lts l' := ⟨p.nodup_iff.mpr h.1, fun c hc => h.2 c (p.mem_iff.mp hc)⟩
theorem Lts.sub {l l' : List Nat} (h : Lts l) (p : l'.Sublist l) : Lts l' := ⟨h.1.sublist p, fun c hc => h.2 c (p.subset hc)⟩
theorem abcN_lts : Lts abcN := ⟨abcN_nodup, abcN_in⟩
def spOrder : Sp := fun vs H Q _ => ∃ (D : Deck) (lo hi : Nat), vs = [.ref D.dk, .int (lo : Int), .int (hi : Int)] ∧ DeckOk H D ∧ lo ≤ hi ∧ hi ≤ 26 ∧
  ∀ (zs : List Nat) (H' : Hp), DeckOk H' D → SameD D H H' → Lts zs → lo ≤ zs.length → zs.length ≤ hi → Q (.str (tx zs)) H'
section
variable {P : Program} {w : World} {K : PySem.W.Frag} {mg : Str → Option Value} {base : Heap} {f : Addr} {fd : FuncData}
theorem ok_order (F : Fun K "_law_order" "_law_order" s__law_order f fd) (M : Mgs mg) (D_law_next : Df P w K mg base 1 "_law_next" ["_law_deck", "_law_many"] spNext) (D_law_mixed : Df P w K mg base 2 "_law_mixed" ["_law_deck", "_law_items"] spMixed)
    (D_law_free : Df P w K mg base 31 "_law_free" ["_law_deck", "_law_letters"] (spFree 30)) : FnOk P w K mg base CX0 32 f fd ["_law_deck", "_law_low", "_law_high"] spOrder := by
  refine F.ok sc__law_order (fun vs H Q E h => ?_) (fun cdv A outer s H vs Q E hr h => ?_)
  · obtain ⟨D, lo, hi, rfl, _⟩ := h
    rfl
  obtain ⟨D, lo, hi, rfl, d, lh, h26, q⟩ := h
  refine ⟨_, (pss_cons (ps_par (i := 3) (j := 4) (by rfl) sc__law_order.nd rfl rfl (by decide) rfl rfl (pa_cons (pe_op op_add (pv 1) (pe_call D_law_next.ok (hr.mono (by omega)) rfl D_law_next.g D_law_next.kp D_law_next.b .nil pass0 (pa_cons (pv 0) (pa_cons (pe_op op_add (pe_op op_sub (pv 2) (pv 1)) pe_int) pa_nil)))) (pa_cons (pe_call D_law_next.ok (hr.mono (by omega)) rfl D_law_next.g D_law_next.kp D_law_next.b .nil pass0 (pa_cons (pv 0) (pa_cons pe_int pa_nil))) pa_nil)) (by rfl))
    (pss_cons (ps_set (i := 5) sc__law_order.nd rfl (.inl rfl) (pe_callB cr_sortedS rfl M.sorted (by decide +kernel) (pa_cons (pe_slice sl_list (pe_call D_law_mixed.ok (hr.mono (by omega)) rfl D_law_mixed.g D_law_mixed.kp D_law_mixed.b .nil pass0 (pa_cons (pv 0) (pa_cons (pe_callTy (call_signs rfl) rfl M.list (by decide +kernel) (pa_cons pe_str pa_nil)) pa_nil))) po_none (po_some (pv 3))) pa_nil)))
    (pss_cons (ps_if (pt_cmpR op_eq (pv 4) pe_int (nomark _))
      (pss_one (ps_set (i := 5) sc__law_order.nd rfl (.inl rfl) (pe_call D_law_mixed.ok (hr.mono (by omega)) rfl D_law_mixed.g D_law_mixed.kp D_law_mixed.b .nil pass0 (pa_cons (pv 0) (pa_cons (pv 5) pa_nil))))) pss_nil)
    (pss_cons (ps_if (pt_cmpR op_eq (pv 4) pe_int (nomark _))
      (pss_one (ps_set (i := 5) sc__law_order.nd rfl (.inl rfl) (pe_revL (pv 5)))) pss_nil)
    (pss_cons (ps_if (pt_cmpR op_eq (pv 4) pe_int (nomark _))
      (pss_one (ps_set (i := 5) sc__law_order.nd rfl (.inl rfl) (pe_call D_law_free.ok (hr.mono (by omega)) rfl D_law_free.g D_law_free.kp D_law_free.b .nil pass0 (pa_cons (pv 0) (pa_cons (pv 5) pa_nil))))) pss_nil)
    (pss_one (ps_ret (pe_bm PySem.F.plainAttrs_str PySem.F.slot_str_join PySem.F.type_str_join mt_join pe_str (pa_cons (pv 5) pa_nil))))))))), ?_⟩
  refine ⟨_, rfl, _, rfl, _, rfl, _, rfl, _, _, rfl, rfl, _, _, rfl, rfl, D, _, rfl, d, by omega, by omega, fun i H1 i0 i1 d1 s1 => ?_⟩
  refine ⟨_, _, rfl, rfl, _, rfl, D, _, rfl, d1, by decide, by decide, fun wy H2 w0 w1 d2 s2 => ?_⟩
  refine ⟨_, _, rfl, ?_⟩
  have s12 := s1.trans s2
  refine ⟨_, rfl, _, rfl, by decide +kernel, fun la nla => ?_⟩
  have q1 := same_new nla (.lst (abcN.map vc))
  refine ⟨D, la, abcN, rfl, d2.same q1, upd_same, d2.new nla, by rw [abcN_len]; decide, fun pm zm H3 d3 s3 em pmm om => ?_⟩
  have s13 := s12.trans ((SameD.of q1).trans s3)
  have ei : (lo : Int) + i = ((lo + i.toNat : Nat) : Int) := by omega
  refine ⟨_, rfl, _, rfl, pm, _, rfl, SqL.of em, fun pc npc => ?_⟩
  rw [ei, cut_to, ← List.map_take]
  have q2 := same_new npc (.lst ((zm.take (lo + i.toNat)).map vc))
  have tl : (zm.take (lo + i.toNat)).length = lo + i.toNat := by rw [List.length_take, pmm.length_eq, abcN_len]; omega
  have lt0 : Lts (zm.take (lo + i.toNat)) := (abcN_lts.perm pmm).sub (List.take_sublist _ _)
  have ec : (upd H3 pc (.lst ((zm.take (lo + i.toNat)).map vc))) pc = some (.lst (((zm.take (lo + i.toNat)).map ch).map V.str)) := by rw [upd_same, map_vc]
  refine ⟨pc, (zm.take (lo + i.toNat)).map ch, rfl, SqL.of ec, by rw [List.length_map, tl]; omega, fun ys ps pms _ nps => ?_⟩
  obtain ⟨zs, rfl, pz⟩ := perm_ch pms
  rw [← map_vc]
  have q3 := same_new nps (.lst (zs.map vc))
  have ltz := lt0.perm pz
  have zl : zs.length = lo + i.toNat := pz.length_eq.trans tl
  have d5 := (d3.same q2).same q3
  have s15 := s13.trans (SameD.of (q2.trans q3))
  have ops := (d3.same q2).new nps
  have eps := upd_same (H := upd H3 pc (.lst ((zm.take (lo + i.toNat)).map vc))) (a := ps) (o := .lst (zs.map vc))
  generalize upd (upd H3 pc (.lst ((zm.take (lo + i.toNat)).map vc))) ps (.lst (zs.map vc)) = H5 at d5 s15 eps
  have fin : ∀ (p : Addr) (us : List Nat) (H' : Hp), DeckOk H' D → SameD D H H' → H' p = some (.lst (us.map vc)) → us.Perm zs → ∃ (a : Str) (p' : Addr) (ys : List Str), V.str (Str.ofString "") = .str a ∧ [V.ref p] = [.ref p'] ∧ (SqL K H' p' (ys.map V.str) ∨ SqT K H' p' (ys.map V.str)) ∧ (ys.map (·.length)).sum + ys.length * a.length ≤ 16777216 ∧ Q (.str (Txt.join a ys)) H' := fun p us H' d' s' e' pu => by
    refine ⟨_, p, us.map ch, rfl, rfl, .inl (SqL.of (by rw [← map_vc]; exact e')), tx_joinOk us (by rw [pu.length_eq]; omega), ?_⟩
    rw [tx_join]
    exact q us H' d' s' (ltz.perm pu) (by rw [pu.length_eq]; omega) (by rw [pu.length_eq]; omega)
  have hw : wy = 0 ∨ wy = 1 ∨ wy = 2 ∨ wy = 3 := by omega
  rcases hw with rfl | rfl | rfl | rfl
  · refine ⟨_, rfl, rfl, _, rfl, iteI rfl ?_⟩
    refine ⟨_, rfl, _, rfl, D, ps, zs, rfl, d5, eps, ops, by omega, fun p us H6 d6 s6 e6 p6 o6 => ?_⟩
    refine ⟨_, rfl, rfl, _, rfl, iteJ (by decide) ?_⟩
    refine ⟨_, rfl, rfl, _, rfl, iteJ (by decide) ?_⟩
    exact ⟨rfl, _, rfl, fin p us H6 d6 (s15.trans s6) e6 p6⟩
  · refine ⟨_, rfl, rfl, _, rfl, iteJ (by decide) ?_⟩
    refine ⟨_, rfl, rfl, _, rfl, iteI rfl ?_⟩
    refine ⟨_, rfl, ps, _, rfl, SqL.of eps, fun p np => ?_⟩
    refine ⟨_, rfl, rfl, _, rfl, iteJ (by decide) ?_⟩
    have q6 := same_new np (.lst (zs.map vc).reverse)
    exact ⟨rfl, _, rfl, fin p zs.reverse _ (d5.same q6) (s15.trans (SameD.of q6)) (by rw [upd_same, List.map_reverse]) (List.reverse_perm _)⟩
  · refine ⟨_, rfl, rfl, _, rfl, iteJ (by decide) ?_⟩
    refine ⟨_, rfl, rfl, _, rfl, iteJ (by decide) ?_⟩
    refine ⟨_, rfl, rfl, _, rfl, iteI rfl ?_⟩
    refine ⟨_, rfl, _, rfl, D, ps, zs, rfl, d5, eps, ops, by omega, by omega, fun p us H6 d6 s6 e6 p6 o6 => ?_⟩
    exact ⟨rfl, _, rfl, fin p us H6 d6 (s15.trans s6) e6 p6⟩
  · refine ⟨_, rfl, rfl, _, rfl, iteJ (by decide) ?_⟩
    refine ⟨_, rfl, rfl, _, rfl, iteJ (by decide) ?_⟩
    refine ⟨_, rfl, rfl, _, rfl, iteJ (by decide) ?_⟩
    exact ⟨rfl, _, rfl, fin ps zs H5 d5 s15 eps (List.Perm.refl _)⟩
end
/-! ### trees by inserting -/
def B.ins : B → Nat → B
  | .nil, c => .node .nil c .nil
  | .node l x r, c => if c < x then .node (l.ins c) x r else .node l x (r.ins c)
theorem B.ins_size (t : B) (c : Nat) : (t.ins c).size = t.size + 1 := by
  induction t with
  | nil => rfl
  | node l x r h1 h2 =>
    show (if c < x then B.node (l.ins c) x r else .node l x (r.ins c)).size = l.size + 1 + r.size + 1
    split
    · show (l.ins c).size + 1 + r.size = _
      omega
    · show l.size + 1 + (r.ins c).size = _
      omega
def gr (zs : List Nat) : B := zs.foldl B.ins .nil
theorem foldl_ins_size (zs : List Nat) : ∀ t : B, (zs.foldl B.ins t).size = t.size + zs.length := by
  induction zs with
  | nil => intro t; rfl
  | cons c r ih => intro t; rw [List.foldl_cons, ih, B.ins_size, List.length_cons]; omega
theorem gr_size (zs : List Nat) : (gr zs).size = zs.length := by
  unfold gr
  rw [foldl_ins_size]
  exact Nat.zero_add _
def spPut (n : Nat) : Sp := fun vs H Q _ => ∃ (v : V) (t : B) (c : Nat), vs = [v, .str (ch c)] ∧ BAt H v t ∧ t.size < n ∧ ∀ (v' : V) (H' : Hp), Same H H' → BAt H' v' (t.ins c) → Q v' H'
section
variable {P : Program} {w : World} {K : PySem.W.Frag} {mg : Str → Option Value} {base : Heap} {f : Addr} {fd : FuncData}
theorem ok_with (F : Fun K "with_letter" "with_letter" s_with_letter f fd) (b : Binds K fd ["tree", "letter"] []) (g : mg "with_letter" = some (.ref f)) : ∀ n : Nat, FnOk P w K mg base CX0 n f fd ["tree", "letter"] (spPut n)
  | 0 => by
    have no : ∀ vs H Q E, ¬ spPut 0 vs H Q E := fun vs H Q E h => by
      obtain ⟨v, t, c, _, _, h1, _⟩ := h
      omega
    exact ⟨fun vs H Q E h => absurd h (no vs H Q E), fun A outer s H args us vs Q E _ _ _ _ h => absurd h (no vs H Q E)⟩
  | n + 1 => by
    have Dself : Df P w K mg base n "with_letter" ["tree", "letter"] (spPut n) := ⟨f, fd, ok_with F b g n, b, F.kp, g⟩
    refine F.ok sc_with_letter (fun vs H Q E h => ?_) (fun cdv A outer s H vs Q E hr h => ?_)
    · obtain ⟨v, t, c, rfl, _⟩ := h
      rfl
    obtain ⟨v, t, c, rfl, hv, hn, q⟩ := h
    refine ⟨_, (pss_cons (ps_if (pt_cmpR op_isN (pv 0) pe_non (nomark _))
      (pss_one (ps_ret (pe_tup (pa_cons pe_non (pa_cons (pv 1) (pa_cons pe_non pa_nil)))))) pss_nil)
    (pss_cons (ps_asg (pv 0) (pg_tup rfl (pgs_cons (pg_name (i := 2) sc_with_letter.nd rfl (.inl rfl)) (pgs_cons (pg_name (i := 3) sc_with_letter.nd rfl (.inl rfl)) (pgs_cons (pg_name (i := 4) sc_with_letter.nd rfl (.inl rfl)) pgs_nil)))))
    (pss_cons (ps_if (pt_cmpR op_lt_str (pv 1) (pv 3) (nomark _))
      (pss_one (ps_ret (pe_tup (pa_cons (pe_call Dself.ok (hr.mono (by omega)) rfl Dself.g Dself.kp Dself.b .nil pass0 (pa_cons (pv 2) (pa_cons (pv 1) pa_nil))) (pa_cons (pv 3) (pa_cons (pv 4) pa_nil)))))) pss_nil)
    (pss_one (ps_ret (pe_tup (pa_cons (pv 2) (pa_cons (pv 3) (pa_cons (pe_call Dself.ok (hr.mono (by omega)) rfl Dself.g Dself.kp Dself.b .nil pass0 (pa_cons (pv 4) (pa_cons (pv 1) pa_nil))) pa_nil))))))))), ?_⟩
    rcases hv.inv with ⟨rfl, rfl⟩ | ⟨a, l, r, x, tl, tr, rfl, rfl, ea, hl, hr'⟩
    · refine ⟨_, rfl, rfl, _, rfl, iteT ?_⟩
      refine ⟨_, rfl, (by show 3 ≤ sizeLine; decide), fun p np => ?_⟩
      exact q _ _ (same_new np _) (.node upd_same .nil .nil)
    · refine ⟨_, rfl, rfl, _, rfl, iteF ?_⟩
      refine ⟨_, rfl, a, _, rfl, SqT.of ea, rfl, _, _, rfl, _, _, rfl, _, _, rfl, rfl, ?_⟩
      have sz : tl.size + 1 + tr.size < n + 1 := hn
      refine ⟨_, rfl, _, rfl, _, _, rfl, rfl, _, rfl, ?_⟩
      rw [ch_lt]
      have ei : (B.node tl x tr).ins c = if c < x then .node (tl.ins c) x tr else .node tl x (tr.ins c) := rfl
      rw [ei] at q
      by_cases hc : c < x
      · rw [decide_eq_true hc]
        rw [if_pos hc] at q
        refine iteT ?_
        refine ⟨_, rfl, _, rfl, l, tl, c, rfl, hl, by omega, fun v' H' s' h' => ?_⟩
        refine ⟨_, rfl, _, rfl, (by show 3 ≤ sizeLine; decide), fun p np => ?_⟩
        have sn := same_new np (.tup [v', .str (ch x), r])
        exact q _ _ (s'.trans sn) (.node upd_same (h'.same sn) ((hr'.same s').same sn))
      · rw [decide_eq_false hc]
        rw [if_neg hc] at q
        refine iteF ?_
        refine ⟨_, rfl, _, rfl, _, rfl, _, rfl, r, tr, c, rfl, hr', by omega, fun v' H' s' h' => ?_⟩
        refine ⟨(by show 3 ≤ sizeLine; decide), fun p np => ?_⟩
        have sn := same_new np (.tup [l, .str (ch x), v'])
        exact q _ _ (s'.trans sn) (.node upd_same ((hl.same s').same sn) (h'.same sn))
theorem ok_size (F : Fun K "size_of" "size_of" s_size_of f fd) (b : Binds K fd ["tree"] []) (g : mg "size_of" = some (.ref f)) : ∀ n : Nat, FnOk P w K mg base CX0 n f fd ["tree"]
    (fun vs H Q _ => ∃ (v : V) (t : B), vs = [v] ∧ BAt H v t ∧ t.size < n ∧ Q (.int (t.size : Int)) H)
  | 0 => by
    have no : ∀ (vs : List V) (H : Hp) (Q : VK), ¬ (∃ (v : V) (t : B), vs = [v] ∧ BAt H v t ∧ t.size < 0 ∧ Q (.int (t.size : Int)) H) := fun vs H Q h => by
      obtain ⟨v, t, _, _, h1, _⟩ := h
      omega
    exact ⟨fun vs H Q E h => absurd h (no vs H Q), fun A outer s H args us vs Q E _ _ _ _ h => absurd h (no vs H Q)⟩
  | n + 1 => by
    have Dself : Df P w K mg base n "size_of" ["tree"] (fun vs H Q _ => ∃ (v : V) (t : B), vs = [v] ∧ BAt H v t ∧ t.size < n ∧ Q (.int (t.size : Int)) H) := ⟨f, fd, ok_size F b g n, b, F.kp, g⟩
    refine F.ok sc_size_of (fun vs H Q E h => ?_) (fun cdv A outer s H vs Q E hr h => ?_)
    · obtain ⟨v, t, rfl, _⟩ := h
      rfl
    obtain ⟨v, t, rfl, hv, hn, q⟩ := h
    refine ⟨_, (pss_cons (ps_if (pt_cmpR op_isN (pv 0) pe_non (nomark _))
      (pss_one (ps_ret pe_int)) pss_nil)
    (pss_one (ps_ret (pe_op op_add (pe_op op_add (pe_call Dself.ok (hr.mono (by omega)) rfl Dself.g Dself.kp Dself.b .nil pass0 (pa_cons (pe_ix ix_tup (pv 0) pe_int (fun _ _ => rfl)) pa_nil)) pe_int) (pe_call Dself.ok (hr.mono (by omega)) rfl Dself.g Dself.kp Dself.b .nil pass0 (pa_cons (pe_ix ix_tup (pv 0) pe_int (fun _ _ => rfl)) pa_nil)))))), ?_⟩
    rcases hv.inv with ⟨rfl, rfl⟩ | ⟨a, l, r, x, tl, tr, rfl, rfl, ea, hl, hr'⟩
    · exact ⟨_, rfl, rfl, _, rfl, iteT q⟩
    · refine ⟨_, rfl, rfl, _, rfl, iteF ?_⟩
      have sz : tl.size + 1 + tr.size < n + 1 := hn
      refine ⟨_, rfl, a, _, _, _, rfl, rfl, SqT.of ea, atI_nat (j := 0) rfl, l, tl, rfl, hl, by omega, _, _, rfl, rfl, ?_⟩
      refine ⟨_, rfl, a, _, _, _, rfl, rfl, SqT.of ea, atI_nat (j := 2) rfl, r, tr, rfl, hr', by omega, _, _, rfl, rfl, ?_⟩
      have e : ((B.node tl x tr).size : Int) = (tl.size : Int) + 1 + (tr.size : Int) := by
        show ((tl.size + 1 + tr.size : Nat) : Int) = _
        omega
      rw [e] at q
      exact q
theorem take_next {zs : List Nat} {i c : Nat} (h : zs[i]? = some c) : zs.take (i + 1) = zs.take i ++ [c] := by
  rw [List.take_succ, h]
  rfl
end
/-! ### walks -/
inductive Kd where
  | first
  | between
  | last
def Kd.str : Kd → Str
  | .first => "first"
  | .between => "between"
  | .last => "last"
def B.post : B → List Nat
  | .nil => []
  | .node l x r => l.post ++ r.post ++ [x]
def B.wk (k : Kd) (t : B) : List Nat := match k with
  | .first => t.pre
  | .between => t.mid
  | .last => t.post
def B.steps (k : Kd) : B → List Nat → List (List Nat × Nat)
  | .nil, _ => []
  | .node l x r, q => match k with
    | .first => [(q, x)] ++ l.steps k (q ++ [108]) ++ r.steps k (q ++ [114])
    | .between => l.steps k (q ++ [108]) ++ [(q, x)] ++ r.steps k (q ++ [114])
    | .last => l.steps k (q ++ [108]) ++ r.steps k (q ++ [114]) ++ [(q, x)]
theorem B.steps_wk (k : Kd) (t : B) : ∀ q : List Nat, (t.steps k q).map (·.2) = t.wk k := by
  induction t with
  | nil => intro q; cases k <;> rfl
  | node l x r h1 h2 =>
    intro q
    have a := h1 (q ++ [108])
    have b := h2 (q ++ [114])
    cases k
    · show ([(q, x)] ++ l.steps .first (q ++ [108]) ++ r.steps .first (q ++ [114])).map (·.2) = x :: (l.pre ++ r.pre)
      rw [List.map_append, List.map_append, a, b]; rfl
    · show (l.steps .between (q ++ [108]) ++ [(q, x)] ++ r.steps .between (q ++ [114])).map (·.2) = l.mid ++ x :: r.mid
      rw [List.map_append, List.map_append, a, b]
      show l.mid ++ [x] ++ r.mid = _
      rw [List.append_assoc]; rfl
    · show (l.steps .last (q ++ [108]) ++ r.steps .last (q ++ [114]) ++ [(q, x)]).map (·.2) = l.post ++ r.post ++ [x]
      rw [List.map_append, List.map_append, a, b]; rfl
theorem B.wk_len (k : Kd) (t : B) : (t.wk k).length = t.size := by
  cases k
  · exact t.pre_len
  · exact t.mid_len
  · show t.post.length = t.size
    induction t with
    | nil => rfl
    | node l x r h1 h2 =>
      show (l.post ++ r.post ++ [x]).length = l.size + 1 + r.size
      rw [List.length_append, List.length_append, h1, h2, List.length_cons, List.length_nil]
      omega
theorem B.steps_len (k : Kd) (t : B) (q : List Nat) : (t.steps k q).length = t.size := by
  rw [← t.wk_len k, ← t.steps_wk k q, List.length_map]
inductive StAt (H : Hp) : List V → List (List Nat × Nat) → Prop
  | nil : StAt H [] []
  | cons {a : Addr} {q : List Nat} {x : Nat} {vs : List V} {ss : List (List Nat × Nat)} : H a = some (.tup [.str (tx q), .str (ch x)]) → StAt H vs ss → StAt H (.ref a :: vs) ((q, x) :: ss)
theorem StAt.keep {H H' : Hp} (k : KeepT H H') {vs : List V} {ss : List (List Nat × Nat)} (h : StAt H vs ss) : StAt H' vs ss := by
  induction h with
  | nil => exact .nil
  | cons e _ ih => exact .cons (k _ _ e) ih
theorem StAt.same {H H' : Hp} (k : Same H H') {vs : List V} {ss : List (List Nat × Nat)} (h : StAt H vs ss) : StAt H' vs ss := h.keep (Tw.Same.keepT k)
theorem StAt.app {H : Hp} {vs us : List V} {ss ts : List (List Nat × Nat)} (h : StAt H vs ss) (g : StAt H us ts) : StAt H (vs ++ us) (ss ++ ts) := by
  induction h with
  | nil => exact g
  | cons e _ ih => exact .cons e ih
theorem StAt.len {H : Hp} {vs : List V} {ss : List (List Nat × Nat)} (h : StAt H vs ss) : vs.length = ss.length := by
  induction h with
  | nil => rfl
  | cons _ _ ih => rw [List.length_cons, List.length_cons, ih]
theorem StAt.get {H : Hp} {vs : List V} {ss : List (List Nat × Nat)} (h : StAt H vs ss) : ∀ {i : Nat} {v : V}, vs[i]? = some v → ∃ a q x, v = .ref a ∧ ss[i]? = some (q, x) ∧ H a = some (.tup [.str (tx q), .str (ch x)]) := by
  induction h with
  | nil => intro i v e; simp at e
  | cons e _ ih =>
    intro i v he
    cases i with
    | zero => cases he; exact ⟨_, _, _, rfl, rfl, e⟩
    | succ i => exact ih he
theorem str_l : Str.ofString "l" = tx [108] := by decide +kernel
theorem str_r : Str.ofString "r" = tx [114] := by decide +kernel
theorem str_0 : Str.ofString "" = tx [] := by decide +kernel
def spDeep (n : Nat) : Sp := fun vs H Q _ => ∃ (v : V) (t : B) (k : Kd) (q : List Nat), vs = [v, .str k.str, .str (tx q)] ∧ BAt H v t ∧ t.size < n ∧ t.size + q.length ≤ 200 ∧
  ∀ (p : Addr) (us : List V) (H' : Hp), Same H H' → H' p = some (.lst us) → StAt H' us (t.steps k q) → Q (.ref p) H'
theorem iteS {x y : Str} {A B : Prop} (h : x = y) (a : A) : if decide (V.str x = V.str y) = true then A else B := by
  rw [if_pos (decide_eq_true (congrArg V.str h))]; exact a
theorem iteR {x y : Str} {A B : Prop} (h : x ≠ y) (b : B) : if decide (V.str x = V.str y) = true then A else B := by
  rw [if_neg (fun z => h (V.str.inj (of_decide_eq_true z)))]; exact b
section
variable {P : Program} {w : World} {K : PySem.W.Frag} {mg : Str → Option Value} {base : Heap} {f : Addr} {fd : FuncData}
theorem ok_deep (F : Fun K "deep_steps" "deep_steps" s_deep_steps f fd) (b : Binds K fd ["tree", "kind", "path"] []) (g : mg "deep_steps" = some (.ref f)) : ∀ n : Nat, FnOk P w K mg base CX0 n f fd ["tree", "kind", "path"] (spDeep n)
  | 0 => by
    have no : ∀ vs H Q E, ¬ spDeep 0 vs H Q E := fun vs H Q E h => by
      obtain ⟨v, t, k, q, _, _, h1, _⟩ := h
      omega
    exact ⟨fun vs H Q E h => absurd h (no vs H Q E), fun A outer s H args us vs Q E _ _ _ _ h => absurd h (no vs H Q E)⟩
  | n + 1 => by
    have Dself : Df P w K mg base n "deep_steps" ["tree", "kind", "path"] (spDeep n) := ⟨f, fd, ok_deep F b g n, b, F.kp, g⟩
    refine F.ok sc_deep_steps (fun vs H Q E h => ?_) (fun cdv A outer s H vs Q E hr h => ?_)
    · obtain ⟨v, t, k, q, rfl, _⟩ := h
      rfl
    obtain ⟨v, t, k, pth, rfl, hv, hn, hz, q⟩ := h
    refine ⟨_, (pss_cons (ps_if (pt_cmpR op_isN (pv 0) pe_non (nomark _))
      (pss_one (ps_ret (pe_lst pa_nil))) pss_nil)
    (pss_cons (ps_asg (pv 0) (pg_tup rfl (pgs_cons (pg_name (i := 3) sc_deep_steps.nd rfl (.inl rfl)) (pgs_cons (pg_name (i := 4) sc_deep_steps.nd rfl (.inl rfl)) (pgs_cons (pg_name (i := 5) sc_deep_steps.nd rfl (.inl rfl)) pgs_nil)))))
    (pss_cons (ps_set (i := 6) sc_deep_steps.nd rfl (.inl rfl) (pe_lst (pa_cons (pe_tup (pa_cons (pv 2) (pa_cons (pv 4) pa_nil))) pa_nil)))
    (pss_cons (ps_set (i := 7) sc_deep_steps.nd rfl (.inl rfl) (pe_call Dself.ok (hr.mono (by omega)) rfl Dself.g Dself.kp Dself.b .nil pass0 (pa_cons (pv 3) (pa_cons (pv 1) (pa_cons (pe_op op_add_str (pv 2) pe_str) pa_nil)))))
    (pss_cons (ps_set (i := 8) sc_deep_steps.nd rfl (.inl rfl) (pe_call Dself.ok (hr.mono (by omega)) rfl Dself.g Dself.kp Dself.b .nil pass0 (pa_cons (pv 5) (pa_cons (pv 1) (pa_cons (pe_op op_add_str (pv 2) pe_str) pa_nil)))))
    (pss_cons (ps_if (pt_cmpR op_eq (pv 1) pe_str (nomark _))
      (pss_one (ps_ret (pe_op op_cat (pe_op op_cat (pv 6) (pv 7)) (pv 8)))) pss_nil)
    (pss_cons (ps_if (pt_cmpR op_eq (pv 1) pe_str (nomark _))
      (pss_one (ps_ret (pe_op op_cat (pe_op op_cat (pv 7) (pv 6)) (pv 8)))) pss_nil)
    (pss_one (ps_ret (pe_op op_cat (pe_op op_cat (pv 7) (pv 8)) (pv 6))))))))))), ?_⟩
    rcases hv.inv with ⟨rfl, rfl⟩ | ⟨a, l, r, x, tl, tr, rfl, rfl, ea, hl, hr'⟩
    · refine ⟨_, rfl, rfl, _, rfl, iteT ⟨(by show 0 ≤ sizeLine; decide), fun p np => ?_⟩⟩
      exact q p [] _ (same_new np _) upd_same .nil
    · refine ⟨_, rfl, rfl, _, rfl, iteF ?_⟩
      refine ⟨_, rfl, a, _, rfl, SqT.of ea, rfl, _, _, rfl, _, _, rfl, _, _, rfl, rfl, ?_⟩
      have sz : tl.size + 1 + tr.size < n + 1 := hn
      have sz2 : tl.size + 1 + tr.size + pth.length ≤ 200 := hz
      -- root
      refine ⟨_, rfl, _, rfl, (by show 2 ≤ sizeLine; decide), fun tp ntp => ⟨(by show 1 ≤ sizeLine; decide), fun ro nro => ?_⟩⟩
      have q1 := same_new ntp (.tup [.str (tx pth), .str (ch x)])
      have q2 := same_new nro (.lst [.ref tp])
      have etp := q2 _ _ (upd_same (H := H) (a := tp) (o := .tup [.str (tx pth), .str (ch x)]))
      have ero := upd_same (H := upd H tp (.tup [.str (tx pth), .str (ch x)])) (a := ro) (o := .lst [.ref tp])
      have s1 := q1.trans q2
      generalize upd (upd H tp (.tup [.str (tx pth), .str (ch x)])) ro (.lst [.ref tp]) = H1 at etp ero s1
      -- lefts
      refine ⟨_, rfl, _, rfl, _, rfl, _, _, rfl, rfl, ?_, ?_⟩
      · rw [str_l, tx_len, tx_len]; exact small (by show _ + 1 ≤ 1000; omega)
      rw [str_l, tx_app]
      refine ⟨l, tl, k, pth ++ [108], rfl, hl.same s1, by omega, by rw [List.length_append]; show _ + (_ + 1) ≤ 200; omega, fun lp ul H2 s2 elp stl => ?_⟩
      -- rights
      refine ⟨_, rfl, _, rfl, _, rfl, _, _, rfl, rfl, ?_, ?_⟩
      · rw [str_r, tx_len, tx_len]; exact small (by show _ + 1 ≤ 1000; omega)
      rw [str_r, tx_app]
      refine ⟨r, tr, k, pth ++ [114], rfl, (hr'.same s1).same s2, by omega, by rw [List.length_append]; show _ + (_ + 1) ≤ 200; omega, fun rp ur H3 s3 erp str => ?_⟩
      have ero3 := s3 _ _ (s2 _ _ ero)
      have elp3 := s3 _ _ elp
      have strt : StAt H3 [.ref tp] [(pth, x)] := .cons (s3 _ _ (s2 _ _ etp)) .nil
      have stl3 := stl.same s3
      have sA := (s1.trans s2).trans s3
      have ll := stl.len
      have lr := str.len
      rw [B.steps_len] at ll lr
      cases k
      · refine ⟨_, rfl, rfl, _, rfl, iteS rfl ?_⟩
        refine ⟨_, rfl, _, rfl, ro, lp, _, _, rfl, rfl, ero3, elp3, small (by show 1 + _ ≤ 1000; omega), fun c1 n1 => ?_⟩
        have k1 := same_new n1 (.lst ([.ref tp] ++ ul))
        refine ⟨_, rfl, c1, rp, _, _, rfl, rfl, upd_same, k1 _ _ erp, small (by rw [List.length_append]; show 1 + _ + _ ≤ 1000; omega), fun c2 n2 => ?_⟩
        have k2 := same_new n2 (.lst ([.ref tp] ++ ul ++ ur))
        exact q c2 _ _ (sA.trans (k1.trans k2)) upd_same (((strt.app stl3).app str).same (k1.trans k2))
      · refine ⟨_, rfl, rfl, _, rfl, iteR (by decide +kernel) ?_⟩
        refine ⟨_, rfl, rfl, _, rfl, iteS rfl ?_⟩
        refine ⟨_, rfl, _, rfl, lp, ro, _, _, rfl, rfl, elp3, ero3, small (by show _ + 1 ≤ 1000; omega), fun c1 n1 => ?_⟩
        have k1 := same_new n1 (.lst (ul ++ [.ref tp]))
        refine ⟨_, rfl, c1, rp, _, _, rfl, rfl, upd_same, k1 _ _ erp, small (by rw [List.length_append]; show _ + 1 + _ ≤ 1000; omega), fun c2 n2 => ?_⟩
        have k2 := same_new n2 (.lst (ul ++ [.ref tp] ++ ur))
        exact q c2 _ _ (sA.trans (k1.trans k2)) upd_same (((stl3.app strt).app str).same (k1.trans k2))
      · refine ⟨_, rfl, rfl, _, rfl, iteR (by decide +kernel) ?_⟩
        refine ⟨_, rfl, rfl, _, rfl, iteR (by decide +kernel) ?_⟩
        refine ⟨_, rfl, _, rfl, lp, rp, _, _, rfl, rfl, elp3, erp, small (by omega), fun c1 n1 => ?_⟩
        have k1 := same_new n1 (.lst (ul ++ ur))
        refine ⟨_, rfl, c1, ro, _, _, rfl, rfl, upd_same, k1 _ _ ero3, small (by rw [List.length_append]; show _ + _ + 1 ≤ 1000; omega), fun c2 n2 => ?_⟩
        have k2 := same_new n2 (.lst (ul ++ ur ++ [.ref tp]))
        exact q c2 _ _ (sA.trans (k1.trans k2)) upd_same (((stl3.app str).app strt).same (k1.trans k2))
/-- the tuple KINDS of the text -/
structure KindsT (K : PySem.W.Frag) (mg : Str → Option Value) (a : Addr) : Prop where
  mg : mg "KINDS" = some (.ref a)
  sq : ∀ H : Hp, SqT K H a [.str "first", .str "between", .str "last", .str "level"]
def spKind : Sp := fun vs H Q _ => ∃ k : Kd, vs = [.str k.str] ∧ Q (.bl true) H
theorem ok_kind {k : Nat} {aK : Addr} (F : Fun K "is_kind" "is_kind" s_is_kind f fd) (M : Mgs mg) (Kk : KindsT K mg aK) : FnOk P w K mg base CX0 (k + 1) f fd ["value"] spKind := by
  refine F.ok sc_is_kind (fun vs H Q E h => ?_) (fun cdv A outer s H vs Q E hr h => ?_)
  · obtain ⟨k, rfl, _⟩ := h
    rfl
  obtain ⟨k, rfl, q⟩ := h
  refine ⟨_, (pss_one (ps_ret (pe_and (pe_callB call_isi rfl M.isinstance (by decide +kernel) (pa_cons (pv 0) (pa_cons (pe_bltn (v := .ty "str") rfl M.str (by decide +kernel) rfl) pa_nil))) (pe_one (pe_cmpR op_in_seq (pv 0) (pe_glob (v := .ref _) rfl Kk.mg rfl) (by rfl)))))), ?_⟩
  refine ⟨_, rfl, _, _, _, _, true, rfl, .ty _, .base (.str _), kit_ty (by decide +kernel), _, rfl, iteT ?_⟩
  refine ⟨_, rfl, aK, _, rfl, .inr (Kk.sq H), rfl, ?_, ?_⟩
  · rfl
  · have e : (if false = true then !inV (.str k.str) [.str "first", .str "between", .str "last", .str "level"] else inV (.str k.str) [.str "first", .str "between", .str "last", .str "level"]) = true := by
      cases k <;> decide +kernel
    rw [e]
    exact q
def spSteps : Sp := fun vs H Q _ => ∃ (v : V) (t : B) (k : Kd), vs = [v, .str k.str] ∧ BAt H v t ∧ t.size ≤ 50 ∧
  ∀ (p : Addr) (us : List V) (H' : Hp), Same H H' → H' p = some (.lst us) → StAt H' us (t.steps k []) → Q (.ref p) H'
theorem ok_steps (F : Fun K "ordered_steps" "ordered_steps" s_ordered_steps f fd) (Dis_kind : Df P w K mg base 1 "is_kind" ["value"] spKind) (Ddeep_steps : Df P w K mg base 60 "deep_steps" ["tree", "kind", "path"] (spDeep 60)) :
    FnOk P w K mg base CX0 61 f fd ["tree", "kind"] spSteps := by
  refine F.ok sc_ordered_steps (fun vs H Q E h => ?_) (fun cdv A outer s H vs Q E hr h => ?_)
  · obtain ⟨v, t, k, rfl, _⟩ := h
    rfl
  obtain ⟨v, t, k, rfl, hv, hz, q⟩ := h
  refine ⟨_, (pss_cons (ps_if (pt_not (pt_val (pe_call Dis_kind.ok (hr.mono (by omega)) rfl Dis_kind.g Dis_kind.kp Dis_kind.b .nil pass0 (pa_cons (pv 1) pa_nil))))
      (pss_one ps_never) pss_nil)
    (pss_cons (ps_if (pt_cmpR op_eq (pv 1) pe_str (nomark _))
      (pss_one ps_never) pss_nil)
    (pss_one (ps_ret (pe_call Ddeep_steps.ok (hr.mono (by omega)) rfl Ddeep_steps.g Ddeep_steps.kp Ddeep_steps.b .nil pass0 (pa_cons (pv 0) (pa_cons (pv 1) (pa_cons pe_str pa_nil)))))))), ?_⟩
  refine ⟨_, rfl, k, rfl, _, rfl, iteF ?_⟩
  refine ⟨_, rfl, rfl, _, rfl, iteR (by cases k <;> decide +kernel) ?_⟩
  refine ⟨_, rfl, _, rfl, v, t, k, [], ?_, hv, by omega, by show t.size + 0 ≤ 200; omega, q⟩
  rw [← str_0]
  rfl
def spWalk : Sp := fun vs H Q _ => ∃ (v : V) (t : B) (k : Kd), vs = [v, .str k.str] ∧ BAt H v t ∧ t.size ≤ 50 ∧ ∀ H', Same H H' → Q (.str (tx (t.wk k))) H'
theorem ok_walk (F : Fun K "walk" "walk" s_walk f fd) (Dordered_steps : Df P w K mg base 61 "ordered_steps" ["tree", "kind"] spSteps) : FnOk P w K mg base CX0 62 f fd ["tree", "kind"] spWalk := by
  refine F.ok sc_walk (fun vs H Q E h => ?_) (fun cdv A outer s H vs Q E hr h => ?_)
  · obtain ⟨v, t, k, rfl, _⟩ := h
    rfl
  obtain ⟨v, t, k, rfl, hv, hz, q⟩ := h
  refine ⟨_, (pss_one (ps_ret (pe_bm PySem.F.plainAttrs_str PySem.F.slot_str_join PySem.F.type_str_join mt_join pe_str (pa_cons (pe_lc (own := [("path", 2), ("label", 3)]) (g := gTup K 2 (gCons (gName 2) (gCons (gName 3) gNil))) (tt := tYes) rfl sc_walk.nd (pi_list (pe_call Dordered_steps.ok (hr.mono (by omega)) rfl Dordered_steps.g Dordered_steps.kp Dordered_steps.b .nil pass0 (pa_cons (pv 0) (pa_cons (pv 1) pa_nil)))) (blkOk_by (N := ["tree", "kind", "path", "label"]) (sc := defScope s_walk) (by decide +kernel)) (fun _ _ _ _ _ => (pg_tup rfl (pgs_cons (pg_name (i := 2) sc_walk.nd rfl (.inl rfl)) (pgs_cons (pg_name (i := 3) sc_walk.nd rfl (.inl rfl)) pgs_nil)))) (fun _ _ _ _ _ => pts_nil) (fun _ _ _ _ _ => (pv 3))) pa_nil)))), ?_⟩
  refine ⟨rfl, _, rfl, _, rfl, v, t, k, rfl, hv, hz, fun p us H1 s1 ep st => ?_⟩
  refine ⟨p, rfl, ⟨_, SqL.of ep⟩, fun D nD => ?_⟩
  have q1 := same_new nD (.lst [])
  have hl := st.len
  rw [B.steps_len] at hl
  have ez := t.steps_wk k []
  refine lc_list (K := K) (a := p) (xs := us) (fun i H' => Same H1 H' ∧ H' D = some (.lst (((t.wk k).take i).map vc))) ⟨q1, upd_same⟩ (fun i H' _ hp => SqL.of (hp.1 _ _ ep)) (fun i x H' hx hp => ?_) (fun H' hp => ?_)
  · obtain ⟨sm, ed⟩ := hp
    obtain ⟨a, pq, c, rfl, es, ea⟩ := st.get hx
    have hc : (t.wk k)[i]? = some c := by rw [← ez, List.getElem?_map, es]; rfl
    have hi := (List.getElem?_eq_some_iff.mp hx).1
    refine ⟨a, _, rfl, SqT.of (sm _ _ ea), rfl, _, _, rfl, _, _, rfl, rfl, rfl, kept ?_⟩
    refine ⟨_, rfl, _, ed, ?_, fun b o e => ?_, ?_⟩
    · rw [List.length_map, List.length_take]; exact small1000 (by omega)
    · rw [upd_ne (ne_of_none e nD)]; exact sm _ _ e
    · rw [upd_same, take_next hc, List.map_append]; rfl
  · obtain ⟨sm, ed⟩ := hp
    have tk : (t.wk k).take us.length = t.wk k := List.take_of_length_le (by rw [t.wk_len k]; omega)
    rw [tk, map_vc] at ed
    refine ⟨_, D, (t.wk k).map ch, rfl, rfl, .inl (SqL.of ed), tx_joinOk _ (by rw [t.wk_len k]; omega), ?_⟩
    rw [tx_join]
    exact q H' (s1.trans sm)
theorem B.ins_mem (t : B) (c d : Nat) : d ∈ (t.ins c).pre ↔ d = c ∨ d ∈ t.pre := by
  induction t with
  | nil =>
    show d ∈ [c] ↔ d = c ∨ d ∈ []
    simp
  | node l x r h1 h2 =>
    show d ∈ (if c < x then B.node (l.ins c) x r else .node l x (r.ins c)).pre ↔ _
    split
    · show d ∈ x :: ((l.ins c).pre ++ r.pre) ↔ d = c ∨ d ∈ x :: (l.pre ++ r.pre)
      simp only [List.mem_cons, List.mem_append, h1]
      constructor
      · rintro (h | (h | h) | h)
        · exact .inr (.inl h)
        · exact .inl h
        · exact .inr (.inr (.inl h))
        · exact .inr (.inr (.inr h))
      · rintro (h | h | h | h)
        · exact .inr (.inl (.inl h))
        · exact .inl h
        · exact .inr (.inl (.inr h))
        · exact .inr (.inr h)
    · show d ∈ x :: (l.pre ++ (r.ins c).pre) ↔ d = c ∨ d ∈ x :: (l.pre ++ r.pre)
      simp only [List.mem_cons, List.mem_append, h2]
      constructor
      · rintro (h | h | h | h)
        · exact .inr (.inl h)
        · exact .inr (.inr (.inl h))
        · exact .inl h
        · exact .inr (.inr (.inr h))
      · rintro (h | h | h | h)
        · exact .inr (.inr (.inl h))
        · exact .inl h
        · exact .inr (.inl h)
        · exact .inr (.inr (.inr h))
theorem foldl_ins_mem (zs : List Nat) (d : Nat) : ∀ t : B, d ∈ (zs.foldl B.ins t).pre ↔ d ∈ zs ∨ d ∈ t.pre := by
  induction zs with
  | nil => intro t; simp
  | cons c r ih =>
    intro t
    rw [List.foldl_cons, ih, B.ins_mem, List.mem_cons]
    constructor
    · rintro (h | h | h)
      · exact .inl (.inr h)
      · exact .inl (.inl h)
      · exact .inr h
    · rintro ((h | h) | h)
      · exact .inr (.inl h)
      · exact .inl h
      · exact .inr (.inr h)
theorem gr_mem (zs : List Nat) (d : Nat) : d ∈ (gr zs).pre ↔ d ∈ zs := by
  unfold gr
  rw [foldl_ins_mem]
  show d ∈ zs ∨ d ∈ [] ↔ _
  simp
def spIns : Sp := fun vs H Q _ => ∃ (v : V) (t : B) (c : Nat), vs = [v, .str (ch c)] ∧ BAt H v t ∧ t.size < 12 ∧ c ∉ t.pre ∧ ∀ (v' : V) (H' : Hp), Same H H' → BAt H' v' (t.ins c) → Q v' H'
theorem ok_inserted {tM : Tok} (F : Fun K "inserted" "inserted" s_inserted f fd) (mMAX : mg "MAX_NODES" = some (.int 12 tM)) (Dwalk : Df P w K mg base 62 "walk" ["tree", "kind"] spWalk)
    (Dsize_of : Df P w K mg base 60 "size_of" ["tree"] (fun vs H Q _ => ∃ (v : V) (t : B), vs = [v] ∧ BAt H v t ∧ t.size < 60 ∧ Q (.int (t.size : Int)) H)) (Dwith_letter : Df P w K mg base 60 "with_letter" ["tree", "letter"] (spPut 60)) : FnOk P w K mg base CX0 63 f fd ["tree", "letter"] spIns := by
  refine F.ok sc_inserted (fun vs H Q E h => ?_) (fun cdv A outer s H vs Q E hr h => ?_)
  · obtain ⟨v, t, c, rfl, _⟩ := h
    rfl
  obtain ⟨v, t, c, rfl, hv, hz, hc, q⟩ := h
  refine ⟨_, (pss_cons (ps_if (PW.pt (pw_and (pt_cmpR op_notN (pv 0) pe_non (nomark _)) (pw_and1 (pt_cmpR op_in_sign (pv 1) (pe_call Dwalk.ok (hr.mono (by omega)) rfl Dwalk.g Dwalk.kp Dwalk.b .nil pass0 (pa_cons (pv 0) (pa_cons pe_str pa_nil))) (by rfl)))))
      (pss_one ps_never) pss_nil)
    (pss_cons (ps_if (pt_cmpR op_ge (pe_call Dsize_of.ok (hr.mono (by omega)) rfl Dsize_of.g Dsize_of.kp Dsize_of.b .nil pass0 (pa_cons (pv 0) pa_nil)) (pe_glob (v := .int _) rfl mMAX ⟨_, rfl⟩) (nomark _))
      (pss_one ps_never) pss_nil)
    (pss_one (ps_ret (pe_call Dwith_letter.ok (hr.mono (by omega)) rfl Dwith_letter.g Dwith_letter.kp Dwith_letter.b .nil pass0 (pa_cons (pv 0) (pa_cons (pv 1) pa_nil))))))), ?_⟩
  rcases hv.inv with ⟨rfl, rfl⟩ | ⟨a, l, r, x, tl, tr, rfl, rfl, ea, hl, hr'⟩
  · refine ⟨_, rfl, rfl, _, rfl, iteF ?_⟩
    refine ⟨_, rfl, _, .nil, rfl, hv.same (Same.refl H), by omega, _, _, rfl, rfl, _, rfl, ?_⟩
    rw [decide_eq_false (by omega)]
    exact iteF ⟨_, rfl, _, rfl, _, .nil, c, rfl, hv.same (Same.refl H), by omega, fun v' H' s' h' => q v' H' (((Same.refl H)).trans s') h'⟩
  · refine ⟨_, rfl, rfl, _, rfl, iteT ?_⟩
    refine ⟨_, rfl, _, rfl, _, _, .first, rfl, hv, by omega, fun H1 s1 => ?_⟩
    refine ⟨c, _, rfl, rfl, _, rfl, ?_⟩
    rw [decide_eq_false (show ¬ c ∈ (tx ((B.node tl x tr).wk .first)).cps.toList from hc)]
    refine iteF ?_
    refine ⟨_, rfl, _, .node tl x tr, rfl, hv.same s1, by omega, _, _, rfl, rfl, _, rfl, ?_⟩
    rw [decide_eq_false (by omega)]
    exact iteF ⟨_, rfl, _, rfl, _, .node tl x tr, c, rfl, hv.same s1, by omega, fun v' H' s' h' => q v' H' ((s1).trans s') h'⟩
theorem ok_tree_of (F : Fun K "tree_of" "tree_of" s_tree_of f fd) (Dinserted : Df P w K mg base 63 "inserted" ["tree", "letter"] spIns) : FnOk P w K mg base CX0 64 f fd ["order"]
    (fun vs H Q _ => ∃ zs : List Nat, vs = [.str (tx zs)] ∧ zs.Nodup ∧ zs.length ≤ 12 ∧ ∀ (v : V) (H' : Hp), Same H H' → BAt H' v (gr zs) → Q v H') := by
  refine F.ok sc_tree_of (fun vs H Q E h => ?_) (fun cdv A outer s H vs Q E hr h => ?_)
  · obtain ⟨zs, rfl, _⟩ := h
    rfl
  obtain ⟨zs, rfl, nd, hl, q⟩ := h
  refine ⟨_, (pss_cons (ps_set (i := 1) sc_tree_of.nd rfl (.inl rfl) pe_non)
    (pss_cons (ps_for PassesOwn.never rfl (pi_str (pv 0)) (pg_name (i := 2) sc_tree_of.nd rfl (.inl rfl))
      (pss_one (ps_set (i := 1) sc_tree_of.nd rfl (.inl rfl) (pe_call Dinserted.ok (hr.mono (by omega)) rfl Dinserted.g Dinserted.kp Dinserted.b .nil pass0 (pa_cons (pv 1) (pa_cons (pv 2) pa_nil))))))
    (pss_one (ps_ret (pv 1))))), ?_⟩
  refine ⟨_, rfl, _, rfl, ?_⟩
  refine for_text (x := tx zs) (fun i σ H' => ∃ (v : V) (c : Option V), σ = [some (.str (tx zs)), some v, c] ∧ Same H H' ∧ BAt H' v (gr (zs.take i))) ⟨_, _, rfl, Same.refl H, .nil⟩ (fun i c σ H' hc hp => ?_) (fun σ H' hp => ?_)
  · obtain ⟨v, c', rfl, s', h'⟩ := hp
    rw [tx_cps] at hc
    have hi := (List.getElem?_eq_some_iff.mp hc).1
    refine ⟨_, rfl, _, rfl, v, gr (zs.take i), c, rfl, h', ?_, ?_, fun v2 H2 s2 h2 => ?_⟩
    · rw [gr_size, List.length_take]; omega
    · rw [gr_mem]
      intro hm
      have e := take_next hc
      have nt : (zs.take (i + 1)).Nodup := nd.sublist (List.take_sublist _ _)
      rw [e, List.nodup_append] at nt
      exact nt.2.2 c hm c (List.mem_singleton.mpr rfl) rfl
    refine ⟨v2, _, rfl, s'.trans s2, ?_⟩
    rw [take_next hc]
    unfold gr at h2 ⊢
    rw [List.foldl_append]
    exact h2
  · obtain ⟨v, c', rfl, s', h'⟩ := hp
    rw [tx_cps, List.take_length] at h'
    exact ⟨_, rfl, q v H' s' h'⟩
end
/-! ### _law_same, of equal data -/
theorem sqT_same {K : PySem.W.Frag} {H H' : Hp} {a : Addr} {xs : List V} (e : Same H H') (h : SqT K H a xs) : SqT K H' a xs := by
  rcases h with (h | ⟨o, h⟩) | h
  · exact .inl (.inl (e _ _ h))
  · exact .inl (.inr ⟨o, e _ _ h⟩)
  · exact .inr h
mutual
theorem dp_same {K : PySem.W.Frag} {H H' : Hp} (e : Same H H') : ∀ {v : V} {d : PyData}, Dp K H v d → Dp K H' v d
  | _, _, .non => .non
  | _, _, .bl b => .bl b
  | _, _, .int i => .int i
  | _, _, .str x => .str x
  | _, _, .lst h a => .lst (e.seq h) (dpAll_same e a)
  | _, _, .tup h a => .tup (sqT_same e h) (dpAll_same e a)
theorem dpAll_same {K : PySem.W.Frag} {H H' : Hp} (e : Same H H') : ∀ {vs : List V} {ds : List PyData}, DpAll K H vs ds → DpAll K H' vs ds
  | _, _, .nil => .nil
  | _, _, .cons h a => .cons (dp_same e h) (dpAll_same e a)
end
theorem dpAll_len {K : PySem.W.Frag} {H : Hp} : ∀ {vs : List V} {ds : List PyData}, DpAll K H vs ds → vs.length = ds.length
  | _, _, .nil => rfl
  | _, _, .cons _ a => congrArg (· + 1) (dpAll_len a)
theorem dpAll_get {K : PySem.W.Frag} {H : Hp} : ∀ {vs : List V} {ds : List PyData} {i : Nat} {d : PyData}, DpAll K H vs ds → ds[i]? = some d → ∃ v, vs[i]? = some v ∧ Dp K H v d
  | _, _, _, _, .nil, h => by simp at h
  | _, _, 0, _, .cons h _, e => by
    cases e
    exact ⟨_, rfl, h⟩
  | _, _, i + 1, _, .cons _ a, e => dpAll_get (i := i) a e
def tyD : PyData → String
  | .none => "NoneType"
  | .bool _ => "bool"
  | .int _ => "int"
  | .str _ => "str"
  | .list _ => "list"
  | .tuple _ => "tuple"
  | .dict _ => "dict"
theorem dp_ty {K : PySem.W.Frag} {H : Hp} {v : V} {d : PyData} (h : Dp K H v d) : TyX K H v (.type (tyD d)) := by
  cases h with
  | non => exact .base .non
  | bl b => exact .base (.bl b)
  | int i => exact .base (.int i)
  | str x => exact .base (.str x)
  | lst h _ =>
    rcases h with (h | ⟨o, h⟩) | ⟨o, its, n, h, hc, _⟩
    · exact .base (.lst h)
    · exact .base (.frz h)
    · exact .kList h hc
  | tup h _ =>
    rcases h with (h | ⟨o, h⟩) | ⟨o, its, n, h, hc, _⟩
    · exact .base (.tup h)
    · exact .fTuple h
    · exact .kTuple h hc
theorem kit_lt {K : PySem.W.Frag} {a : String} {r s : Bool} (h1 : kitB a "list" = some r) (h2 : kitB a "tuple" = some s) : PySem.W.kitAny K (.type a) [.type "list", .type "tuple"] = some (r || s) := by
  refine kitAny_cons (kit_ty h1) (fun e => kitAny_cons (kit_ty h2) (fun e2 => ?_) fun e2 => ?_) fun e => ?_
  · rw [kitAny_nil, e, e2]; rfl
  · rw [e2, Bool.or_true]
  · rw [e, Bool.true_or]
theorem depth_get : ∀ {ds : List PyData} {i : Nat} {d : PyData}, ds[i]? = some d → d.depth ≤ PyData.depthAll ds
  | [], _, _, h => by simp at h
  | x :: xs, 0, _, h => by
    cases h
    simp only [PyData.depthAll]
    omega
  | x :: xs, i + 1, d, h => by
    have := depth_get (ds := xs) (i := i) h
    simp only [PyData.depthAll]
    omega
mutual
def nar : PyData → Bool
  | .list xs => decide (xs.length ≤ 1000000) && narAll xs
  | .tuple xs => decide (xs.length ≤ 1000000) && narAll xs
  | .dict _ => false
  | .none => true
  | .bool _ => true
  | .int _ => true
  | .str _ => true
def narAll : List PyData → Bool
  | [] => true
  | x :: xs => nar x && narAll xs
end
theorem nar_get : ∀ {ds : List PyData} {i : Nat} {d : PyData}, ds[i]? = some d → narAll ds = true → nar d = true
  | [], _, _, h, _ => by simp at h
  | x :: xs, 0, _, h, k => by
    cases h
    simp only [narAll, Bool.and_eq_true] at k
    exact k.1
  | x :: xs, i + 1, d, h, k => by
    simp only [narAll, Bool.and_eq_true] at k
    exact nar_get (ds := xs) (i := i) h k.2
def spSame (K : PySem.W.Frag) (n : Nat) : Sp := fun vs H Q _ => ∃ (v v' : V) (d : PyData), vs = [v, v'] ∧ Dp K H v d ∧ Dp K H v' d ∧ d.depth < n ∧ nar d = true ∧ ∀ H', Same H H' → Q (.bl true) H'
theorem dp_two {K : PySem.W.Frag} {H : Hp} {v v' : V} {d : PyData} {n : Nat} (h : Dp K H v d) (h' : Dp K H v' d) (hd : d.depth < n + 1) (hn : nar d = true) :
    (∃ (p p' : Addr) (xs xs' : List V) (ds : List PyData) (bl : Bool) (ty : String), v = .ref p ∧ v' = .ref p' ∧ (SqL K H p xs ∨ SqT K H p xs) ∧ (SqL K H p' xs' ∨ SqT K H p' xs') ∧ DpAll K H xs ds ∧ DpAll K H xs' ds ∧
      TyX K H v (.type ty) ∧ TyX K H v' (.type ty) ∧ kitB ty "list" = some bl ∧ kitB ty "tuple" = some (!bl) ∧ PyData.depthAll ds < n ∧ ds.length ≤ 1000000 ∧ narAll ds = true) ∨ (v = v' ∧ (v = .non ∨ (∃ b, v = .bl b) ∨ (∃ i, v = .int i) ∨ ∃ x, v = .str x)) := by
  have t1 := dp_ty h
  have t2 := dp_ty h'
  cases h with
  | non =>
    cases h'
    exact .inr ⟨rfl, .inl rfl⟩
  | bl b =>
    cases h'
    exact .inr ⟨rfl, .inr (.inl ⟨b, rfl⟩)⟩
  | int b =>
    cases h'
    exact .inr ⟨rfl, .inr (.inr (.inl ⟨b, rfl⟩))⟩
  | str b =>
    cases h'
    exact .inr ⟨rfl, .inr (.inr (.inr ⟨b, rfl⟩))⟩
  | lst h a =>
    cases h' with
    | lst h' a' =>
      simp only [PyData.depth] at hd
      simp only [nar, Bool.and_eq_true, decide_eq_true_eq] at hn
      exact .inl ⟨_, _, _, _, _, true, "list", rfl, rfl, .inl h, .inl h', a, a', t1, t2, by decide +kernel, by decide +kernel, by omega, hn.1, hn.2⟩
  | tup h a =>
    cases h' with
    | tup h' a' =>
      simp only [PyData.depth] at hd
      simp only [nar, Bool.and_eq_true, decide_eq_true_eq] at hn
      exact .inl ⟨_, _, _, _, _, false, "tuple", rfl, rfl, .inr h, .inr h', a, a', t1, t2, by decide +kernel, by decide +kernel, by omega, hn.1, hn.2⟩
theorem seq_same {K : PySem.W.Frag} {H H' : Hp} {p : Addr} {xs : List V} (e : Same H H') (h : SqL K H p xs ∨ SqT K H p xs) : SqL K H' p xs ∨ SqT K H' p xs := h.elim (fun h => .inl (e.seq h)) fun h => .inr (sqT_same e h)
theorem seq_ix {K : PySem.W.Frag} {H : Hp} {p : Addr} {xs : List V} {i : Int} {v : V} {Q : VK} (h : SqL K H p xs ∨ SqT K H p xs) (a : atI xs i = some v) (q : Q v H) : rIx K (.ref p) (.int i) H Q :=
  h.elim (fun h => .inl ⟨p, xs, i, v, rfl, rfl, h, a, q⟩) fun h => .inr (.inl ⟨p, xs, i, v, rfl, rfl, h, a, q⟩)
theorem tyX_same {K : PySem.W.Frag} {H H' : Hp} {v : V} {d : PyData} (e : Same H H') (h : Dp K H v d) : TyX K H' v (.type (tyD d)) := dp_ty (dp_same e h)
section
variable {P : Program} {w : World} {K : PySem.W.Frag} {mg : Str → Option Value} {base : Heap} {f : Addr} {fd : FuncData}
theorem kit_tl {K : PySem.W.Frag} {a : String} {r s : Bool} (h1 : kitB a "list" = some r) (h2 : kitB a "tuple" = some s) : PySem.W.kitAny K (.type a) [.type "tuple", .type "list"] = some (r || s) := by
  refine kitAny_cons (kit_ty h2) (fun e => kitAny_cons (kit_ty h1) (fun e2 => ?_) fun e2 => ?_) fun e => ?_
  · rw [kitAny_nil, e, e2]; rfl
  · rw [e2, Bool.true_or]
  · rw [e, Bool.or_true]
theorem ok_same (F : Fun K "_law_same" "_law_same" s__law_same f fd) (b : Binds K fd ["_law_found", "_law_due"] []) (g : mg "_law_same" = some (.ref f)) (M : Mgs mg) : ∀ n : Nat, FnOk P w K mg base CX0 n f fd ["_law_found", "_law_due"] (spSame K n)
  | 0 => by
    have no : ∀ vs H Q E, ¬ spSame K 0 vs H Q E := fun vs H Q E h => by
      obtain ⟨v, t, d, _, _, _, h1, _, _⟩ := h
      omega
    exact ⟨fun vs H Q E h => absurd h (no vs H Q E), fun A outer s H args us vs Q E _ _ _ _ h => absurd h (no vs H Q E)⟩
  | n + 1 => by
    have Dself : Df P w K mg base n "_law_same" ["_law_found", "_law_due"] (spSame K n) := ⟨f, fd, ok_same F b g M n, b, F.kp, g⟩
    refine F.ok sc__law_same (fun vs H Q E h => ?_) (fun cdv A outer s H vs Q E hr h => ?_)
    · obtain ⟨v, t, d, rfl, _⟩ := h
      rfl
    obtain ⟨v, v', d, rfl, hv, hv', hd, hna, q⟩ := h
    refine ⟨_, (pss_cons (ps_if (pt_val (pe_callB call_isiT rfl M.isinstance (by decide +kernel) (pa_cons (pv 1) (pa_cons (pe_tup (pa_cons (pe_bltn (v := .ty "tuple") rfl M.tuple (by decide +kernel) rfl) (pa_cons (pe_bltn (v := .ty "list") rfl M.list (by decide +kernel) rfl) pa_nil))) pa_nil))))
      (pss_cons (ps_if (pt_cmpR op_ne (pe_callB call_isi rfl M.isinstance (by decide +kernel) (pa_cons (pv 0) (pa_cons (pe_bltn (v := .ty "tuple") rfl M.tuple (by decide +kernel) rfl) pa_nil))) (pe_callB call_isi rfl M.isinstance (by decide +kernel) (pa_cons (pv 1) (pa_cons (pe_bltn (v := .ty "tuple") rfl M.tuple (by decide +kernel) rfl) pa_nil))) (nomark _))
      (pss_one (ps_ret pe_bl)) pss_nil)
    (pss_cons (ps_if (PW.pt (pw_or (pt_cmpR op_ne (pe_callB call_isi rfl M.isinstance (by decide +kernel) (pa_cons (pv 0) (pa_cons (pe_bltn (v := .ty "list") rfl M.list (by decide +kernel) rfl) pa_nil))) (pe_callB call_isi rfl M.isinstance (by decide +kernel) (pa_cons (pv 1) (pa_cons (pe_bltn (v := .ty "list") rfl M.list (by decide +kernel) rfl) pa_nil))) (nomark _)) (pw_or1 (pt_cmpR op_ne (pe_callB call_len_seq rfl M.len PySem.boot_len (pa_cons (pv 0) pa_nil)) (pe_callB call_len_seq rfl M.len PySem.boot_len (pa_cons (pv 1) pa_nil)) (nomark _)))))
      (pss_one (ps_ret pe_bl)) pss_nil)
    (pss_one (ps_ret (pe_cmpR (op_eqD hr.units) (pe_lc (own := [("_law_k", 2)]) (g := gName 2) rfl sc__law_same.nd (pi_range1 rfl M.range (pa_cons (pe_callB call_len_seq rfl M.len PySem.boot_len (pa_cons (pv 1) pa_nil)) pa_nil)) (blkOk_by (N := ["_law_found", "_law_due", "_law_k"]) (sc := defScope s__law_same) (by decide +kernel)) (fun _ _ _ _ _ => (pg_name (i := 2) sc__law_same.nd rfl (.inl rfl))) (fun _ _ _ _ _ => pts_one (pt_not (pt_val (pe_call Dself.ok (hr.mono (by omega)) rfl Dself.g Dself.kp Dself.b .nil pass0 (pa_cons (pe_ix (show IxR _ (rIx K) from ix_seq) (pv 0) (pv 2) (fun _ _ => rfl)) (pa_cons (pe_ix (show IxR _ (rIx K) from ix_seq) (pv 1) (pv 2) (fun _ _ => rfl)) pa_nil)))))) (fun _ _ _ _ _ => (pv 2))) (pe_lst pa_nil) (nomark _)))))) pss_nil)
    (pss_cons (ps_if (pt_val (pe_callB call_isi rfl M.isinstance (by decide +kernel) (pa_cons (pv 1) (pa_cons (pe_bltn (v := .ty "dict") rfl M.dict (by decide +kernel) rfl) pa_nil))))
      (pss_one ps_never) pss_nil)
    (pss_cons (ps_if (pt_cmpR op_isN (pv 1) pe_non (nomark _))
      (pss_one (ps_ret (pe_cmpR op_isN (pv 0) pe_non (nomark _)))) pss_nil)
    (pss_cons (ps_if (pt_val (pe_callB call_isi rfl M.isinstance (by decide +kernel) (pa_cons (pv 1) (pa_cons (pe_bltn (v := .ty "str") rfl M.str (by decide +kernel) rfl) pa_nil))))
      (pss_one (ps_ret (pe_and (pe_callB call_isi rfl M.isinstance (by decide +kernel) (pa_cons (pv 0) (pa_cons (pe_bltn (v := .ty "str") rfl M.str (by decide +kernel) rfl) pa_nil))) (pe_one (pe_cmpR op_eq (pv 0) (pv 1) (nomark _)))))) pss_nil)
    (pss_one (ps_ret (pe_and (pe_callB call_isi rfl M.isinstance (by decide +kernel) (pa_cons (pv 0) (pa_cons (pe_bltn (v := .ty "int") rfl M.int (by decide +kernel) rfl) pa_nil))) (pe_and (pe_cmpR op_eq (pe_callB call_isi rfl M.isinstance (by decide +kernel) (pa_cons (pv 0) (pa_cons (pe_bltn (v := .ty "bool") rfl M.bool (by decide +kernel) rfl) pa_nil))) (pe_callB call_isi rfl M.isinstance (by decide +kernel) (pa_cons (pv 1) (pa_cons (pe_bltn (v := .ty "bool") rfl M.bool (by decide +kernel) rfl) pa_nil))) (nomark _)) (pe_one (pe_cmpR op_eq (pv 0) (pv 1) (nomark _))))))))))), ?_⟩
    refine ⟨v', rfl, (by show 2 ≤ sizeLine; decide), fun tp np => ?_⟩
    have s1 := same_new np (.tup [.ty "tuple", .ty "list"])
    have hw := dp_same s1 hv
    have hw' := dp_same s1 hv'
    have pr : Paired ClsV [V.ty "tuple", V.ty "list"] [Value.type "tuple", Value.type "list"] := .cons (.ty _) (.cons (.ty _) .nil)
    rcases dp_two hw hw' hd hna with ⟨p, p', xs, xs', ds, bl, ty, rfl, rfl, hq, hq', ha, ha', ht, ht', k1, k2, hdd, hwl, hwn⟩ | ⟨rfl, hk⟩
    · have ka : PySem.W.kitAny K (.type ty) [.type "tuple", .type "list"] = some true := by
        rw [kit_tl k1 k2]
        cases bl <;> rfl
      have hl := dpAll_len ha
      have hl' := dpAll_len ha'
      refine ⟨_, tp, _, _, _, true, rfl, upd_same, pr, ht', ka, _, rfl, iteT ?_⟩
      refine ⟨_, rfl, _, _, _, _, !bl, rfl, .ty _, ht, kit_ty k2, _, rfl, _, _, _, _, !bl, rfl, .ty _, ht', kit_ty k2, by cases bl <;> rfl, _, rfl, iteNS rfl ?_⟩
      refine ⟨_, rfl, _, _, _, _, bl, rfl, .ty _, ht, kit_ty k1, _, rfl, _, _, _, _, bl, rfl, .ty _, ht', kit_ty k1, by cases bl <;> rfl, _, rfl, iteNS rfl ?_⟩
      refine ⟨_, rfl, p, xs, rfl, hq, _, rfl, p', xs', rfl, hq', rfl, _, rfl, iteNS (by rw [hl, hl']) ?_⟩
      refine ⟨_, rfl, p', xs', rfl, hq', _, rfl, ?_, ?_, fun D nD => ?_⟩
      · omega
      · omega
      have s2 := same_new nD (.lst [])
      rw [Int.toNat_natCast]
      refine lc_range (lo := 0) (n := xs'.length) (fun i H' => Same (upd H tp (.tup [.ty "tuple", .ty "list"])) H' ∧ H' D = some (.lst [])) ⟨s2, upd_same⟩ (fun i H' hi hp => ?_) (fun H' hp => ?_)
      · obtain ⟨sm, eD⟩ := hp
        obtain ⟨di, edi⟩ : ∃ di, ds[i]? = some di := ⟨_, List.getElem?_eq_getElem (by omega)⟩
        obtain ⟨x, ex, hx⟩ := dpAll_get ha edi
        obtain ⟨x', ex', hx'⟩ := dpAll_get ha' edi
        have hdi := depth_get edi
        have e0 : (0 : Int) + (i : Int) = ((i : Nat) : Int) := by omega
        rw [e0]
        refine ⟨rfl, ?_⟩
        refine ⟨_, rfl, _, rfl, seq_ix (seq_same sm hq) (atI_nat ex) ⟨_, rfl, _, rfl, seq_ix (seq_same sm hq') (atI_nat ex') ⟨x, x', di, rfl, dp_same sm hx, dp_same sm hx', by omega, nar_get edi hwn, fun H'' s'' => ?_⟩⟩⟩
        exact ⟨_, rfl, iteF ⟨sm.trans s'', s'' _ _ eD⟩⟩
      · obtain ⟨sm, eD⟩ := hp
        refine ⟨(by show 0 ≤ sizeLine; decide), fun e ne => ?_⟩
        refine ⟨.list [], .list [], .lst (SqL.of ((same_new ne _) _ _ eD)) .nil, .lst (SqL.of upd_same) .nil, rfl, rfl, ?_⟩
        exact q _ (s1.trans (sm.trans (same_new ne _)))
    · have fin := q _ s1
      rcases hk with rfl | ⟨c, rfl⟩ | ⟨c, rfl⟩ | ⟨c, rfl⟩
      · refine ⟨_, tp, _, _, _, false, rfl, upd_same, pr, .base .non, kit_tl (r := false) (s := false) (by decide +kernel) (by decide +kernel), _, rfl, iteF ?_⟩
        refine ⟨_, rfl, _, _, _, _, false, rfl, .ty _, .base .non, kit_ty (by decide +kernel), _, rfl, iteF ?_⟩
        refine ⟨_, rfl, rfl, _, rfl, iteT ?_⟩
        exact ⟨_, rfl, rfl, fin⟩
      · refine ⟨_, tp, _, _, _, false, rfl, upd_same, pr, .base (.bl c), kit_tl (r := false) (s := false) (by decide +kernel) (by decide +kernel), _, rfl, iteF ?_⟩
        refine ⟨_, rfl, _, _, _, _, false, rfl, .ty _, .base (.bl c), kit_ty (by decide +kernel), _, rfl, iteF ?_⟩
        refine ⟨_, rfl, rfl, _, rfl, iteF ?_⟩
        refine ⟨_, rfl, _, _, _, _, false, rfl, .ty _, .base (.bl c), kit_ty (by decide +kernel), _, rfl, iteF ?_⟩
        refine ⟨_, rfl, _, _, _, _, true, rfl, .ty _, .base (.bl c), kit_ty (by decide +kernel), _, rfl, iteT ?_⟩
        refine ⟨_, rfl, _, _, _, _, true, rfl, .ty _, .base (.bl c), kit_ty (by decide +kernel), _, rfl, _, _, _, _, true, rfl, .ty _, .base (.bl c), kit_ty (by decide +kernel), rfl, _, rfl, iteT ?_⟩
        refine ⟨_, rfl, _, rfl, by cases c <;> rfl, ?_⟩
        rw [decide_eq_true rfl]
        exact fin
      · refine ⟨_, tp, _, _, _, false, rfl, upd_same, pr, .base (.int c), kit_tl (r := false) (s := false) (by decide +kernel) (by decide +kernel), _, rfl, iteF ?_⟩
        refine ⟨_, rfl, _, _, _, _, false, rfl, .ty _, .base (.int c), kit_ty (by decide +kernel), _, rfl, iteF ?_⟩
        refine ⟨_, rfl, rfl, _, rfl, iteF ?_⟩
        refine ⟨_, rfl, _, _, _, _, false, rfl, .ty _, .base (.int c), kit_ty (by decide +kernel), _, rfl, iteF ?_⟩
        refine ⟨_, rfl, _, _, _, _, true, rfl, .ty _, .base (.int c), kit_ty (by decide +kernel), _, rfl, iteT ?_⟩
        refine ⟨_, rfl, _, _, _, _, false, rfl, .ty _, .base (.int c), kit_ty (by decide +kernel), _, rfl, _, _, _, _, false, rfl, .ty _, .base (.int c), kit_ty (by decide +kernel), rfl, _, rfl, iteT ?_⟩
        refine ⟨_, rfl, _, rfl, rfl, ?_⟩
        rw [decide_eq_true rfl]
        exact fin
      · refine ⟨_, tp, _, _, _, false, rfl, upd_same, pr, .base (.str c), kit_tl (r := false) (s := false) (by decide +kernel) (by decide +kernel), _, rfl, iteF ?_⟩
        refine ⟨_, rfl, _, _, _, _, false, rfl, .ty _, .base (.str c), kit_ty (by decide +kernel), _, rfl, iteF ?_⟩
        refine ⟨_, rfl, rfl, _, rfl, iteF ?_⟩
        refine ⟨_, rfl, _, _, _, _, true, rfl, .ty _, .base (.str c), kit_ty (by decide +kernel), _, rfl, iteT ?_⟩
        refine ⟨_, rfl, _, _, _, _, true, rfl, .ty _, .base (.str c), kit_ty (by decide +kernel), _, rfl, iteT ?_⟩
        refine ⟨_, rfl, _, rfl, rfl, ?_⟩
        rw [decide_eq_true rfl]
        exact fin
end
/-! ### a def entered at one caller -/
theorem enter_def {P : Program} {w : World} {K : PySem.W.Frag} {mg : Str → Option Value} {base : Heap} {f : Addr} {fd : FuncData} {N ps : List Str} {k : Nat} {x qual : Str} {st : Stmt} (F : Fun K x qual st f fd) (S : FnScope N ps (defScope st))
    {A : Around} {outer : List Env} {s : Shared} {H : Hp} {args : Args} {us : List Value} {vs : List V} {Q : VK} {E : XK}
    (room : Room (k + 1) A) (en : Env0 P w K mg base A outer s H) (bd : BindsTo s fd args (ps.zip us)) (rel : Vals vs us) (hln : vs.length = ps.length)
    (body : ∀ cdv : Value, Room k (A.deeper (envOfC qual (defScope st) s.heap.objs.size f cdv)) →
      ∃ t, PSs (cxOf CX0 P w K mg base N qual (defScope st) f cdv A outer s H E).nox (defBody st) t ∧ t { nx := fun _ H' => Q .non H', rt := Q } (start N vs) H) :
    codeAny (model P w) A (.call (.ref f) args) (CR CX0 outer P w H s Q E) s := by
  obtain ⟨oc, od, kV, doc, pm, an, cdv, ct, osl, rfl, look, code⟩ := F.ex
  have still : ∀ b o, base.get? b = some o → s.heap.get? b = some o := fun b o e => (en.bs b o e).1
  have inK : K.In s.heap := en.mod.kin.keeps still
  have noL : s.heap.NoLimit := en.mod.nolimit.keeps still
  have kinds : ∀ y ∈ ps.zip us, (defScope st).names.lookup y.1 = some .local ∨
      ((defScope st).names.lookup y.1 = some .cell ∧ ((cellsFrom (s.heap.objs.size + 1) (defScope st).names []).lookup y.1).isSome = true) := by
    rintro ⟨nm, u⟩ hy
    cases S.par nm (List.of_mem_zip hy).1 with
    | inl z => exact .inl z
    | inr z => exact .inr ⟨z, PySem.W.cellsFrom_some _ _ _ (.inl z)⟩
  have step := codeAny_call_function (prog := P) (w := w) (A := A) (s := s) room.depth (inK _ _ look) rfl S.co S.gen rfl (PySem.W.codeRec_of inK code)
    (R := CR CX0 outer P w H s Q E) (args := args)
  refine step (bd _ _ _ _ ?_)
  refine wpAny_newFunctionEnv_cells S.kind kinds ?_
  intro env isEnv s1 inC
  subst isEnv
  refine ⟨noL.keeps inC.toInCall.keep, codeAny_func ?_⟩
  obtain ⟨t, ht, hq⟩ := body cdv (room.deeper _)
  have J : Inv (cxOf CX0 P w K mg base N qual (defScope st) f cdv A outer s H E) [] (start N vs) H s1 := inv_start S room.hd en hln rel inC
  refine wpAny_mono (ht.nox.run [] s1 (start N vs) H _ J hq) ?_ ?_
  · intro fl s' done
    cases fl with
    | ret u =>
      obtain ⟨v, σ', H', I', rv, qv⟩ := done
      exact ⟨v, H', I'.os, I'.bare, I'.base, I'.hok, rv, qv⟩
    | next =>
      obtain ⟨σ', H', I', qv⟩ := done
      exact ⟨V.non, H', I'.os, I'.bare, I'.base, I'.hok, rfl, qv⟩
    | brk => exact done.elim fun _ z => z.elim fun _ z => z.2.elim
    | cont => exact done.elim fun _ z => z.elim fun _ z => z.2.elim
  · intro e s' z
    exact z
/-! ### the law's own call -/
theorem law_at {P : Program} {w : World} {K : PySem.W.Frag} {mg mb : Str → Option Value} {fa a : Addr} {s₁ : Shared} {vs : List Value} {ns : List Int}
    (inK : K.In s₁.heap) (gl : s₁.heap.Ns mainGlobals mg) (bl : s₁.heap.Ns builtinsNs mb) (isB : ∀ x : Str, x ≠ "__name__" → mb x = bootBuiltins x) (lim : s₁.heap.NoLimit) (gens : s₁.gens = #[])
    (obj : s₁.heap.get? a = some { cls := .type "list", data := .seq vs.toArray }) (hints : IntsAre vs ns) (few : ns.length ≤ sizeLine)
    (run : ∀ (base : Heap) (H : Hp), K.In base → base.Ns mainGlobals mg → Env0 P w K mg base callerA [] s₁ H → SqL K H a (ns.map V.int) →
      codeAny (model P w) callerA (.call (.ref fa) ⟨[.ref a], []⟩) (CR CX0 [] P w H s₁ (fun v _ => v = .bl true) fun _ _ _ => False) s₁) :
    codeAny (model P w) callerA (.call (.ref fa) ⟨[.ref a], []⟩) (fun r s' => r = .ok (.ret (.bool true)) ∧ OldK s₁.heap s'.heap ∧ s'.os = s₁.os ∧ AllBare s'.gens) s₁ := by
  have rel := vals_ints hints
  have lens := hints.length
  have found : ∃ H : Hp, Only H ∧ SqL K H a (ns.map V.int) ∧ HOk P w H s₁.heap ∧ (∀ b u, H b = some u → b = a ∧ K.lookup a = none) := by
    cases inText : K.lookup a with
    | some o =>
      have same := inK a o inText
      rw [obj] at same
      cases same
      have never : ∀ (u : HO), (none : Option HO) ≠ some u := fun u z => by cases z
      refine ⟨fun _ => none, fun _ => .inl rfl, ?_, (fun b u z => (never u z).elim), (fun b u z => (never u z).elim)⟩
      refine .inr ⟨_, vs.toArray, _, inText, rfl, rfl, rfl, ?_, ?_⟩
      · rw [List.size_toArray, lens]
        exact few
      · rw [List.toList_toArray]
        exact rel
    | none =>
      let here : HO := .frz { cls := .type "list", data := .seq vs.toArray } (.lst (ns.map V.int))
      have only : ∀ b u, (if b = a then some here else none) = some u → b = a ∧ u = here := fun b u z => by
        by_cases hb : b = a
        · rw [if_pos hb] at z
          exact ⟨hb, (Option.some.inj z).symm⟩
        · rw [if_neg hb] at z
          cases z
      refine ⟨fun b => if b = a then some here else none, fun b => ?_, .inl (.inr ⟨{ cls := .type "list", data := .seq vs.toArray }, if_pos rfl⟩), fun b u z => ?_, fun b u z => ⟨(only b u z).1, rfl⟩⟩
      · by_cases hb : b = a
        · exact .inr ⟨_, _, if_pos hb⟩
        · exact .inl (if_neg hb)
      · obtain ⟨rfl, rfl⟩ := only b u z
        exact ⟨obj, by rw [List.length_map]; exact few, vs, _, rel, obj⟩
  obtain ⟨H, hO, hS, hok, hA⟩ := found
  have under : ∀ {b : Addr} {o : Obj}, s₁.heap.get? b = some o → H b = none → (hidT s₁.heap H).get? b = some o := fun e z => hidT_get e z
  have notDict : ∀ {b : Addr} {o : Obj} {es : Array DictEntry} {ep : Nat}, s₁.heap.get? b = some o → o.data = .dict es ep → H b = none := by
    intro b o es ep e isD
    cases z : H b with
    | none => rfl
    | some u =>
      obtain ⟨rfl, _⟩ := hA b u z
      rw [obj] at e
      cases e
      cases isD
  have ns' : ∀ {b : Addr} {m : Str → Option Value}, s₁.heap.Ns b m → (hidT s₁.heap H).Ns b m := by
    rintro b m ⟨o, es, ep, e, isD, r⟩
    exact ⟨o, es, ep, under e (notDict e isD), isD, r⟩
  have inK' : K.In (hidT s₁.heap H) := by
    intro b o e
    refine under (inK b o e) ?_
    cases z : H b with
    | none => rfl
    | some u =>
      obtain ⟨rfl, no⟩ := hA b u z
      rw [no] at e
      cases e
  obtain ⟨mc, l1, l2⟩ := lim
  have env : Env0 P w K mg (hidT s₁.heap H) callerA [] s₁ H :=
    ⟨rfl, ⟨inK', ns' gl, ⟨mb, ns' bl, isB⟩, ⟨mc, ns' l1, l2⟩⟩, fun _ _ e => of_hidT e, Nat.le_of_eq (hidT_size _ _), trivial, (fun _ hb => nomatch hb), hok, .of_eq gens⟩
  refine codeAny_mono (run _ H inK' (ns' gl) env hS) ?_
  intro r s' h
  cases r with
  | error e => exact h.elim
  | ok fl =>
    cases fl with
    | next => exact h.elim
    | brk => exact h.elim
    | cont => exact h.elim
    | ret u =>
      obtain ⟨v, H', os, bare, un, hok', rv, isT⟩ := h
      subst isT
      cases rv
      refine ⟨rfl, OldK.of_keep ?_, os, bare⟩
      intro b o e
      cases z : H b with
      | none => exact un.keep b o e z (fun y => nomatch y) (fun y => nomatch y)
      | some u =>
        rcases hO b with y | ⟨ob, xs, y⟩
        · rw [z] at y
          cases y
        · have y2 := un.frzs b ob _ y
          obtain ⟨e1, _⟩ := hok b _ y
          obtain ⟨e2, _⟩ := hok' b _ y2
          rw [e] at e1
          cases e1
          exact e2
/-! ### grown trees -/
theorem B.ins_perm (t : B) (c : Nat) : (t.ins c).pre.Perm (c :: t.pre) := by
  induction t with
  | nil => exact List.Perm.refl _
  | node l x r h1 h2 =>
    show (if c < x then B.node (l.ins c) x r else .node l x (r.ins c)).pre.Perm _
    split
    · show (x :: ((l.ins c).pre ++ r.pre)).Perm (c :: x :: (l.pre ++ r.pre))
      exact ((h1.append_right r.pre).cons x).trans (List.Perm.swap _ _ _)
    · show (x :: (l.pre ++ (r.ins c).pre)).Perm (c :: x :: (l.pre ++ r.pre))
      exact (((h2.append_left l.pre).trans List.perm_middle).cons x).trans (List.Perm.swap _ _ _)
theorem foldl_ins_perm (zs : List Nat) : ∀ t : B, (zs.foldl B.ins t).pre.Perm (zs ++ t.pre) := by
  induction zs with
  | nil => intro t; exact List.Perm.refl _
  | cons c r ih =>
    intro t
    rw [List.foldl_cons]
    exact (ih _).trans (((B.ins_perm t c).append_left r).trans List.perm_middle)
theorem gr_perm (zs : List Nat) : (gr zs).pre.Perm zs := by
  have := foldl_ins_perm zs .nil
  rw [show B.nil.pre = [] from rfl, List.append_nil] at this
  exact this
theorem B.nar_data : ∀ t : B, nar t.data = true
  | .nil => by simp only [B.data, nar]
  | .node l x r => by
    simp only [B.data, nar, narAll, l.nar_data, r.nar_data, Bool.and_self, Bool.and_true, List.length_cons, List.length_nil]
    exact decide_eq_true (by omega)
theorem B.data_depth : ∀ t : B, t.data.depth = t.deep
  | .nil => by simp only [B.data, PyData.depth, B.deep]
  | .node l x r => by
    simp only [B.data, PyData.depth, PyData.depthAll, B.deep, l.data_depth, r.data_depth]
    omega
/-! ### numbers of orders -/
def facN : Nat → Nat
  | 0 => 1
  | n + 1 => facN n * (n + 1)
theorem facN_pos : ∀ n, 0 < facN n
  | 0 => Nat.one_pos
  | n + 1 => Nat.mul_pos (facN_pos n) (Nat.succ_pos n)
def prodN : List Nat → Nat
  | [] => 1
  | h :: t => h * prodN t
theorem prodN_app : ∀ a b : List Nat, prodN (a ++ b) = prodN a * prodN b
  | [], b => (Nat.one_mul _).symm
  | h :: a, b => by
    show h * prodN (a ++ b) = h * prodN a * prodN b
    rw [prodN_app a b, Nat.mul_assoc]
def cho : Nat → Nat → Nat
  | _, 0 => 1
  | 0, _ + 1 => 0
  | n + 1, k + 1 => cho n k + cho n (k + 1)
theorem cho_over : ∀ n k, n < k → cho n k = 0
  | 0, 0, h => absurd h (by omega)
  | 0, k + 1, _ => rfl
  | n + 1, 0, h => absurd h (by omega)
  | n + 1, k + 1, h => by
    show cho n k + cho n (k + 1) = 0
    rw [cho_over n k (by omega), cho_over n (k + 1) (by omega)]
theorem cho_self : ∀ n, cho n n = 1
  | 0 => rfl
  | n + 1 => by
    show cho n n + cho n (n + 1) = 1
    rw [cho_self n, cho_over n (n + 1) (by omega)]
theorem cho_0 (n : Nat) : cho n 0 = 1 := by cases n <;> rfl
theorem cho_fac : ∀ n a b : Nat, a + b = n → cho (a + b) a * (facN a * facN b) = facN (a + b) := by
  intro n
  induction n with
  | zero =>
    intro a b h
    have ha : a = 0 := by omega
    have hb : b = 0 := by omega
    subst ha hb
    rfl
  | succ n ih =>
    intro a b h
    cases a with
    | zero => rw [Nat.zero_add, cho_0, Nat.one_mul]; exact Nat.one_mul _
    | succ a =>
      cases b with
      | zero => rw [Nat.add_zero, cho_self, Nat.one_mul]; exact Nat.mul_one _
      | succ b =>
        have e1 := ih a (b + 1) (by omega)
        have e2 := ih (a + 1) b (by omega)
        have es : a + 1 + (b + 1) = (a + (b + 1)) + 1 := by omega
        rw [es]
        show (cho (a + (b + 1)) a + cho (a + (b + 1)) (a + 1)) * (facN a * (a + 1) * facN (b + 1)) = facN (a + (b + 1)) * (a + (b + 1) + 1)
        have e3 : a + (b + 1) = a + 1 + b := by omega
        rw [Nat.add_mul]
        have f1 : cho (a + (b + 1)) a * (facN a * (a + 1) * facN (b + 1)) = (a + 1) * facN (a + (b + 1)) := by
          rw [← e1]
          ac_rfl
        have f2 : cho (a + (b + 1)) (a + 1) * (facN a * (a + 1) * facN (b + 1)) = (b + 1) * facN (a + (b + 1)) := by
          rw [e3, ← e2]
          show cho (a + 1 + b) (a + 1) * (facN a * (a + 1) * (facN b * (b + 1))) = (b + 1) * (cho (a + 1 + b) (a + 1) * (facN a * (a + 1) * facN b))
          ac_rfl
        rw [f1, f2, ← Nat.add_mul, Nat.mul_comm]
        refine congrArg (facN (a + (b + 1)) * ·) ?_
        omega
def B.hooks : B → List Nat
  | .nil => []
  | .node l _ r => (l.size + r.size + 1) :: (l.hooks ++ r.hooks)
theorem B.hooks_len : ∀ t : B, t.hooks.length = t.size
  | .nil => rfl
  | .node l x r => by
    show (l.hooks ++ r.hooks).length + 1 = l.size + 1 + r.size
    rw [List.length_append, l.hooks_len, r.hooks_len]
    omega
theorem B.hooks_pos : ∀ (t : B), ∀ h ∈ t.hooks, 0 < h ∧ h ≤ t.size
  | .nil, h, hh => by cases hh
  | .node l x r, h, hh => by
    show 0 < h ∧ h ≤ l.size + 1 + r.size
    rcases List.mem_cons.mp hh with rfl | hh
    · omega
    · rcases List.mem_append.mp hh with hh | hh
      · have := l.hooks_pos h hh; omega
      · have := r.hooks_pos h hh; omega
def B.num : B → Nat
  | .nil => 1
  | .node l _ r => l.num * r.num * cho (l.size + r.size) l.size
theorem B.num_hooks : ∀ t : B, t.num * prodN t.hooks = facN t.size
  | .nil => rfl
  | .node l x r => by
    have h1 := l.num_hooks
    have h2 := r.num_hooks
    have h3 := cho_fac _ l.size r.size rfl
    show l.num * r.num * cho (l.size + r.size) l.size * ((l.size + r.size + 1) * prodN (l.hooks ++ r.hooks)) = facN (l.size + 1 + r.size)
    rw [prodN_app, show l.size + 1 + r.size = (l.size + r.size) + 1 by omega]
    show _ = facN (l.size + r.size) * (l.size + r.size + 1)
    rw [← h3, ← h1, ← h2]
    ac_rfl
theorem prodN_pos : ∀ l : List Nat, (∀ h ∈ l, 0 < h) → 0 < prodN l
  | [], _ => Nat.one_pos
  | h :: l, hh => Nat.mul_pos (hh h List.mem_cons_self) (prodN_pos l fun k hk => hh k (List.mem_cons_of_mem _ hk))
theorem B.num_le (t : B) : t.num ≤ facN t.size := by
  rw [← t.num_hooks]
  exact Nat.le_mul_of_pos_right _ (prodN_pos _ fun h hh => (t.hooks_pos h hh).1)
theorem foldl_div : ∀ (l : List Nat) (m : Nat), l.foldl (· / ·) m = m / prodN l
  | [], m => (Nat.div_one m).symm
  | h :: l, m => by
    rw [List.foldl_cons, foldl_div l]
    show m / h / prodN l = m / (h * prodN l)
    rw [Nat.div_div_eq_div_mul]
theorem B.num_div (t : B) : t.hooks.foldl (· / ·) (facN t.size) = t.num := by
  rw [foldl_div, ← t.num_hooks]
  exact Nat.mul_div_cancel _ (prodN_pos _ fun h hh => (t.hooks_pos h hh).1)
theorem facN_mono : ∀ {a b : Nat}, a ≤ b → facN a ≤ facN b := by
  intro a b h
  induction h with
  | refl => exact Nat.le_refl _
  | step _ ih => exact Nat.le_trans ih (Nat.le_mul_of_pos_right _ (Nat.succ_pos _))
/-- s (s - 1) .., k of them -/
def desc (s : Nat) : Nat → Nat
  | 0 => 1
  | k + 1 => desc s k * (s - k)
theorem desc_fac (s : Nat) : ∀ k, k ≤ s → desc s k * facN (s - k) = facN s
  | 0, _ => Nat.one_mul _
  | k + 1, h => by
    rw [← desc_fac s k (by omega)]
    show desc s k * (s - k) * facN (s - (k + 1)) = desc s k * facN (s - k)
    rw [show s - k = (s - (k + 1)) + 1 by omega]
    show _ = desc s k * (facN (s - (k + 1)) * (s - (k + 1) + 1))
    ac_rfl
theorem desc_cho (a b : Nat) : desc (a + b) a = cho (a + b) a * facN a := by
  have h1 := desc_fac (a + b) a (by omega)
  rw [show a + b - a = b by omega, ← cho_fac _ a b rfl, ← Nat.mul_assoc] at h1
  exact Nat.eq_of_mul_eq_mul_right (facN_pos b) h1
def divs (m : Nat) : Nat → Nat
  | 0 => m
  | k + 1 => divs m k / (k + 1)
theorem divs_fac (m : Nat) : ∀ k, divs m k = m / facN k
  | 0 => (Nat.div_one m).symm
  | k + 1 => by
    show divs m k / (k + 1) = m / (facN k * (k + 1))
    rw [divs_fac m k, Nat.div_div_eq_div_mul]
theorem num_node (l : B) (x : Nat) (r : B) : divs (l.num * r.num * desc (l.size + r.size) l.size) l.size = (B.node l x r).num := by
  rw [divs_fac, desc_cho, ← Nat.mul_assoc]
  exact Nat.mul_div_cancel _ (facN_pos _)
theorem desc_le (s : Nat) : ∀ k, k ≤ s → desc s k ≤ facN s := fun k h => by
  rw [← desc_fac s k h]
  exact Nat.le_mul_of_pos_right _ (facN_pos _)
/-! all orders -/
/-! ### sizes_in, count_together, count_orders -/
theorem lc2_it {J : It} {n : Nat} {G : Hp → Prop} {Y : Nat → Hp → V → Hp → Prop} (w : Walk J n G Y) {g : TG} {tt : TT} {wi1 : TI} {g1 : TG} {tt1 : TT} {te : TE} {vs vs1 : List Nat} {σ : L2.St} {H1 : Hp} {D : Addr} {Qd : Hp → Prop} (Pv : Nat → Hp → Prop) (h0 : Pv 0 (upd H1 D (.lst []))) (hG : ∀ i H, i ≤ n → Pv i H → G H)
    (hs : ∀ i x H H', i < n → Pv i H → Y i H x H' → g x (wipe σ vs) H' fun σ2 H2 => wipe σ2 vs = wipe σ vs ∧ tt σ2 H2 fun b H3 =>
      if b = true then wi1 σ2 H3 fun J1 H4 => ∃ W1 : Nat → Nat → Hp → Prop, (∃ m, W1 0 m H4) ∧ ∀ j k H, W1 j k H →
        (J1.stop j H ∧ Pv (i + 1) H) ∨ (J1.go j H ∧ ∃ Nx1 : Hp → Prop, (∀ H', Nx1 H' → ∃ k', k' < k ∧ W1 (j + 1) k' H') ∧ ∀ x H', J1.yld j H x H' → g1 x (wipe σ2 vs1) H' fun σ3 H5 => wipe σ3 vs1 = wipe σ2 vs1 ∧ tt1 σ3 H5 fun b H6 =>
          if b = true then te σ3 H6 fun y H7 => ∃ acc, H7 D = some (.lst acc) ∧ acc.length < sizeLine ∧ Nx1 (upd H7 D (.lst (acc ++ [y]))) else Nx1 H6)
      else Pv (i + 1) H3) (hd : ∀ H, Pv n H → Qd H) :
    ∃ W : Nat → Nat → Hp → Prop, (∃ m, W 0 m (upd H1 D (.lst []))) ∧ ∀ i m H, W i m H →
      (J.stop i H ∧ Qd H) ∨ (J.go i H ∧ ∃ Nx : Hp → Prop, (∀ H', Nx H' → ∃ m', m' < m ∧ W (i + 1) m' H') ∧ ∀ x H', J.yld i H x H' → g x (wipe σ vs) H' fun σ2 H2 => wipe σ2 vs = wipe σ vs ∧ tt σ2 H2 fun b H3 =>
        if b = true then wi1 σ2 H3 fun J1 H4 => ∃ W1 : Nat → Nat → Hp → Prop, (∃ m, W1 0 m H4) ∧ ∀ j k H, W1 j k H →
          (J1.stop j H ∧ Nx H) ∨ (J1.go j H ∧ ∃ Nx1 : Hp → Prop, (∀ H', Nx1 H' → ∃ k', k' < k ∧ W1 (j + 1) k' H') ∧ ∀ x H', J1.yld j H x H' → g1 x (wipe σ2 vs1) H' fun σ3 H5 => wipe σ3 vs1 = wipe σ2 vs1 ∧ tt1 σ3 H5 fun b H6 =>
            if b = true then te σ3 H6 fun y H7 => ∃ acc, H7 D = some (.lst acc) ∧ acc.length < sizeLine ∧ Nx1 (upd H7 D (.lst (acc ++ [y]))) else Nx1 H6)
        else Nx H3) := by
  refine ⟨fun i m H => m = n - i ∧ i ≤ n ∧ Pv i H, ⟨n, by simp, Nat.zero_le _, h0⟩, ?_⟩
  rintro i m H ⟨rfl, hi, p⟩
  have q := hG i H hi p
  by_cases hlt : i < n
  · exact .inr ⟨w.goes i H hlt q, Pv (i + 1), fun H' p' => ⟨n - (i + 1), by omega, rfl, hlt, p'⟩, fun x H' y => hs i x H H' hlt p (w.yields i H x H' hlt q y)⟩
  · have e : i = n := by omega
    subst e
    exact .inl ⟨w.stops H q, hd H p⟩
theorem in_it {J : It} {n : Nat} {G : Hp → Prop} {Y : Nat → Hp → V → Hp → Prop} (w : Walk J n G Y) {g : TG} {tt : TT} {te : TE} {vs : List Nat} {σ : L2.St} {H4 : Hp} {D : Addr} {Nx : Hp → Prop} (Pv : Nat → Hp → Prop) (h0 : Pv 0 H4) (hG : ∀ i H, i ≤ n → Pv i H → G H)
    (hs : ∀ i x H H', i < n → Pv i H → Y i H x H' → g x (wipe σ vs) H' fun σ2 H2 => wipe σ2 vs = wipe σ vs ∧ tt σ2 H2 fun b H3 =>
      if b = true then te σ2 H3 fun y H4 => ∃ acc, H4 D = some (.lst acc) ∧ acc.length < sizeLine ∧ Pv (i + 1) (upd H4 D (.lst (acc ++ [y]))) else Pv (i + 1) H3) (hd : ∀ H, Pv n H → Nx H) :
    ∃ W : Nat → Nat → Hp → Prop, (∃ m, W 0 m H4) ∧ ∀ i m H, W i m H →
      (J.stop i H ∧ Nx H) ∨ (J.go i H ∧ ∃ Nx1 : Hp → Prop, (∀ H', Nx1 H' → ∃ m', m' < m ∧ W (i + 1) m' H') ∧ ∀ x H', J.yld i H x H' → g x (wipe σ vs) H' fun σ2 H2 => wipe σ2 vs = wipe σ vs ∧ tt σ2 H2 fun b H3 =>
        if b = true then te σ2 H3 fun y H4 => ∃ acc, H4 D = some (.lst acc) ∧ acc.length < sizeLine ∧ Nx1 (upd H4 D (.lst (acc ++ [y]))) else Nx1 H3) := by
  refine ⟨fun i m H => m = n - i ∧ i ≤ n ∧ Pv i H, ⟨n, by simp, Nat.zero_le _, h0⟩, ?_⟩
  rintro i m H ⟨rfl, hi, p⟩
  have q := hG i H hi p
  by_cases hlt : i < n
  · exact .inr ⟨w.goes i H hlt q, Pv (i + 1), fun H' p' => ⟨n - (i + 1), by omega, rfl, hlt, p'⟩, fun x H' y => hs i x H H' hlt p (w.yields i H x H' hlt q y)⟩
  · have e : i = n := by omega
    subst e
    exact .inl ⟨w.stops H q, hd H p⟩
abbrev vn (n : Nat) : V := .int (n : Int)
/-- trees at vs -/
inductive TsAt (H : Hp) : List V → List B → Prop
  | nil : TsAt H [] []
  | cons {v : V} {t : B} {vs : List V} {ts : List B} : BAt H v t → TsAt H vs ts → TsAt H (v :: vs) (t :: ts)
theorem TsAt.same {H H' : Hp} (k : Same H H') {vs : List V} {ts : List B} (h : TsAt H vs ts) : TsAt H' vs ts := by
  induction h with
  | nil => exact .nil
  | cons a _ ih => exact .cons (a.same k) ih
theorem TsAt.len {H : Hp} {vs : List V} {ts : List B} (h : TsAt H vs ts) : vs.length = ts.length := by
  induction h with
  | nil => rfl
  | cons _ _ ih => rw [List.length_cons, List.length_cons, ih]
theorem TsAt.get {H : Hp} {vs : List V} {ts : List B} (h : TsAt H vs ts) : ∀ {i : Nat} {v : V}, vs[i]? = some v → ∃ t, ts[i]? = some t ∧ BAt H v t := by
  induction h with
  | nil => intro i v e; simp at e
  | cons a _ ih =>
    intro i v e
    cases i with
    | zero => cases e; exact ⟨_, rfl, a⟩
    | succ i => exact ih e
def hooksL (ts : List B) : List Nat := ts.flatMap B.hooks
def together (ts : List B) : Nat := (hooksL ts).foldl (· / ·) (facN (hooksL ts).length)
theorem together_one (t : B) : together [t] = t.num := by
  unfold together hooksL
  rw [List.flatMap_cons, List.flatMap_nil, List.append_nil, B.hooks_len, B.num_div]
def spSizesIn (N : Nat) : Sp := fun vs H Q _ => ∃ (v : V) (t : B), vs = [v] ∧ BAt H v t ∧ t.size < N ∧ t.size ≤ 500 ∧ ∀ (p : Addr) (H' : Hp), Same H H' → H p = none → H' p = some (.lst (t.hooks.map vn)) → Q (.ref p) H'
def spTogether (K : PySem.W.Frag) : Sp := fun vs H Q _ => ∃ (a : Addr) (us : List V) (ts : List B), vs = [.ref a] ∧ SqL K H a us ∧ TsAt H us ts ∧ (hooksL ts).length ≤ 15 ∧ ∀ (H' : Hp), Same H H' → Q (vn (together ts)) H'
theorem hooksL_pos (ts : List B) : ∀ h ∈ hooksL ts, 0 < h := fun h hh => by
  obtain ⟨t, _, h2⟩ := List.mem_flatMap.mp hh
  exact (t.hooks_pos h h2).1
theorem hooksL_snoc (ts : List B) (t : B) : hooksL (ts ++ [t]) = hooksL ts ++ t.hooks := by
  unfold hooksL
  rw [List.flatMap_append, List.flatMap_cons, List.flatMap_nil, List.append_nil]
theorem hooksL_take {ts : List B} (k : Nat) : (hooksL (ts.take k)).length ≤ (hooksL ts).length := by
  have h : hooksL ts = hooksL (ts.take k) ++ hooksL (ts.drop k) := by
    unfold hooksL
    rw [← List.flatMap_append, List.take_append_drop]
  rw [h, List.length_append]
  omega
theorem hook_le {ts : List B} {h : Nat} (hh : h ∈ hooksL ts) : h ≤ (hooksL ts).length := by
  obtain ⟨t, h1, h2⟩ := List.mem_flatMap.mp hh
  have := (t.hooks_pos h h2).2
  have l : t.hooks.length ≤ (hooksL ts).length := by
    obtain ⟨a, b, e⟩ := List.append_of_mem h1
    rw [e]
    unfold hooksL
    rw [List.flatMap_append, List.flatMap_cons, List.length_append, List.length_append]
    omega
  rw [B.hooks_len] at l
  omega
theorem fac15 {n : Nat} (h : n ≤ 15) : facN n ≤ 1307674368000 := Nat.le_trans (facN_mono h) (by decide)
theorem foldl_div_le : ∀ (l : List Nat) (m : Nat), l.foldl (· / ·) m ≤ m
  | [], m => Nat.le_refl _
  | h :: l, m => Nat.le_trans (foldl_div_le l (m / h)) (Nat.div_le_self _ _)
theorem take_nextG {α : Type} {zs : List α} {i : Nat} {c : α} (h : zs[i]? = some c) : zs.take (i + 1) = zs.take i ++ [c] := by
  rw [List.take_add_one, h]
  rfl
section
variable {P : Program} {w : World} {K : PySem.W.Frag} {mg : Str → Option Value} {base : Heap} {f : Addr} {fd : FuncData}
theorem ok_sizesIn (F : Fun K "sizes_in" "sizes_in" s_sizes_in f fd) (M : Mgs mg) (b : Binds K fd ["tree"] []) (g : mg "sizes_in" = some (.ref f)) : ∀ N : Nat, FnOk P w K mg base CX0 N f fd ["tree"] (spSizesIn N)
  | 0 => by
    have no : ∀ vs H Q E, ¬ spSizesIn 0 vs H Q E := fun vs H Q E h => by
      obtain ⟨v, t, _, _, h1, _⟩ := h
      omega
    exact ⟨fun vs H Q E h => absurd h (no vs H Q E), fun A outer s H args us vs Q E _ _ _ _ h => absurd h (no vs H Q E)⟩
  | N + 1 => by
    have Dself : Df P w K mg base N "sizes_in" ["tree"] (spSizesIn N) := ⟨f, fd, ok_sizesIn F M b g N, b, F.kp, g⟩
    refine F.ok sc_sizes_in (fun vs H Q E h => ?_) (fun cdv A outer s H vs Q E hr h => ?_)
    · obtain ⟨v, t, rfl, _⟩ := h
      rfl
    obtain ⟨v, t, rfl, hv, hn, hz, q⟩ := h
    refine ⟨_, (pss_cons (ps_if (pt_cmpR op_isN (pv 0) pe_non (nomark _))
      (pss_one (ps_ret (pe_lst pa_nil))) pss_nil)
    (pss_cons (ps_asg (pv 0) (pg_tup rfl (pgs_cons (pg_name (i := 1) sc_sizes_in.nd rfl (.inl rfl)) (pgs_cons (pg_name (i := 2) sc_sizes_in.nd rfl (.inl rfl)) (pgs_cons (pg_name (i := 3) sc_sizes_in.nd rfl (.inl rfl)) pgs_nil)))))
    (pss_cons (ps_set (i := 4) sc_sizes_in.nd rfl (.inl rfl) (pe_op op_cat (pe_call Dself.ok (hr.mono (by omega)) rfl Dself.g Dself.kp Dself.b .nil pass0 (pa_cons (pv 1) pa_nil)) (pe_call Dself.ok (hr.mono (by omega)) rfl Dself.g Dself.kp Dself.b .nil pass0 (pa_cons (pv 3) pa_nil))))
    (pss_one (ps_ret (pe_lst (pa_cons (pe_op op_add (pe_callB call_len_seq rfl M.len PySem.boot_len (pa_cons (pv 4) pa_nil)) pe_int) (StX.pa_star (pv 4) pa_nil)))))))), ?_⟩
    rcases hv.inv with ⟨rfl, rfl⟩ | ⟨a, l, r, x, tl, tr, rfl, rfl, ea, hl, hr'⟩
    · refine ⟨_, rfl, rfl, _, rfl, iteT ⟨(by show 0 ≤ sizeLine; decide), fun p np => ?_⟩⟩
      exact q p _ (same_new np _) np upd_same
    · have sz : tl.size + 1 + tr.size < N + 1 := hn
      have sz2 : tl.size + 1 + tr.size ≤ 500 := hz
      refine ⟨_, rfl, rfl, _, rfl, iteF ?_⟩
      refine ⟨_, rfl, a, _, rfl, SqT.of ea, rfl, _, _, rfl, _, _, rfl, _, _, rfl, rfl, ?_⟩
      refine ⟨_, rfl, l, tl, rfl, hl, by omega, by omega, fun p1 H1 s1 n1 e1 => ?_⟩
      refine ⟨_, rfl, r, tr, rfl, hr'.same s1, by omega, by omega, fun p2 H2 s2 n2 e2 => ?_⟩
      have h1 := tl.hooks_len
      have h2 := tr.hooks_len
      refine ⟨p1, p2, _, _, rfl, rfl, s2 _ _ e1, e2, small (by rw [List.length_map, List.length_map]; omega), fun p3 n3 => ?_⟩
      have k3 := same_new n3 (.lst (tl.hooks.map vn ++ tr.hooks.map vn))
      have e3 := upd_same (H := H2) (a := p3) (o := .lst (tl.hooks.map vn ++ tr.hooks.map vn))
      have s3 := (s1.trans s2).trans k3
      generalize upd H2 p3 (.lst (tl.hooks.map vn ++ tr.hooks.map vn)) = H3 at e3 s3 ⊢
      refine ⟨_, rfl, p3, _, rfl, .inl (SqL.of e3), _, _, rfl, rfl, _, rfl, p3, _, rfl, .inr (SqL.of e3), ?_⟩
      refine ⟨small ?_, fun p4 n4 => ?_⟩
      · rw [List.length_cons, List.length_append, List.length_append, List.length_map, List.length_map, List.length_nil]; omega
      have e5 : (fun i j : Int => V.int (i + j)) (((tl.hooks.map vn ++ tr.hooks.map vn).length : Nat) : Int) 1 :: ((tl.hooks.map vn ++ tr.hooks.map vn) ++ []) = (B.node tl x tr).hooks.map vn := by
        show _ = ((tl.size + tr.size + 1) :: (tl.hooks ++ tr.hooks)).map vn
        rw [List.append_nil, List.map_cons, List.map_append]
        refine congrArg (fun z => V.int z :: (tl.hooks.map vn ++ tr.hooks.map vn)) ?_
        rw [List.length_append, List.length_map, List.length_map, h1, h2]
        omega
      have k4 := same_new n4 (.lst ((fun i j : Int => V.int (i + j)) (((tl.hooks.map vn ++ tr.hooks.map vn).length : Nat) : Int) 1 :: ((tl.hooks.map vn ++ tr.hooks.map vn) ++ [])))
      exact q p4 _ (s3.trans k4) (s3.free n4) (upd_same.trans (congrArg (fun z => some (HO.lst z)) e5))
theorem ok_together (F : Fun K "count_together" "count_together" s_count_together f fd) (M : Mgs mg) (Dsizes_in : Df P w K mg base 20 "sizes_in" ["tree"] (spSizesIn 20)) : FnOk P w K mg base CX0 21 f fd ["parts"] (spTogether K) := by
  refine F.ok sc_count_together (fun vs H Q E h => ?_) (fun cdv A outer s H vs Q E hr h => ?_)
  · obtain ⟨a, us, ts, rfl, _⟩ := h
    rfl
  obtain ⟨a, us, ts, rfl, ea, ta, h15, q⟩ := h
  refine ⟨_, (pss_cons (ps_setLc2 (i := 3) (own := [("part", 1), ("size", 2)]) (vs1 := [2]) (g := gName 1) (tt := tYes) (g1 := gName 2) (tt1 := tYes) (by rfl) sc_count_together.nd rfl rfl (sw_true rfl rfl rfl (by decide +kernel)) (pi_list (pv 0)) (blkOk_by (N := ["parts", "part", "size", "sizes", "orders", "at"]) (sc := defScope s_count_together) (by decide +kernel)) (by decide) (fun _ _ _ _ _ => (pg_name (i := 1) sc_count_together.nd rfl (.inl rfl))) (fun _ _ _ _ _ => pts_nil) (fun _ _ _ _ _ => (show PI _ _ _ (iList K _) from pi_list (pe_call Dsizes_in.ok (hr.mono (by omega)) rfl Dsizes_in.g Dsizes_in.kp Dsizes_in.b .nil pass0 (pa_cons (pv 1) pa_nil)))) (fun _ _ _ _ _ => (pg_name (i := 2) sc_count_together.nd rfl (.inl rfl))) (fun _ _ _ _ _ => pts_nil) (fun _ _ _ _ _ => (pv 2)))
    (pss_cons (ps_set (i := 4) sc_count_together.nd rfl (.inl rfl) pe_int)
    (pss_cons (ps_for PassesOwn.never rfl (pi_range1 rfl M.range (pa_cons (pe_callB call_len_seq rfl M.len PySem.boot_len (pa_cons (pv 3) pa_nil)) pa_nil)) (pg_name (i := 5) sc_count_together.nd rfl (.inl rfl))
      (pss_one (ps_aug (i := 4) sc_count_together.nd rfl (.inl rfl) (pe_op op_add (pv 5) pe_int) (show PIp _ .Mult _ from iop_mul))))
    (pss_cons (ps_for PassesOwn.never rfl (pi_list (pv 3)) (pg_name (i := 2) sc_count_together.nd rfl (.inl rfl))
      (pss_one (ps_aug (i := 4) sc_count_together.nd rfl (.inl rfl) (pv 2) (show PIp _ .FloorDiv _ from iop_fdiv))))
    (pss_one (ps_ret (pv 4))))))), ?_⟩
  refine ⟨_, rfl, a, rfl, ⟨_, ea⟩, fun D nD => ?_⟩
  have kD := same_new nD (.lst [])
  have tl := ta.len
  refine lc2_it (walk_list (K := K) (a := a) (xs := us)) (fun i H' => Same H H' ∧ H' D = some (.lst ((hooksL (ts.take i)).map vn))) ⟨kD, upd_same⟩ (fun i H' _ hp => hp.1.seq ea) (fun i x H1 H1' hi hp hy => ?_) (fun H1 hp => ?_)
  · obtain ⟨s1, eD⟩ := hp
    obtain ⟨rfl, hx⟩ := hy
    obtain ⟨t, ht, hat⟩ := ta.get hx
    have tz : t.size ≤ 15 := by
      have := hooksL_take (ts := ts) (i + 1)
      rw [take_nextG ht, hooksL_snoc, List.length_append, B.hooks_len] at this
      omega
    refine ⟨rfl, kept ?_⟩
    refine ⟨_, rfl, x, t, rfl, hat.same s1, by omega, by omega, fun p H2 s2 np e2 => ⟨p, rfl, ⟨_, SqL.of e2⟩, ?_⟩⟩
    have npD : p ≠ D := Ne.symm (ne_of_none eD np)
    refine in_it (walk_list (K := K) (a := p) (xs := t.hooks.map vn)) (fun j H' => Same H H' ∧ H' p = some (.lst (t.hooks.map vn)) ∧ H' D = some (.lst ((hooksL (ts.take i)).map vn ++ (t.hooks.map vn).take j))) ⟨s1.trans s2, e2, by rw [List.take_zero, List.append_nil]; exact s2 _ _ eD⟩ (fun j H' _ hp => SqL.of hp.2.1) (fun j y H3 H3' hj hp hy => ?_) (fun H3 hp => ?_)
    · obtain ⟨s3, e3, eD3⟩ := hp
      obtain ⟨rfl, hy⟩ := hy
      have hl1 := hooksL_take (ts := ts) i
      have hl2 := t.hooks_len
      refine ⟨rfl, kept ⟨_, rfl, _, eD3, ?_, fun b o e => ?_, ?_, ?_⟩⟩
      · rw [List.length_append, List.length_map, List.length_take, List.length_map]; exact small1000 (by omega)
      · rw [upd_ne (ne_of_none e nD)]; exact s3 _ _ e
      · rw [upd_ne npD]; exact e3
      · rw [upd_same, take_nextG hy, List.append_assoc]
    · obtain ⟨s3, e3, eD3⟩ := hp
      rw [List.take_of_length_le (Nat.le_refl _), ← List.map_append, ← hooksL_snoc, ← take_nextG ht] at eD3
      exact ⟨s3, eD3⟩
  obtain ⟨s1, eD⟩ := hp
  rw [tl, List.take_length] at eD
  refine ⟨_, rfl, D, _, rfl, .inl (SqL.of eD), ?_⟩
  refine ⟨(((hooksL ts).map vn).length : Int), rfl, by rw [List.length_map]; omega, by rw [List.length_map]; omega, ?_⟩
  rw [Int.toNat_natCast]
  refine for_range (lo := 0) (n := ((hooksL ts).map vn).length) (fun i σ H' => ∃ (o5 : Option V), σ = [some (.ref a), none, none, some (.ref D), some (vn (facN i)), o5] ∧ Same H1 H') ⟨_, rfl, Same.refl _⟩ (fun i σ H2 hi hp => ?_) (fun σ H2 hp => ?_)
  · obtain ⟨o5, rfl, s2⟩ := hp
    rw [List.length_map] at hi
    have := fac15 (show i ≤ 15 by omega)
    refine ⟨_, rfl, _, rfl, _, _, rfl, rfl, _, _, rfl, rfl, .inl ⟨by omega, by omega⟩, ?_⟩
    refine ⟨some (.int (0 + i)), ?_, s2⟩
    have e : vn (facN (i + 1)) = V.int ((facN i : Int) * ((0 : Int) + (i : Int) + 1)) := congrArg V.int (by rw [Int.zero_add]; exact Int.natCast_mul _ _)
    rw [e]
    rfl
  obtain ⟨o5, rfl, s2⟩ := hp
  rw [List.length_map] at *
  have eD2 := s2 _ _ eD
  refine ⟨_, rfl, D, rfl, ⟨_, SqL.of eD2⟩, ?_⟩
  refine for_list (K := K) (a := D) (xs := (hooksL ts).map vn) (fun i σ H' => ∃ (o2 : Option V), σ = [some (.ref a), none, o2, some (.ref D), some (vn (((hooksL ts).take i).foldl (· / ·) (facN (hooksL ts).length))), o5] ∧ Same H2 H') ⟨_, rfl, Same.refl _⟩ (fun i σ H' _ hp => by obtain ⟨_, _, sm⟩ := hp; exact SqL.of (sm _ _ eD2)) (fun i x σ H3 hx hp => ?_) (fun σ H3 hp => ?_)
  · obtain ⟨o2, rfl, s3⟩ := hp
    rw [List.getElem?_map] at hx
    obtain ⟨h, hh, rfl⟩ := Option.map_eq_some_iff.mp hx
    have hm := List.mem_of_getElem? hh
    have hpos := hooksL_pos ts h hm
    have hle := hook_le hm
    have fb := foldl_div_le ((hooksL ts).take i) (facN (hooksL ts).length)
    have := fac15 h15
    refine ⟨_, rfl, _, rfl, _, _, rfl, rfl, ⟨by omega, by omega⟩, ?_⟩
    refine ⟨some (vn h), ?_, s3⟩
    have e : vn (((hooksL ts).take (i + 1)).foldl (· / ·) (facN (hooksL ts).length)) = V.int (((((hooksL ts).take i).foldl (· / ·) (facN (hooksL ts).length) : Nat) : Int) / (h : Int)) := by
      rw [take_nextG hh, List.foldl_append]
      rfl
    rw [e]
    rfl
  · obtain ⟨o2, rfl, s3⟩ := hp
    rw [List.length_map, List.take_length]
    exact ⟨_, rfl, q H3 (s1.trans (s2.trans s3))⟩
def spCountO : Sp := fun vs H Q _ => ∃ (v : V) (t : B), vs = [v] ∧ BAt H v t ∧ t.size ≤ 15 ∧ ∀ (H' : Hp), Same H H' → Q (vn t.num) H'
theorem ok_countO (F : Fun K "count_orders" "count_orders" s_count_orders f fd) (Dcount_together : Df P w K mg base 21 "count_together" ["parts"] (spTogether K)) : FnOk P w K mg base CX0 22 f fd ["tree"] spCountO := by
  refine F.ok sc_count_orders (fun vs H Q E h => ?_) (fun cdv A outer s H vs Q E hr h => ?_)
  · obtain ⟨v, t, rfl, _⟩ := h
    rfl
  obtain ⟨v, t, rfl, hv, hz, q⟩ := h
  refine ⟨_, (pss_one (ps_ret (pe_call Dcount_together.ok (hr.mono (by omega)) rfl Dcount_together.g Dcount_together.kp Dcount_together.b .nil pass0 (pa_cons (pe_lst (pa_cons (pv 0) pa_nil)) pa_nil)))), ?_⟩
  refine ⟨_, rfl, (by show 1 ≤ sizeLine; decide), fun p np => ?_⟩
  have k1 := same_new np (.lst [v])
  refine ⟨p, [v], [t], rfl, SqL.of upd_same, .cons (hv.same k1) .nil, ?_, fun H' s' => ?_⟩
  · unfold hooksL
    rw [List.flatMap_cons, List.flatMap_nil, List.append_nil, B.hooks_len]
    exact hz
  · rw [together_one]
    exact q H' (k1.trans s')
end
/-! ### sorted(xs, key=lambda x: x[0]), sorted(xs, key=lambda x: len(x[0])) -/
section
variable {prog : Program} {w : World} {A : Around} {s : Shared}
/-- a lambda of one name, called; its body told from the new frame -/
theorem lam_one {f c' : Addr} {q x : Str} {params : Arguments} {body : Expr} {scope : Scope} {cl : List (Str × Addr)} {pm ctv v : Value} {Q : Value → Shared → Prop}
    (room : A.depth < recursionLimit) (hf : s.heap.get? f = some (PySem.W.kla_obj "<lambda>" q params body scope cl pm c' ctv)) (hrec : s.heap.CodeRec (.ref c') q) (lim : s.heap.NoLimit)
    (hco : scope.isCoroutine = false) (hgen : scope.isGenerator = false) (hk : scope.kind = .function) (hc : ∀ y ∈ scope.names, y.2 ≠ .cell) (hx : scope.names.lookup x = some .local)
    (hbind : bindArgs (PySem.W.kla_fn "<lambda>" q params body scope cl pm (.ref c') ctv) ⟨[v], []⟩ = pure [(x, v)])
    (hbody : ∀ (h₁ : Heap) (env : Env), (∀ b o, s.heap.get? b = some o → h₁.get? b = some o) → env.scope = scope → env.globals = mainGlobals → env.builtins = builtinsNs → env.kindOf x = some .local → h₁.Ns env.locals (fun y => [(x, v)].reverse.lookup y) →
      wpAny (model prog w) (A.deeper env) (eval body env) Q (fun _ _ => False) { s with heap := h₁, toks := s.toks + 1 }) :
    wpAny (model prog w) A (call (.ref f) [v]) Q (fun _ _ => False) s := by
  refine wpAny_call (PySem.W.kla_callFunE room hf rfl hco hgen rfl hrec ?_)
  rw [hbind]
  refine wpAny_pure (wpAny_newFunctionEnv hc (fun y hy => by rw [List.mem_singleton.mp hy]; exact hx) (fun h₁ hns hsb => ⟨lim.fresh _ hsb, ?_⟩) hk)
  refine PySem.W.kla_codeExpr (wpAny_mono (hbody h₁ _ (fun b o e => hsb.extBut b o (Nat.ne_of_lt (Heap.lt_size e)) (Heap.get?_push_of_some _ e)) rfl rfl rfl hx hns) (fun v s' h => h) fun _ _ h => h.elim)
/-- its body x[0], x a pair that begins with a text -/
theorem lam_item {env : Env} {x : Str} {t : Addr} {items : Array Value} {z : Str} {tz : Tok} {m : Str → Option Value} {j : Nat} {p1 cp pos : Pos} {Q : Value → Shared → Prop} (hk : env.scope.kind = .function) (hx : env.kindOf x = some .local) (hn : s.heap.Ns env.locals m)
    (hm : m x = some (.ref t)) (ht : IsTup s.heap t items) (h0 : items[0]? = some (.str z tz)) (hd : (x == ("__debug__" : Str)) = false) (hq : ∀ tk, Q (.str z tz) { s with toks := tk }) :
    wpAny (model prog w) A (eval (.Subscript (.Name x p1) (.Constant (.int 0) j cp) pos) env) Q (fun _ _ => False) s := by
  refine Subscript_ (wpAny_Name (wpAny_loadName_local hk hx hn hm ?_) hd)
  refine wpAny_Constant_int ?_
  have hsz : 0 < items.size := (Array.getElem?_eq_some_iff.mp h0).1
  exact item_tuple (j := 0) ht (by decide) (by decide) (seqIndex_of (Int.le_refl 0) (by omega)) h0 (hq _)
/-- its body len(x[0]) -/
theorem lam_len {env : Env} {x : Str} {t : Addr} {items : Array Value} {z : Str} {tz : Tok} {m mg mb : Str → Option Value} {j : Nat} {p0 p1 cp pos pos2 : Pos} {Q : Value → Shared → Prop} (hk : env.scope.kind = .function) (hx : env.kindOf x = some .local) (hn : s.heap.Ns env.locals m)
    (hl : env.kindOf "len" = some .globalImplicit) (hg : env.globals = mainGlobals) (hbn : env.builtins = builtinsNs) (hmg : s.heap.Ns mainGlobals mg) (hmb : s.heap.Ns builtinsNs mb) (hml : mg "len" = none) (hbl : mb "len" = bootBuiltins "len")
    (hm : m x = some (.ref t)) (ht : IsTup s.heap t items) (h0 : items[0]? = some (.str z tz)) (hd : (x == ("__debug__" : Str)) = false) (hz : z.length ≤ 1000000) (hq : ∀ tu tk, Q (.int (z.length : Int) tu) { s with toks := tk }) :
    wpAny (model prog w) A (eval (.Call (.Name "len" p0) [.Subscript (.Name x p1) (.Constant (.int 0) j cp) pos] [] pos2) env) Q (fun _ _ => False) s := by
  refine Call_ (Calls.Name_function_global hk hl (Calls.loadGlobal_builtin (by rw [hg]; exact hmg) hml (by rw [hbn]; exact hmb) (hbl.trans (show bootBuiltins "len" = some (.builtin "len") by decide +kernel)) ?_) (by decide))
  refine PyProof.Rows.callWith_builtin1 ?_
  refine Calls.spliced_cons (lam_item hk hx hn hm ht h0 hd fun tk => Calls.spliced_nil ?_)
  exact PySem.P.len_str (by omega) (hq _ _)
end
theorem each_vals {vs : List V} {us : List Value} (h : Vals vs us) : PySem.W.EachIs (fun u v => RelV v u) us vs := by
  induction h with
  | nil => exact .nil
  | cons r _ ih => exact .cons r ih
theorem vals_each {vs : List V} {us : List Value} (h : PySem.W.EachIs (fun u v => RelV v u) us vs) : Vals vs us := by
  induction h with
  | nil => exact .nil
  | cons r _ ih => exact .cons r ih
theorem seqL_ext {K : PySem.W.Frag} {H H' : Hp} (e : LamX.ExtN H H') {a : Addr} {xs : List V} (h : SqL K H a xs) : SqL K H' a xs := by
  rcases h with h | h
  · rcases h with h | ⟨o, h⟩
    · exact .inl (.inl (e _ _ h (fun ps z => by cases z)))
    · exact .inl (.inr ⟨o, e _ _ h (fun ps z => by cases z)⟩)
  · exact .inr h
/-- a lambda of one name whose value at a pair that begins with the text z is g z -/
def KeyLam (x : Str) (mg : Str → Option Value) (params : Arguments) (body : Expr) (scope : Scope) (g : Str → PyData) : Prop :=
  scope.isCoroutine = false ∧ scope.isGenerator = false ∧ scope.kind = .function ∧ (∀ y ∈ scope.names, y.2 ≠ .cell ∧ y.2 ≠ .free) ∧ scope.names.lookup x = some .local ∧
  (∀ (q : Str) (pm cv ctv v : Value) (cl : List (Str × Addr)), bindArgs (PySem.W.kla_fn "<lambda>" q params body scope cl pm cv ctv) ⟨[v], []⟩ = pure [(x, v)]) ∧
  ∀ {prog : Program} {w : World} {A : Around} {s : Shared} {env : Env} {t : Addr} {items : Array Value} {z : Str} {tz : Tok} {mb : Str → Option Value} {m : Str → Option Value} {Q : Value → Shared → Prop}, env.scope = scope → env.globals = mainGlobals → env.builtins = builtinsNs → env.kindOf x = some .local → s.heap.Ns env.locals m → m x = some (.ref t) →
    s.heap.Ns mainGlobals mg → s.heap.Ns builtinsNs mb → (∀ y : Str, y ≠ "__name__" → mb y = bootBuiltins y) → IsTup s.heap t items → items[0]? = some (.str z tz) → z.length ≤ 1000000 → (∀ v tk, Reads s.heap v (g z) [] → Q v { s with toks := tk }) →
    wpAny (model prog w) A (eval body env) Q (fun _ _ => False) s
def KeyG (g : Str → PyData) : Prop := (∀ z z', PySem.W.alike (g z) (g z') = true) ∧ (∀ z, g z ≠ .none ∧ ∀ xs, g z ≠ .tuple xs) ∧ ∀ z, (g z).depth = 0
def tSortK (K : PySem.W.Frag) (T : List (Addr × Str)) (g : Str → PyData) (te : TE) : TE := fun σ H Q => te σ H fun v H1 => ∃ (a : Addr) (xs : List V) (kf : V → PyData), v = .ref a ∧ SqL K H1 a xs ∧ LamX.Tabs T H1 ∧
  (∀ x ∈ xs, ∃ (t : Addr) (z : Str) (u : V), x = .ref t ∧ H1 t = some (.tup [.str z, u]) ∧ kf x = g z ∧ z.length ≤ 1000000) ∧
  ∀ (p : Addr) (H2 : Hp), LamX.ExtN H1 H2 → LamX.Tabs T H2 → H2 p = none → Q (.ref p) (upd H2 p (.lst (xs.mergeSort (PySem.W.dataLe false kf))))
section
variable {X : Cx}
theorem pe_sortKey {T : List (Addr × Str)} {c P : Addr} {k : Nat} {g : Str → PyData} {te : TE} {e : Expr} {x : Str} {params : Arguments} {body : Expr} {scope : Scope} {p lpos kpos pos : Pos} (he : PE X e te) (hg : Gl X "sorted") (hm : X.mg "sorted" = none) (hr : Room (k + 1) X.A)
    (TB : LamX.TabB X.base X.mg c P) (hcode : X.env.code = .ref c) (hmT : (P, X.env.qual ++ "<lambda>") ∈ T) (hu : ∀ p ∈ T, p.1 = P → p.2 = X.env.qual ++ "<lambda>") (hdef : defaultsOf params X.env = ([], []))
    (KL : KeyLam x X.mg params body scope g) (KG : KeyG g) (hst : backTo pos (starEach [e] X.env) = (false, eval e X.env) :: backTo pos (starEach [] X.env) := by rfl) :
    PE X (.Call (.Name "sorted" p) [e] [⟨some "key", .Lambda params body scope lpos, kpos⟩] pos) (tSortK X.K T g te) := by
  obtain ⟨k1, k2, k3, k4, k5, k6, k7⟩ := KL
  obtain ⟨g1, g2, g3⟩ := KG
  refine ⟨fun pins s σ H Q I h => ?_⟩
  refine wpAny_Call_Name_kw (ld_blt I hg hm (show bootBuiltins "sorted" = some (.builtin "sorted") by decide +kernel) ?_)
  refine PyProof.Rows.callWith_kw ?_ hst (by rw [hst]; rfl) (by rfl) (by rfl)
  rw [hst]
  refine Calls.spliced_cons (thn (he.run pins s σ H _ I h) fun u s1 ⟨v, H1, I1, r1, a, xs, kf, ev, hs, hT, hx, q⟩ => ?_)
  subst ev
  obtain rfl : u = Value.ref a := r1
  refine Calls.spliced_nil ?_
  refine PyProof.Rows.evalAll_cons ?_
  show wpAny _ _ (eval (.Lambda params body scope lpos) X.env >>= fun v => standAt pos >>= fun _ => pure v) _ _ _
  refine wpAny_bind (LamX.lam_make2 I1 TB hcode hmT hu hT hdef (fun y hy e => absurd e (k4 y hy).2) fun f c' pm ctv H2 s2 I2 eN T2 hf hfn hfr hco => wpAny_bind (wpAny_standAt (wpAny_pure (PyProof.Rows.evalAll_nil ?_))))
  show wpAny _ _ (call (.builtin "sorted") [.ref a] [("key", .ref f)]) _ _ s2
  have hs2 := seqL_ext eN hs
  obtain ⟨its, rv, hl, hz⟩ := I2.list hs2
  have ex : ∀ z, z ∈ xs.map kf → ∃ y, z = g y := fun z hm => by
    obtain ⟨v, hv, rfl⟩ := List.mem_map.mp hm
    obtain ⟨_, y, _, _, _, e, _⟩ := hx v hv
    exact ⟨y, e⟩
  have room := hr.dp
  have units := hr.un
  refine PySem.W.sorted_key_data (b := false) (β := V) (bs := xs) (R := fun u v => RelV v u) kf hl.isList (each_vals rv) (fun d hd d' hd' => ?_) (.inr fun d hd => ?_) hz (fun v hv => ?_) (PyProof.Rows.ksk_s1 _ _) (fun _ => PyProof.Rows.ksk_l1 _ _) (fun _ => PyProof.Rows.ksk_t1 _ _) (fun v y r hy h tk kp => ?_) fun out c2 h' tk kp fresh ho hlen eo => ?_
  · obtain ⟨y, rfl⟩ := ex d hd
    obtain ⟨y', rfl⟩ := ex d' hd'
    exact g1 y y'
  · obtain ⟨y, rfl⟩ := ex d hd
    exact g2 y
  · obtain ⟨y, e⟩ := ex (kf v) (List.mem_map.mpr ⟨v, hv, rfl⟩)
    rw [e, g3]
    omega
  · obtain ⟨t, z, u2, rfl, ht, ek, hzl⟩ := hx y hy
    obtain rfl : v = Value.ref t := r
    obtain ⟨_, its2, r2, o, hot, hct, n, hdt⟩ := I2.hok t _ (eN _ _ ht (fun ps z => by cases z))
    obtain ⟨w1, w2, rfl, rw1, _⟩ := vals2 r2
    obtain ⟨tz, rfl⟩ := rw1
    obtain ⟨⟨oc, vs, tc, hoc, hdc, hvc⟩, _, _⟩ := I2.hok c' _ hco
    obtain ⟨mb, b1, b2⟩ := I2.mod.blt
    have glob : s2.heap.Ns mainGlobals X.mg := I2.mod.glob.keeps I2.bk
    have blt : s2.heap.Ns builtinsNs mb := b1.keeps I2.bk
    refine lam_one (s := { s2 with heap := h, toks := tk }) (by show X.A.depth < recursionLimit; omega) (kp _ _ hf) ⟨c', oc, vs, tc, rfl, kp _ _ hoc, hdc, hvc⟩ (I2.nolimit.keeps kp) k1 k2 k3 (fun y hy => (k4 y hy).1) k5 (k6 _ _ _ _ _ _) fun h₁ env kp2 e1 e2 e3 e4 hns => ?_
    have kk : ∀ b o, s2.heap.get? b = some o → h₁.get? b = some o := fun b o e => kp2 b o (kp b o e)
    refine k7 e1 e2 e3 e4 hns (by simp) (glob.keeps kk) (blt.keeps kk) b2 (⟨o, kk _ _ hot, hct, n, hdt⟩ : IsTup h₁ t _) rfl hzl fun v' tk' hrd => ?_
    rw [ek]
    exact ⟨h₁, tk', rfl, kp2, hrd⟩
  · have hp : H2 (s2.heap.objs.size + 1) = none := I2.hok.fresh (Nat.le_succ _)
    refine ⟨.ref _, _, I2.laid (t' := tk) kp (Nat.le_succ _) (o := .lst (xs.mergeSort (PySem.W.dataLe false kf))) ⟨by rw [List.length_mergeSort]; exact hz, out, c2, vals_each eo, ho⟩, rfl, q _ _ eN T2 hp⟩
end
theorem keyG_str : KeyG PyData.str := ⟨fun _ _ => by simp [PySem.W.alike], fun _ => ⟨by simp, by simp⟩, fun _ => by simp [PyData.depth]⟩
theorem keyG_len : KeyG fun z : Str => .int (z.length : Int) := ⟨fun _ _ => by simp [PySem.W.alike], fun _ => ⟨by simp, by simp⟩, fun _ => by simp [PyData.depth]⟩
theorem keyLam_item {mg : Str → Option Value} {x : Str} {params : Arguments} {scope : Scope} {j : Nat} {p1 cp pos : Pos} (h1 : scope.isCoroutine = false) (h2 : scope.isGenerator = false) (h3 : scope.kind = .function) (h4 : ∀ y ∈ scope.names, y.2 ≠ .cell ∧ y.2 ≠ .free) (h5 : scope.names.lookup x = some .local)
    (h6 : ∀ (q : Str) (pm cv ctv v : Value) (cl : List (Str × Addr)), bindArgs (PySem.W.kla_fn "<lambda>" q params (.Subscript (.Name x p1) (.Constant (.int 0) j cp) pos) scope cl pm cv ctv) ⟨[v], []⟩ = pure [(x, v)]) (hd : (x == ("__debug__" : Str)) = false) :
    KeyLam x mg params (.Subscript (.Name x p1) (.Constant (.int 0) j cp) pos) scope PyData.str :=
  ⟨h1, h2, h3, h4, h5, h6, fun e1 e2 e3 e4 hn hm g b b2 ht h0 hz hq => lam_item (by rw [e1]; exact h3) e4 hn hm ht h0 hd fun tk => hq _ tk (Reads.str _ _)⟩
theorem keyLam_len {mg : Str → Option Value} {x : Str} {params : Arguments} {scope : Scope} {j : Nat} {p0 p1 cp pos pos2 : Pos} (h1 : scope.isCoroutine = false) (h2 : scope.isGenerator = false) (h3 : scope.kind = .function) (h4 : ∀ y ∈ scope.names, y.2 ≠ .cell ∧ y.2 ≠ .free) (h5 : scope.names.lookup x = some .local)
    (h6 : ∀ (q : Str) (pm cv ctv v : Value) (cl : List (Str × Addr)), bindArgs (PySem.W.kla_fn "<lambda>" q params (.Call (.Name "len" p0) [.Subscript (.Name x p1) (.Constant (.int 0) j cp) pos] [] pos2) scope cl pm cv ctv) ⟨[v], []⟩ = pure [(x, v)]) (hd : (x == ("__debug__" : Str)) = false)
    (h7 : scope.names.lookup ("len" : Str) = some NameKind.globalImplicit) (h8 : mg "len" = none) :
    KeyLam x mg params (.Call (.Name "len" p0) [.Subscript (.Name x p1) (.Constant (.int 0) j cp) pos] [] pos2) scope fun z => .int (z.length : Int) :=
  ⟨h1, h2, h3, h4, h5, h6, fun e1 e2 e3 e4 hn hm g b b2 ht h0 hz hq => lam_len (by rw [e1]; exact h3) e4 hn (by rw [← e1] at h7; exact h7) e2 e3 g b h8 (b2 _ (by decide)) hm ht h0 hd hz fun tu tk => hq _ tk (Reads.int _ _)⟩
/-! ### next_steps -/
def kids (l r : B) : List B := [l, r].filter fun t => decide (t ≠ .nil)
def kidsV (l r : V) : List V := [l, r].filter fun v => !decide (v = .non)
/-- the steps from ts, the i-th root taken -/
def stepAt (ts : List B) (i : Nat) : Nat × List B := match ts[i]? with
  | some (.node l x r) => (x, ts.take i ++ kids l r ++ ts.drop (i + 1))
  | _ => (0, [])
def stepsL (ts : List B) : List (Nat × List B) := (List.range ts.length).map (stepAt ts)
theorem TsAt.app {H : Hp} {vs us : List V} {ts ws : List B} (h : TsAt H vs ts) (g : TsAt H us ws) : TsAt H (vs ++ us) (ts ++ ws) := by
  induction h with
  | nil => exact g
  | cons a _ ih => exact .cons a ih
theorem TsAt.take {H : Hp} {vs : List V} {ts : List B} (h : TsAt H vs ts) : ∀ n : Nat, TsAt H (vs.take n) (ts.take n) := by
  induction h with
  | nil => intro n; rw [List.take_nil, List.take_nil]; exact .nil
  | cons a _ ih =>
    intro n
    cases n with
    | zero => exact .nil
    | succ n => exact .cons a (ih n)
theorem TsAt.drop {H : Hp} {vs : List V} {ts : List B} (h : TsAt H vs ts) : ∀ n : Nat, TsAt H (vs.drop n) (ts.drop n) := by
  induction h with
  | nil => intro n; rw [List.drop_nil, List.drop_nil]; exact .nil
  | cons a h ih =>
    intro n
    cases n with
    | zero => exact .cons a h
    | succ n => exact ih n
theorem TsAt.keep {H H' : Hp} (k : KeepT H H') {vs : List V} {ts : List B} (h : TsAt H vs ts) : TsAt H' vs ts := by
  induction h with
  | nil => exact .nil
  | cons a _ ih => exact .cons (a.keep k) ih
theorem kids_at {H : Hp} {l r : V} {tl tr : B} (hl : BAt H l tl) (hr : BAt H r tr) : TsAt H (kidsV l r) (kids tl tr) := by
  unfold kids kidsV
  rcases hl.inv with ⟨rfl, rfl⟩ | ⟨a, l1, r1, x, t1, t2, rfl, rfl, e, h1, h2⟩ <;> rcases hr.inv with ⟨rfl, rfl⟩ | ⟨a', l1', r1', x', t1', t2', rfl, rfl, e', h1', h2'⟩
  · exact .nil
  · exact .cons hr .nil
  · exact .cons hl .nil
  · exact .cons hl (.cons hr .nil)
/-- the steps SS lie at us: pairs of a letter and a new list of trees, none of the lists at N -/
inductive SAt (N : Addr) (H : Hp) : List V → List (Nat × List B) → Prop
  | nil : SAt N H [] []
  | cons {a q : Addr} {c : Nat} {ws : List V} {ts : List B} {us : List V} {ss : List (Nat × List B)} : H a = some (.tup [.str (ch c), .ref q]) → q ≠ N → H q = some (.lst ws) → TsAt H ws ts → SAt N H us ss → SAt N H (.ref a :: us) ((c, ts) :: ss)
theorem SAt.keep {N : Addr} {H H' : Hp} (k : KeepT H H') (kl : ∀ b o, b ≠ N → H b = some o → (∀ ps, o ≠ .tbl ps) → H' b = some o) {us : List V} {ss : List (Nat × List B)} (h : SAt N H us ss) : SAt N H' us ss := by
  induction h with
  | nil => exact .nil
  | cons e1 e2 e3 e4 _ ih => exact .cons (k _ _ e1) e2 (kl _ _ e2 e3 (fun ps z => by cases z)) (e4.keep k) ih
theorem SAt.snoc {N : Addr} {H : Hp} {us : List V} {ss : List (Nat × List B)} (h : SAt N H us ss) {a q : Addr} {c : Nat} {ws : List V} {ts : List B} (e1 : H a = some (.tup [.str (ch c), .ref q])) (e2 : q ≠ N) (e3 : H q = some (.lst ws)) (e4 : TsAt H ws ts) : SAt N H (us ++ [.ref a]) (ss ++ [(c, ts)]) := by
  induction h with
  | nil => exact .cons e1 e2 e3 e4 .nil
  | cons f1 f2 f3 f4 _ ih => exact .cons f1 f2 f3 f4 ih
theorem SAt.len {N : Addr} {H : Hp} {us : List V} {ss : List (Nat × List B)} (h : SAt N H us ss) : us.length = ss.length := by
  induction h with
  | nil => rfl
  | cons _ _ _ _ _ ih => rw [List.length_cons, List.length_cons, ih]
theorem SAt.get {N : Addr} {H : Hp} {us : List V} {ss : List (Nat × List B)} (h : SAt N H us ss) : ∀ {i : Nat} {v : V}, us[i]? = some v → ∃ a q c ws ts, v = .ref a ∧ ss[i]? = some (c, ts) ∧ H a = some (.tup [.str (ch c), .ref q]) ∧ H q = some (.lst ws) ∧ TsAt H ws ts := by
  induction h with
  | nil => intro i v e; simp at e
  | cons e1 e2 e3 e4 _ ih =>
    intro i v e
    cases i with
    | zero => cases e; exact ⟨_, _, _, _, _, rfl, rfl, e1, e3, e4⟩
    | succ i => exact ih e
theorem SAt.re {N N' : Addr} {H : Hp} {us : List V} {ss : List (Nat × List B)} (h : SAt N H us ss) (n : H N' = none) : SAt N' H us ss := by
  induction h with
  | nil => exact .nil
  | cons e1 e2 e3 e4 _ ih => exact .cons e1 (ne_of_none e3 n) e3 e4 ih
theorem SAt.perm {N : Addr} {H : Hp} {us ys : List V} (p : ys.Perm us) : ∀ {ss : List (Nat × List B)}, SAt N H us ss → ∃ zz, SAt N H ys zz ∧ zz.Perm ss := by
  induction p with
  | nil => intro ss h; exact ⟨ss, h, .refl _⟩
  | cons x _ ih =>
    intro ss h
    cases h with
    | cons e1 e2 e3 e4 h =>
      obtain ⟨zz, h1, h2⟩ := ih h
      exact ⟨_ :: zz, .cons e1 e2 e3 e4 h1, h2.cons _⟩
  | swap x y l =>
    intro ss h
    cases h with
    | cons e1 e2 e3 e4 h =>
      cases h with
      | cons f1 f2 f3 f4 h => exact ⟨_ :: _ :: _, .cons f1 f2 f3 f4 (.cons e1 e2 e3 e4 h), List.Perm.swap _ _ _⟩
  | trans _ _ ih1 ih2 =>
    intro ss h
    obtain ⟨z1, h1, p1⟩ := ih2 h
    obtain ⟨z2, h2, p2⟩ := ih1 h1
    exact ⟨z2, h2, p2.trans p1⟩
def kzOf (H : Hp) (x : V) : Str := match x with
  | .ref t => (match H t with | some (.tup [.str z, _]) => z | _ => Str.ofString "")
  | _ => Str.ofString ""
theorem kzOf_at {H : Hp} {a : Addr} {z : Str} {u : V} (e : H a = some (.tup [.str z, u])) : kzOf H (.ref a) = z := by
  simp only [kzOf, e]
theorem SAt.kz {N : Addr} {H : Hp} {us : List V} {ss : List (Nat × List B)} (h : SAt N H us ss) : us.map (kzOf H) = ss.map fun s => ch s.1 := by
  induction h with
  | nil => rfl
  | cons e1 _ _ _ _ ih =>
    rw [List.map_cons, List.map_cons, ih]
    exact congrArg (· :: _) (kzOf_at e1)
theorem ch_le {a b : Nat} (h : (ch a).cps.toList ≤ (ch b).cps.toList) : a ≤ b := by
  have h1 := ch_lt b a
  by_cases h2 : b < a
  · rw [decide_eq_true h2] at h1
    exact absurd h (List.not_le.mpr (of_decide_eq_true h1))
  · omega
theorem tabs_but {T : List (Addr × Str)} {H H' : Hp} {N : Addr} {ws : List V} (e : H N = some (.lst ws)) (k : ∀ b o, b ≠ N → H b = some o → H' b = some o) (h : LamX.Tabs T H) : LamX.Tabs T H' := fun p hp => by
  obtain ⟨ps, h1, h2, h3⟩ := h p hp
  refine ⟨ps, k _ _ (fun z => by rw [z, e] at h1; cases h1) h1, h2, fun pos cv hc => ?_⟩
  obtain ⟨c, e1, e2⟩ := h3 pos cv hc
  exact ⟨c, e1, k _ _ (fun z => by rw [z, e] at e2; unfold LamX.CodeO at e2; cases e2) e2⟩
theorem extN_keepT {H H' : Hp} (k : LamX.ExtN H H') : KeepT H H' := fun b xs e => k b _ e fun ps z => by cases z
def spNextSteps (K : PySem.W.Frag) (T : List (Addr × Str)) : Sp := fun vs H Q _ => ∃ (a : Addr) (us : List V) (ts : List B), vs = [.ref a] ∧ SqL K H a us ∧ TsAt H us ts ∧ (∀ t ∈ ts, t ≠ .nil) ∧ ts.length ≤ 100 ∧ LamX.Tabs T H ∧
  ∀ (p : Addr) (ws : List V) (SS : List (Nat × List B)) (H' : Hp), LamX.ExtN H H' → LamX.Tabs T H' → H' p = some (.lst ws) → SAt p H' ws SS → SS.Perm (stepsL ts) → SS.Pairwise (fun a b => a.1 ≤ b.1) → Q (.ref p) H'
section
variable {P : Program} {w : World} {K : PySem.W.Frag} {mg : Str → Option Value} {base : Heap} {f : Addr} {fd : FuncData}
/-- a def whose code object is known -/
theorem okC {x qual : Str} {st : Stmt} {N ps : List Str} {k : Nat} {sp : Sp} {c : Addr} (F : Fun K x qual st f fd) (hc : fd.code = .ref c) (S : FnScope N ps (defScope st)) (len : ∀ vs H Q E, sp vs H Q E → vs.length = ps.length)
    (hbody : ∀ (A : Around) (outer : List Env) (s : Shared) (H : Hp) (vs : List V) (Q : VK) (E : XK), Room k (A.deeper (envOfC qual (defScope st) s.heap.objs.size f (.ref c))) → sp vs H Q E →
      ∃ t, PSs (cxOf CX0 P w K mg base N qual (defScope st) f (.ref c) A outer s H E).nox (defBody st) t ∧ t { nx := fun _ H' => Q .non H', rt := Q } (start N vs) H) : FnOk P w K mg base CX0 (k + 1) f fd ps sp := by
  obtain ⟨oc, od, kV, doc, pm, an, cdv, ct, osl, rfl, lk, hcd⟩ := F.ex
  obtain rfl : cdv = .ref c := hc
  refine fn_of lk hcd S len fun A outer s H vs Q E hr hsp => ?_
  obtain ⟨t, h, q⟩ := hbody A outer s H vs Q E hr hsp
  exact ⟨t, h.nox, q⟩
theorem ok_nextSteps {T : List (Addr × Str)} {c P' : Addr} (F : Fun K "next_steps" "next_steps" s_next_steps f fd) (hc : fd.code = .ref c) (M : Mgs mg) (TB : LamX.TabB base mg c P') (hmT : (P', ("next_steps.<locals>.<lambda>" : Str)) ∈ T) (hu : ∀ p ∈ T, p.1 = P' → p.2 = ("next_steps.<locals>.<lambda>" : Str)) :
    FnOk P w K mg base CX0 3 f fd ["parts"] (spNextSteps K T) := by
  refine okC F hc sc_next_steps (fun vs H Q E h => ?_) (fun A outer s H vs Q E hr h => ?_)
  · obtain ⟨a, us, ts, rfl, _⟩ := h
    rfl
  obtain ⟨a, us, ts, rfl, ea, ta, nn, tl, hT, q⟩ := h
  have hr := hr
  refine ⟨_, (pss_cons (ps_set (i := 1) sc_next_steps.nd rfl (.inl rfl) (pe_lst pa_nil))
    (pss_cons (ps_for PassesOwn.never rfl (pi_enum rfl M.enumerate (pa_cons (pv 0) pa_nil)) (pg_tup rfl (pgs_cons (pg_name (i := 2) sc_next_steps.nd rfl (.inl rfl)) (pgs_cons (pg_tup rfl (pgs_cons (pg_name (i := 3) sc_next_steps.nd rfl (.inl rfl)) (pgs_cons (pg_name (i := 4) sc_next_steps.nd rfl (.inl rfl)) (pgs_cons (pg_name (i := 5) sc_next_steps.nd rfl (.inl rfl)) pgs_nil)))) pgs_nil)))
      (pss_cons (ps_setLc (i := 7) (own := [("side", 6)]) (g := gName 6) (by rfl) sc_next_steps.nd rfl rfl (sw_true rfl rfl rfl (by decide +kernel)) (pi_tup (pe_tup (pa_cons (pv 3) (pa_cons (pv 5) pa_nil)))) (blkOk_by (N := ["parts", "found", "at", "left", "letter", "right", "side", "sides"]) (sc := defScope s_next_steps) (by decide +kernel)) (fun _ _ _ _ _ => (pg_name (i := 6) sc_next_steps.nd rfl (.inl rfl))) (fun _ _ _ _ _ => pts_one (pt_cmpR op_notN (pv 6) pe_non (nomark _))) (fun _ _ _ _ _ => (pv 6)))
    (pss_one (ps_expr (pe_bm PySem.F.plainAttrs_list PySem.F.slot_list_append PySem.F.type_list_append mt_append (pv 1) (pa_cons (pe_tup (pa_cons (pv 4) (pa_cons (pe_op op_cat (pe_op op_cat (pe_slice sl_list (pv 0) po_none (po_some (pv 2))) (pv 7)) (pe_slice sl_list (pv 0) (po_some (pe_op op_add (pv 2) pe_int)) po_none)) pa_nil))) pa_nil))))))
    (pss_one (ps_ret (pe_sortKey (pv 1) rfl M.sorted hr TB rfl hmT hu rfl (keyLam_item rfl rfl rfl (by decide +kernel) rfl (fun _ _ _ _ _ _ => rfl) (by decide +kernel)) keyG_str))))), ?_⟩
  have len := ta.len
  refine ⟨(by show 0 ≤ sizeLine; decide), fun pf npf => ?_⟩
  have kf := same_new npf (.lst [])
  have ef := upd_same (H := H) (a := pf) (o := .lst [])
  have ea0 := kf.seq ea
  have ta0 := ta.same kf
  have hT0 : LamX.Tabs T (upd H pf (.lst [])) := hT.ext kf
  generalize upd H pf (.lst []) = H0 at kf ef ea0 ta0 hT0 ⊢
  refine ⟨_, rfl, a, us, rfl, ea0, ?_⟩
  have eaK : ∀ H' : Hp, (∀ b o, b ≠ pf → H0 b = some o → H' b = some o) → SqL K H' a us := fun H' k => by
    rcases ea with (e | ⟨o, e⟩) | e
    · exact .inl (.inl (k _ _ (ne_of_none e npf) (kf _ _ e)))
    · exact .inl (.inr ⟨o, k _ _ (ne_of_none e npf) (kf _ _ e)⟩)
    · exact .inr e
  have kT : ∀ H' : Hp, (∀ b o, b ≠ pf → H0 b = some o → H' b = some o) → KeepT H0 H' := fun H' k b xs e => k b _ (fun z => by rw [z, ef] at e; cases e) e
  refine for_it (walk_enum (K := K) (a := a) (xs := us)) (fun i σ H' => ∃ (o2 o3 o4 o5 o6 o7 : Option V) (ws : List V), σ = [some (.ref a), some (.ref pf), o2, o3, o4, o5, o6, o7] ∧ (∀ b o, b ≠ pf → H0 b = some o → H' b = some o) ∧ H' pf = some (.lst ws) ∧ SAt pf H' ws ((List.range i).map (stepAt ts)))
    ⟨none, none, none, none, none, none, [], rfl, (fun b o _ e => e), ef, .nil⟩ (fun i σ H' _ hp => ?_) (fun i x σ H1 H1' hi hp hy => ?_) (fun σ H1 hp => ?_)
  · obtain ⟨_, _, _, _, _, _, _, _, k, _⟩ := hp
    exact eaK _ k
  · obtain ⟨o2, o3, o4, o5, o6, o7, ws, rfl, k1, e1, sa⟩ := hp
    obtain ⟨t0, x1, x2, rfl, n0, rfl, ex1, ex2⟩ := hy
    cases ex1
    obtain ⟨t, ht, hat⟩ := (ta0.keep (kT _ k1)).get ex2
    have tn := nn t (List.mem_of_getElem? ht)
    rcases hat.inv with ⟨rfl, rfl⟩ | ⟨a', l, r, c, tl', tr', rfl, rfl, e', hl, hr'⟩
    · exact absurd rfl tn
    have j1 := same_new n0 (.tup [.int (i : Int), .ref a'])
    have et := upd_same (H := H1) (a := t0) (o := .tup [.int (i : Int), .ref a'])
    have e1' := j1 _ _ e1
    have k1' : ∀ b o, b ≠ pf → H0 b = some o → upd H1 t0 (.tup [.int (i : Int), .ref a']) b = some o := fun b o hb e => j1 _ _ (k1 b o hb e)
    have sa' := sa.keep (Tw.Same.keepT j1) fun b o _ e _ => j1 _ _ e
    have e2 := j1 _ _ e'
    have hl' := hl.same j1
    have hr2 := hr'.same j1
    generalize upd H1 t0 (.tup [.int (i : Int), .ref a']) = H2 at et e1' k1' sa' e2 hl' hr2 ⊢
    refine ⟨t0, _, rfl, SqT.of et, rfl, _, _, rfl, _, _, rfl, a', _, rfl, SqT.of e2, rfl, _, _, rfl, _, _, rfl, _, _, rfl, rfl, rfl, ?_⟩
    refine ⟨_, rfl, _, rfl, (by show 2 ≤ sizeLine; decide), fun tp ntp => ⟨tp, rfl, ⟨_, SqT.of upd_same⟩, fun D nD => ?_⟩⟩
    have j2 := same_new ntp (.tup [l, r])
    have etp := upd_same (H := H2) (a := tp) (o := .tup [l, r])
    have e1b := j2 _ _ e1'
    generalize upd H2 tp (.tup [l, r]) = H3 at j2 etp e1b nD ⊢
    have j3 := same_new nD (.lst [])
    refine lc_it (walk_tup (K := K) (a := tp) (xs := [l, r])) (fun i H' => Same H3 H' ∧ H' D = some (.lst (([l, r].take i).filter fun v => !decide (v = .non)))) ⟨j3, upd_same⟩ (fun i H' _ hp => SqT.of (hp.1 _ _ etp)) (fun j x H4 H4' hj hp hy => ?_) (fun H4 hp => ?_)
    · obtain ⟨s4, e4⟩ := hp
      obtain ⟨rfl, hx⟩ := hy
      rw [take_nextG hx, List.filter_append]
      refine ⟨rfl, ⟨_, rfl, rfl, _, rfl, ?_⟩⟩
      by_cases hn : x = .non
      · subst hn
        refine iteF ⟨s4, ?_⟩
        rw [e4]
        exact congrArg (fun z => some (HO.lst z)) (List.append_nil _).symm
      · rw [decide_eq_false hn]
        refine iteT ⟨_, rfl, _, e4, ?_, fun b o e => ?_, ?_⟩
        · exact small1000 (Nat.le_trans (List.length_filter_le _ _) (by rw [List.length_take]; show min j 2 ≤ 1000; omega))
        · rw [upd_ne (ne_of_none e nD)]; exact s4 _ _ e
        · rw [upd_same]
          have e : [x].filter (fun v => !decide (v = V.non)) = [x] := by
            rw [List.filter_cons, decide_eq_false hn]
            rfl
          rw [e]
    · obtain ⟨s4, e4⟩ := hp
      have s24 := j2.trans s4
      have e4' : H4 D = some (.lst (kidsV l r)) := e4
      have e14 := s24 _ _ e1'
      have k14 : ∀ b o, b ≠ pf → H0 b = some o → H4 b = some o := fun b o hb e => s24 _ _ (k1' b o hb e)
      have ea4 := eaK _ k14
      have ta4 := ta0.keep (kT _ k14)
      have kd4 := kids_at (hl'.same s24) (hr2.same s24)
      have kl2 : (kidsV l r).length ≤ 2 := List.length_filter_le _ _
      refine ⟨_, rfl, .inl ⟨rfl, _, SqL.of e14⟩, _, rfl, _, rfl, _, rfl, _, rfl, a, us, rfl, ea4, fun p5 n5 => ?_⟩
      rw [cut_to]
      have j5 := same_new n5 (.lst (us.take i))
      have e5 := upd_same (H := H4) (a := p5) (o := .lst (us.take i))
      have e4b := j5 _ _ e4'
      generalize upd H4 p5 (.lst (us.take i)) = H5 at j5 e5 e4b ⊢
      refine ⟨_, rfl, p5, D, _, _, rfl, rfl, e5, e4b, small (by rw [List.length_take]; omega), fun p6 n6 => ?_⟩
      have j6 := same_new n6 (.lst (us.take i ++ kidsV l r))
      have e6 := upd_same (H := H5) (a := p6) (o := .lst (us.take i ++ kidsV l r))
      generalize upd H5 p6 (.lst (us.take i ++ kidsV l r)) = H6 at j6 e6 ⊢
      have s46 := j5.trans j6
      refine ⟨_, rfl, _, rfl, _, _, rfl, rfl, _, rfl, a, us, rfl, s46.seq ea4, fun p7 n7 => ?_⟩
      rw [show ((i : Int) + 1) = ((i + 1 : Nat) : Int) from rfl, cut_from]
      have j7 := same_new n7 (.lst (us.drop (i + 1)))
      have e7 := upd_same (H := H6) (a := p7) (o := .lst (us.drop (i + 1)))
      have e6b := j7 _ _ e6
      generalize upd H6 p7 (.lst (us.drop (i + 1))) = H7 at j7 e7 e6b ⊢
      refine ⟨p6, p7, _, _, rfl, rfl, e6b, e7, small (by rw [List.length_append, List.length_take, List.length_drop]; omega), fun p8 n8 => ?_⟩
      have j8 := same_new n8 (.lst (us.take i ++ kidsV l r ++ us.drop (i + 1)))
      have e8 := upd_same (H := H7) (a := p8) (o := .lst (us.take i ++ kidsV l r ++ us.drop (i + 1)))
      generalize upd H7 p8 (.lst (us.take i ++ kidsV l r ++ us.drop (i + 1))) = H8 at j8 e8 ⊢
      have s48 := (s46.trans j7).trans j8
      refine ⟨(by show 2 ≤ sizeLine; decide), fun tq ntq => ?_⟩
      have j9 := same_new ntq (.tup [.str (ch c), .ref p8])
      have e9 := upd_same (H := H8) (a := tq) (o := .tup [.str (ch c), .ref p8])
      generalize upd H8 tq (.tup [.str (ch c), .ref p8]) = H9 at j9 e9 ⊢
      have s49 := s48.trans j9
      have s29 := s24.trans s49
      have k19 : ∀ b o, b ≠ pf → H0 b = some o → H9 b = some o := fun b o hb e => s29 _ _ (k1' b o hb e)
      have wl : ws.length = i := by rw [sa'.len, List.length_map, List.length_range]
      have ef9 := s29 _ _ e1'
      refine ⟨pf, _, _, rfl, rfl, ef9, small1000 (by omega), ?_⟩
      have np8 : p8 ≠ pf := fun z => by
        have := ((s24.trans s46).trans j7) _ _ e1'
        rw [z, this] at n8
        cases n8
      have kTu : KeepT H9 (upd H9 pf (.lst (ws ++ [.ref tq]))) := fun b xs e => by
        rw [upd_ne (fun z => by rw [z, ef9] at e; cases e)]
        exact e
      have tt : TsAt H9 (us.take i ++ kidsV l r ++ us.drop (i + 1)) (ts.take i ++ kids tl' tr' ++ ts.drop (i + 1)) :=
        (((ta4.take i).app kd4).app (ta4.drop (i + 1))).same s49
      have st : stepAt ts i = (c, ts.take i ++ kids tl' tr' ++ ts.drop (i + 1)) := by
        unfold stepAt
        rw [ht]
      refine ⟨_, _, _, _, _, _, ws ++ [.ref tq], rfl, fun b o hb e => ?_, upd_same, ?_⟩
      · rw [upd_ne hb]; exact k19 b o hb e
      · rw [List.range_succ, List.map_append, List.map_cons, List.map_nil, st]
        refine SAt.snoc ((sa'.keep (Tw.Same.keepT s29) fun b o _ e _ => s29 _ _ e).keep kTu fun b o hb e _ => by rw [upd_ne hb]; exact e) (kTu _ _ e9) np8 (by rw [upd_ne np8]; exact j9 _ _ e8) (tt.keep kTu)
  · obtain ⟨o2, o3, o4, o5, o6, o7, ws, rfl, k1, e1, sa⟩ := hp
    rw [len] at sa
    have hT1 := tabs_but ef k1 hT0
    have wl : ws.length = ts.length := by rw [sa.len, List.length_map, List.length_range]
    refine ⟨_, rfl, pf, ws, fun x => .str (kzOf H1 x), rfl, SqL.of e1, hT1, fun x hx => ?_, fun p H2 eN T2 np => ?_⟩
    · obtain ⟨j, hj⟩ := List.getElem?_of_mem hx
      obtain ⟨b, b2, d, _, _, rfl, _, g1, _, _⟩ := sa.get hj
      exact ⟨b, ch d, _, rfl, g1, congrArg PyData.str (kzOf_at g1), (by show 1 ≤ 1000000; decide)⟩
    · have pm := List.mergeSort_perm ws (PySem.W.dataLe false fun x => PyData.str (kzOf H1 x))
      have so := List.pairwise_mergeSort (le := PySem.W.dataLe false fun x => PyData.str (kzOf H1 x)) (by
        intro a b c h1 h2
        rw [PySem.W.dataLe_str] at h1 h2 ⊢
        exact decide_eq_true (List.le_trans (of_decide_eq_true h1) (of_decide_eq_true h2))) (by
        intro a b
        rw [PySem.W.dataLe_str]
        show (decide ((kzOf H1 a).cps.toList ≤ (kzOf H1 b).cps.toList) || decide ((kzOf H1 b).cps.toList ≤ (kzOf H1 a).cps.toList)) = true
        rcases List.le_total (kzOf H1 a).cps.toList (kzOf H1 b).cps.toList with h | h
        · rw [decide_eq_true h]; rfl
        · rw [decide_eq_true h, Bool.or_true]) ws
      generalize ws.mergeSort (PySem.W.dataLe false fun x => PyData.str (kzOf H1 x)) = ys at pm so ⊢
      obtain ⟨SS, sa1, pS⟩ := sa.perm pm
      have kz := sa1.kz
      have sa2 : SAt p H2 ys SS := (sa1.keep (extN_keepT eN) fun b o _ e n => eN b o e n).re np
      have j3 := same_new np (.lst ys)
      refine q p ys SS _ ?_ (T2.ext j3) upd_same (sa2.keep (Tw.Same.keepT j3) fun b o _ e _ => j3 _ _ e) pS ?_
      · intro b o e n
        have nb : b ≠ pf := ne_of_none e npf
        exact j3 _ _ (eN _ _ (k1 _ _ nb (kf _ _ e)) n)
      · have so2 : (ys.map (kzOf H1)).Pairwise fun a b => a.cps.toList ≤ b.cps.toList := by
          rw [List.pairwise_map]
          refine so.imp fun {a b} h => ?_
          rw [PySem.W.dataLe_str] at h
          exact of_decide_eq_true h
        rw [kz, List.pairwise_map] at so2
        exact so2.imp fun {a b} h => ch_le h
end
/-! ### steps and orders: mathematics -/
def prel (ts : List B) : List Nat := ts.flatMap B.pre
structure FG (ts : List B) : Prop where
  nn : ∀ t ∈ ts, t ≠ .nil
  nd : (prel ts).Nodup
theorem prel_app (a b : List B) : prel (a ++ b) = prel a ++ prel b := List.flatMap_append ..
theorem prel_cons (t : B) (b : List B) : prel (t :: b) = t.pre ++ prel b := List.flatMap_cons ..
theorem hooksL_app (a b : List B) : hooksL (a ++ b) = hooksL a ++ hooksL b := List.flatMap_append ..
theorem hooksL_cons (t : B) (b : List B) : hooksL (t :: b) = t.hooks ++ hooksL b := List.flatMap_cons ..
theorem kids_pre (l r : B) : prel (kids l r) = l.pre ++ r.pre := by
  cases l <;> cases r <;> simp [kids, prel, B.pre]
theorem kids_hooks (l r : B) : hooksL (kids l r) = l.hooks ++ r.hooks := by
  cases l <;> cases r <;> simp [kids, hooksL, B.hooks]
theorem kids_nn (l r : B) : ∀ t ∈ kids l r, t ≠ .nil := fun t ht => of_decide_eq_true (List.mem_filter.mp ht).2
theorem step_mem {ts : List B} (nn : ∀ t ∈ ts, t ≠ .nil) (c : Nat) (rest : List B) : (c, rest) ∈ stepsL ts ↔ ∃ pre l r post, ts = pre ++ .node l c r :: post ∧ rest = pre ++ kids l r ++ post := by
  unfold stepsL
  rw [List.mem_map]
  constructor
  · rintro ⟨i, hi, e⟩
    have hl := List.mem_range.mp hi
    have ht := List.getElem?_eq_getElem hl
    have hd : ts.drop i = ts[i] :: ts.drop (i + 1) := List.drop_eq_getElem_cons hl
    cases h : ts[i] with
    | nil => exact absurd h (nn _ (List.getElem_mem hl))
    | node l x r =>
      unfold stepAt at e
      rw [ht, h] at e
      cases e
      refine ⟨ts.take i, l, r, ts.drop (i + 1), ?_, rfl⟩
      rw [← h, ← hd, List.take_append_drop]
  · rintro ⟨pre, l, r, post, rfl, rfl⟩
    refine ⟨pre.length, List.mem_range.mpr (by rw [List.length_append, List.length_cons]; omega), ?_⟩
    unfold stepAt
    rw [List.getElem?_append_right (Nat.le_refl _), Nat.sub_self]
    have e : pre ++ B.node l c r :: post = (pre ++ [.node l c r]) ++ post := by rw [List.append_assoc]; rfl
    have e1 : (pre ++ B.node l c r :: post).take pre.length = pre := List.take_left' rfl
    have e2 : (pre ++ B.node l c r :: post).drop (pre.length + 1) = post := by rw [e]; exact List.drop_left' (by simp)
    show (c, (pre ++ B.node l c r :: post).take pre.length ++ kids l r ++ (pre ++ B.node l c r :: post).drop (pre.length + 1)) = _
    rw [e1, e2]
theorem FG.step {ts : List B} (g : FG ts) {c : Nat} {rest : List B} (h : (c, rest) ∈ stepsL ts) : FG rest ∧ c ∈ prel ts ∧ c ∉ prel rest := by
  obtain ⟨pre, l, r, post, rfl, rfl⟩ := (step_mem g.nn c rest).mp h
  have e : prel (pre ++ .node l c r :: post) = prel pre ++ (c :: ((l.pre ++ r.pre) ++ prel post)) := by rw [prel_app, prel_cons]; rfl
  have e2 : prel (pre ++ kids l r ++ post) = prel pre ++ ((l.pre ++ r.pre) ++ prel post) := by rw [prel_app, prel_app, kids_pre, List.append_assoc]
  have nd := g.nd
  rw [e] at nd
  have p : (prel pre ++ c :: ((l.pre ++ r.pre) ++ prel post)).Perm (c :: (prel pre ++ ((l.pre ++ r.pre) ++ prel post))) := List.perm_middle
  rw [p.nodup_iff, List.nodup_cons] at nd
  refine ⟨⟨fun t ht => ?_, by rw [e2]; exact nd.2⟩, by rw [e, p.mem_iff]; exact List.mem_cons_self, by rw [e2]; exact nd.1⟩
  rcases List.mem_append.mp ht with ht | ht
  · rcases List.mem_append.mp ht with ht | ht
    · exact g.nn t (List.mem_append_left _ ht)
    · exact kids_nn l r t ht
  · exact g.nn t (List.mem_append_right _ (List.mem_cons_of_mem _ ht))
theorem step_hooks {ts : List B} (g : FG ts) {c : Nat} {rest : List B} (h : (c, rest) ∈ stepsL ts) : (hooksL rest).length + 1 = (hooksL ts).length := by
  obtain ⟨pre, l, r, post, rfl, rfl⟩ := (step_mem g.nn c rest).mp h
  rw [hooksL_app, hooksL_app, kids_hooks, hooksL_app, hooksL_cons]
  show _ = (hooksL pre ++ (((l.size + r.size + 1) :: (l.hooks ++ r.hooks)) ++ hooksL post)).length
  simp only [List.length_append, List.length_cons]
  omega
theorem step_ne {ts : List B} (g : FG ts) : ∀ i j : Nat, i < j → j < ts.length → (stepAt ts i).1 ≠ (stepAt ts j).1 := fun i j hij hj e => by
  have hi : i < ts.length := by omega
  have split : ts = ts.take j ++ ts[j] :: ts.drop (j + 1) := by rw [← List.drop_eq_getElem_cons hj, List.take_append_drop]
  have nd := g.nd
  rw [split, prel_app, List.nodup_append] at nd
  have root : ∀ k (hk : k < ts.length), (stepAt ts k).1 ∈ ts[k].pre := fun k hk => by
    unfold stepAt
    rw [List.getElem?_eq_getElem hk]
    cases h : ts[k] with
    | nil => exact absurd h (g.nn _ (List.getElem_mem hk))
    | node l x r => exact List.mem_cons_self
  refine nd.2.2 (stepAt ts i).1 ?_ (stepAt ts j).1 ?_ e
  · refine List.mem_flatMap.mpr ⟨ts[i], List.mem_take_iff_getElem.mpr ⟨i, by omega, rfl⟩, root i hi⟩
  · rw [prel_cons]
    exact List.mem_append_left _ (root j hj)
theorem steps_nodup {ts : List B} (g : FG ts) : ((stepsL ts).map fun s => s.1).Nodup := by
  unfold stepsL
  rw [List.map_map]
  refine List.Pairwise.map _ (fun a b h => h) ?_
  refine List.Pairwise.imp_of_mem (fun {a b} ha hb (h : a < b) => ?_) (List.pairwise_lt_range (n := ts.length))
  exact step_ne g a b h (List.mem_range.mp hb)
/-- the letters of the roots are told apart -/
theorem step_inj {ts : List B} (g : FG ts) {c : Nat} {r1 r2 : List B} (h1 : (c, r1) ∈ stepsL ts) (h2 : (c, r2) ∈ stepsL ts) : r1 = r2 := by
  unfold stepsL at h1 h2
  obtain ⟨i, hi, e1⟩ := List.mem_map.mp h1
  obtain ⟨j, hj, e2⟩ := List.mem_map.mp h2
  have hi' := List.mem_range.mp hi
  have hj' := List.mem_range.mp hj
  have : i = j := by
    rcases Nat.lt_trichotomy i j with h | h | h
    · exact absurd (by rw [e1, e2]) (step_ne g i j h hj')
    · exact h
    · exact absurd (by rw [e1, e2]) (step_ne g j i h hi')
  subst this
  rw [e1] at e2
  exact (Prod.mk.inj e2).2
def togR : List B → Nat
  | [] => 1
  | t :: ts => cho (t.size + (hooksL ts).length) t.size * (t.num * togR ts)
theorem togR_hooks : ∀ ts : List B, togR ts * prodN (hooksL ts) = facN (hooksL ts).length
  | [] => rfl
  | t :: ts => by
    have ih := togR_hooks ts
    have h1 := t.num_hooks
    have h2 := cho_fac _ t.size (hooksL ts).length rfl
    rw [hooksL_cons, prodN_app, List.length_append, B.hooks_len]
    show cho (t.size + (hooksL ts).length) t.size * (t.num * togR ts) * (prodN t.hooks * prodN (hooksL ts)) = _
    rw [← h2, ← h1, ← ih]
    simp only [Nat.mul_assoc, Nat.mul_left_comm]
theorem prodL_pos (ts : List B) : 0 < prodN (hooksL ts) := prodN_pos _ (hooksL_pos ts)
theorem together_eq (ts : List B) : together ts = togR ts := by
  unfold together
  rw [foldl_div, ← togR_hooks]
  exact Nat.mul_div_cancel _ (prodL_pos ts)
theorem togR_pos (ts : List B) : 0 < togR ts := by
  rcases Nat.eq_zero_or_pos (togR ts) with h | h
  · have := togR_hooks ts
    rw [h, Nat.zero_mul] at this
    have := facN_pos (hooksL ts).length
    omega
  · exact h
theorem stepAt_tog {ts : List B} (nn : ∀ t ∈ ts, t ≠ .nil) {i : Nat} (hi : i < ts.length) : togR (stepAt ts i).2 * prodN (hooksL ts) = facN ((hooksL ts).length - 1) * (ts[i]).size := by
  have split : ts = ts.take i ++ ts[i] :: ts.drop (i + 1) := by rw [← List.drop_eq_getElem_cons hi, List.take_append_drop]
  have hm : ts[i] ∈ ts := List.getElem_mem hi
  have hat := List.getElem?_eq_getElem hi
  generalize ts[i] = t at split hm hat ⊢
  cases t with
  | nil => exact absurd rfl (nn _ hm)
  | node l x r =>
    have e : (stepAt ts i).2 = ts.take i ++ kids l r ++ ts.drop (i + 1) := by unfold stepAt; rw [hat]
    rw [e]
    have h := togR_hooks (ts.take i ++ kids l r ++ ts.drop (i + 1))
    have hh : hooksL (ts.take i ++ kids l r ++ ts.drop (i + 1)) = hooksL (ts.take i) ++ (l.hooks ++ r.hooks) ++ hooksL (ts.drop (i + 1)) := by rw [hooksL_app, hooksL_app, kids_hooks]
    have ht : hooksL ts = hooksL (ts.take i) ++ ((l.size + r.size + 1) :: (l.hooks ++ r.hooks) ++ hooksL (ts.drop (i + 1))) := by
      conv => lhs; rw [split]
      rw [hooksL_app, hooksL_cons]
      rfl
    have hl : (hooksL ts).length - 1 = (hooksL (ts.take i ++ kids l r ++ ts.drop (i + 1))).length := by
      rw [hh, ht]
      simp only [List.length_append, List.length_cons]
      omega
    rw [hl, ← h, hh, ht]
    simp only [prodN_app, prodN, List.cons_append]
    show _ = _ * (l.size + 1 + r.size)
    rw [show l.size + 1 + r.size = l.size + r.size + 1 by omega]
    simp only [Nat.mul_assoc, Nat.mul_left_comm, Nat.mul_comm]
theorem sum_map_mul {f g : Nat → Nat} {k m : Nat} : ∀ n : Nat, (∀ i, i < n → f i * k = m * g i) → ((List.range n).map f).sum * k = m * ((List.range n).map g).sum
  | 0, _ => by simp
  | n + 1, h => by
    have ih := sum_map_mul n fun i hi => h i (by omega)
    rw [List.range_succ, List.map_append, List.map_append, List.sum_append, List.sum_append, Nat.add_mul, Nat.mul_add, ih]
    simp only [List.map_cons, List.map_nil, List.sum_cons, List.sum_nil, Nat.add_zero]
    rw [h n (by omega)]
theorem sum_sizes (ts : List B) : ((List.range ts.length).map fun i => (ts.getD i .nil).size).sum = (hooksL ts).length := by
  have e : ((List.range ts.length).map fun i => (ts.getD i .nil).size) = ts.map B.size := by
    apply List.ext_getElem?
    intro i
    rw [List.getElem?_map, List.getElem?_map]
    by_cases hi : i < ts.length
    · rw [List.getElem?_range hi, List.getElem?_eq_getElem hi]
      simp [List.getD_eq_getElem?_getD, hi]
    · rw [List.getElem?_eq_none (by simpa using hi), List.getElem?_eq_none (by simpa using hi)]
      rfl
  rw [e]
  clear e
  induction ts with
  | nil => rfl
  | cons t ts ih => rw [List.map_cons, List.sum_cons, ih, hooksL_cons, List.length_append, B.hooks_len]
theorem hooksL_ne {ts : List B} (nn : ∀ t ∈ ts, t ≠ .nil) (h : ts ≠ []) : 0 < (hooksL ts).length := by
  cases ts with
  | nil => exact absurd rfl h
  | cons t ts =>
    rw [hooksL_cons, List.length_append, B.hooks_len]
    have := nn t List.mem_cons_self
    cases t with
    | nil => exact absurd rfl this
    | node l x r => show 0 < l.size + 1 + r.size + _; omega
theorem tog_sum {ts : List B} (nn : ∀ t ∈ ts, t ≠ .nil) (h : ts ≠ []) : ((stepsL ts).map fun s => togR s.2).sum = togR ts := by
  have e := sum_map_mul (f := fun i => togR (stepAt ts i).2) (g := fun i => (ts.getD i .nil).size) (k := prodN (hooksL ts)) (m := facN ((hooksL ts).length - 1)) ts.length fun i hi => by
    have := stepAt_tog nn hi
    simp only [List.getD_eq_getElem?_getD, List.getElem?_eq_getElem hi, Option.getD_some]
    exact this
  rw [sum_sizes] at e
  have pos := hooksL_ne nn h
  have hf : facN ((hooksL ts).length - 1) * (hooksL ts).length = facN (hooksL ts).length := by
    obtain ⟨n, hn⟩ : ∃ n, (hooksL ts).length = n + 1 := ⟨(hooksL ts).length - 1, by omega⟩
    rw [hn]
    rfl
  rw [hf, ← togR_hooks] at e
  unfold stepsL
  rw [List.map_map]
  exact Nat.eq_of_mul_eq_mul_right (prodL_pos ts) e
/-! ### orders of steps, their numbers -/
def below (ts : List B) (c : Nat) : Nat := (((stepsL ts).filter fun s => decide (s.1 < c)).map fun s => togR s.2).sum
inductive Valid : List B → List Nat → Prop
  | nil : Valid [] []
  | cons {ts : List B} {c : Nat} {rest : List B} {w : List Nat} : (c, rest) ∈ stepsL ts → Valid rest w → Valid ts (c :: w)
inductive Idx : List B → List Nat → Nat → Prop
  | nil : Idx [] [] 0
  | cons {ts : List B} {c : Nat} {rest : List B} {w : List Nat} {k : Nat} : (c, rest) ∈ stepsL ts → Idx rest w k → Idx ts (c :: w) (below ts c + k)
inductive Num : List B → Nat → List Nat → Prop
  | nil {i : Nat} : Num [] i []
  | cons {ts : List B} {c : Nat} {rest : List B} {w : List Nat} {i : Nat} : (c, rest) ∈ stepsL ts → below ts c ≤ i → i - below ts c < togR rest → Num rest (i - below ts c) w → Num ts i (c :: w)
theorem filter_sum_le {S : List (Nat × List B)} {g : Nat × List B → Nat} {p q : Nat × List B → Bool} (h : ∀ s ∈ S, p s = true → q s = true) : ((S.filter p).map g).sum ≤ ((S.filter q).map g).sum := by
  induction S with
  | nil => exact Nat.le_refl _
  | cons s S ih =>
    have ih' := ih fun t ht => h t (List.mem_cons_of_mem _ ht)
    have hs := h s List.mem_cons_self
    rw [List.filter_cons, List.filter_cons]
    by_cases hp : p s = true
    · rw [if_pos hp, if_pos (hs hp), List.map_cons, List.map_cons, List.sum_cons, List.sum_cons]
      omega
    · rw [if_neg hp]
      split
      · rw [List.map_cons, List.sum_cons]; omega
      · exact ih'
theorem filter_sum_add {S : List (Nat × List B)} {g : Nat × List B → Nat} {p q : Nat × List B → Bool} {s : Nat × List B} (hs : s ∈ S) (hp : p s = false) (hq : q s = true) (h : ∀ s ∈ S, p s = true → q s = true) : ((S.filter p).map g).sum + g s ≤ ((S.filter q).map g).sum := by
  induction S with
  | nil => cases hs
  | cons t S ih =>
    have hle := filter_sum_le (g := g) fun u hu => h u (List.mem_cons_of_mem t hu)
    rw [List.filter_cons, List.filter_cons]
    rcases List.mem_cons.mp hs with rfl | hs
    · rw [if_neg (by rw [hp]; simp), if_pos hq, List.map_cons, List.sum_cons]
      omega
    · have ih' := ih hs fun u hu => h u (List.mem_cons_of_mem _ hu)
      by_cases ht : p t = true
      · rw [if_pos ht, if_pos (h t List.mem_cons_self ht), List.map_cons, List.map_cons, List.sum_cons, List.sum_cons]
        omega
      · rw [if_neg ht]
        split
        · rw [List.map_cons, List.sum_cons]; omega
        · exact ih'
theorem below_lt {ts : List B} {c d : Nat} {rest : List B} (h : (c, rest) ∈ stepsL ts) (hd : c < d) : below ts c + togR rest ≤ below ts d :=
  filter_sum_add (g := fun s => togR s.2) h (decide_eq_false (Nat.lt_irrefl c)) (decide_eq_true hd) fun s _ e => decide_eq_true (Nat.lt_trans (of_decide_eq_true e) hd)
theorem below_all {ts : List B} (nn : ∀ t ∈ ts, t ≠ .nil) {c : Nat} {rest : List B} (h : (c, rest) ∈ stepsL ts) : below ts c + togR rest ≤ togR ts := by
  have hne : ts ≠ [] := fun z => by rw [z] at h; cases h
  rw [← tog_sum nn hne]
  have := filter_sum_add (g := fun s => togR s.2) (p := fun s => decide (s.1 < c)) (q := fun _ => true) h (decide_eq_false (Nat.lt_irrefl c)) rfl fun s _ _ => rfl
  rw [List.filter_eq_self.mpr fun _ _ => rfl] at this
  exact this
theorem idx_lt {ts : List B} {w : List Nat} {k : Nat} (h : Idx ts w k) : FG ts → k < togR ts := by
  induction h with
  | nil => intro _; exact Nat.one_pos
  | cons hs _ ih =>
    intro g
    have := ih (g.step hs).1
    have := below_all g.nn hs
    omega
theorem idx_num {ts : List B} {w : List Nat} {k : Nat} (h : Idx ts w k) : ∀ {w' : List Nat}, FG ts → Num ts k w' → w' = w := by
  induction h with
  | nil =>
    intro w' _ hn
    cases hn with
    | nil => rfl
    | cons hs _ _ _ => cases hs
  | @cons ts c rest w k hs hi ih =>
    intro w' g hn
    cases hn with
    | nil => cases hs
    | @cons _ c' rest' w' _ hs' h1 h2 h3 =>
      have lt := idx_lt hi (g.step hs).1
      have e : c' = c := by
        rcases Nat.lt_trichotomy c' c with z | z | z
        · have := below_lt hs' z
          omega
        · exact z
        · have := below_lt hs z
          omega
      subst e
      have er := step_inj g hs hs'
      subst er
      rw [Nat.add_sub_cancel_left] at h3
      rw [ih (g.step hs).1 h3]
theorem num_idx {ts : List B} {i : Nat} {w : List Nat} (h : Num ts i w) : FG ts → i < togR ts → Idx ts w i := by
  induction h with
  | @nil i =>
    intro _ hi
    have : i = 0 := by
      have : i < 1 := hi
      omega
    subst this
    exact .nil
  | @cons ts c rest w i hs h1 h2 h3 ih =>
    intro g _
    have := Idx.cons hs (ih (g.step hs).1 h2)
    rw [Nat.add_sub_cancel' h1] at this
    exact this
theorem Idx.valid {ts : List B} {w : List Nat} {k : Nat} (h : Idx ts w k) : Valid ts w := by
  induction h with
  | nil => exact .nil
  | cons hs _ ih => exact .cons hs ih
theorem Num.valid {ts : List B} {i : Nat} {w : List Nat} (h : Num ts i w) : Valid ts w := by
  induction h with
  | nil => exact .nil
  | cons hs _ _ _ ih => exact .cons hs ih
theorem Valid.idx {ts : List B} {w : List Nat} (h : Valid ts w) : ∃ k, Idx ts w k := by
  induction h with
  | nil => exact ⟨0, .nil⟩
  | cons hs _ ih =>
    obtain ⟨k, hk⟩ := ih
    exact ⟨_, .cons hs hk⟩
theorem Valid.len {ts : List B} {w : List Nat} (h : Valid ts w) : FG ts → w.length = (hooksL ts).length := by
  induction h with
  | nil => intro _; rfl
  | cons hs _ ih =>
    intro g
    rw [List.length_cons, ih (g.step hs).1, step_hooks g hs]
theorem Valid.mem {ts : List B} {w : List Nat} (h : Valid ts w) : FG ts → w.Perm (prel ts) := by
  induction h with
  | nil => intro _; exact .refl _
  | @cons ts c rest w hs _ ih =>
    intro g
    obtain ⟨pre, l, r, post, e1, e2⟩ := (step_mem g.nn c rest).mp hs
    have p := ih (g.step hs).1
    rw [e2, prel_app, prel_app, kids_pre] at p
    rw [e1, prel_app, prel_cons]
    refine (p.cons c).trans ?_
    show (c :: (prel pre ++ (l.pre ++ r.pre) ++ prel post)).Perm (prel pre ++ (c :: (l.pre ++ r.pre) ++ prel post))
    rw [List.append_assoc]
    exact List.perm_middle.symm
/-- steps among more trees -/
theorem step_left {ls : List B} (nn : ∀ t ∈ ls, t ≠ .nil) {rs : List B} (nr : ∀ t ∈ rs, t ≠ .nil) {c : Nat} {rest : List B} (h : (c, rest) ∈ stepsL ls) : (c, rest ++ rs) ∈ stepsL (ls ++ rs) := by
  obtain ⟨pre, l, r, post, rfl, rfl⟩ := (step_mem nn c rest).mp h
  refine (step_mem (fun t ht => (List.mem_append.mp ht).elim (nn t) (nr t)) c _).mpr ⟨pre, l, r, post ++ rs, by rw [List.append_assoc]; rfl, by rw [List.append_assoc]⟩
theorem step_right {ls : List B} (nn : ∀ t ∈ ls, t ≠ .nil) {rs : List B} (nr : ∀ t ∈ rs, t ≠ .nil) {c : Nat} {rest : List B} (h : (c, rest) ∈ stepsL rs) : (c, ls ++ rest) ∈ stepsL (ls ++ rs) := by
  obtain ⟨pre, l, r, post, rfl, rfl⟩ := (step_mem nr c rest).mp h
  exact (step_mem (fun t ht => (List.mem_append.mp ht).elim (nn t) (nr t)) c _).mpr ⟨ls ++ pre, l, r, post, by rw [List.append_assoc], by rw [List.append_assoc, List.append_assoc, List.append_assoc]⟩
inductive Mrg : List Nat → List Nat → List Nat → Prop
  | nil : Mrg [] [] []
  | left {u v w : List Nat} (c : Nat) : Mrg u v w → Mrg (c :: u) v (c :: w)
  | right {u v w : List Nat} (c : Nat) : Mrg u v w → Mrg u (c :: v) (c :: w)
theorem mrg_valid {u v w : List Nat} (m : Mrg u v w) : ∀ {ls rs : List B}, FG ls → FG rs → Valid ls u → Valid rs v → Valid (ls ++ rs) w := by
  induction m with
  | nil =>
    intro ls rs _ _ h1 h2
    cases h1
    cases h2
    exact .nil
  | left c _ ih =>
    intro ls rs g1 g2 h1 h2
    cases h1 with
    | cons hs h1 => exact .cons (step_left g1.nn g2.nn hs) (ih (g1.step hs).1 g2 h1 h2)
  | right c _ ih =>
    intro ls rs g1 g2 h1 h2
    cases h2 with
    | cons hs h2 => exact .cons (step_right g1.nn g2.nn hs) (ih g1 (g2.step hs).1 h1 h2)
/-- the sum of the counts before the j-th of the sorted steps -/
theorem below_take {ts : List B} (g : FG ts) {SS : List (Nat × List B)} (p : SS.Perm (stepsL ts)) (so : SS.Pairwise fun a b => a.1 ≤ b.1) {j : Nat} {c : Nat} {rest : List B} (h : SS[j]? = some (c, rest)) : below ts c = ((SS.take j).map fun s => togR s.2).sum := by
  have hj := (List.getElem?_eq_some_iff.mp h).1
  have he := (List.getElem?_eq_some_iff.mp h).2
  have split : SS = SS.take j ++ (c, rest) :: SS.drop (j + 1) := by
    have := List.drop_eq_getElem_cons hj
    rw [he] at this
    rw [← this, List.take_append_drop]
  have nd := (p.map fun s => s.1).nodup_iff.mpr (steps_nodup g)
  have e1 : below ts c = ((SS.filter fun s => decide (s.1 < c)).map fun s => togR s.2).sum := by
    unfold below
    exact (((p.filter _).map _).sum_nat).symm
  rw [e1]
  rw [split] at so nd
  rw [List.pairwise_append] at so
  rw [List.map_append, List.nodup_append] at nd
  have f : SS.filter (fun s => decide (s.1 < c)) = SS.take j := by
    conv => lhs; rw [split]
    rw [List.filter_append, List.filter_eq_self.mpr, List.filter_eq_nil_iff.mpr, List.append_nil]
    · intro s hs
      have : c ≤ s.1 := by
        rcases List.mem_cons.mp hs with rfl | hs
        · exact Nat.le_refl _
        · exact (List.pairwise_cons.mp so.2.1).1 s hs
      simp only [decide_eq_true_eq]
      omega
    · intro s hs
      have h1 := so.2.2 s hs (c, rest) List.mem_cons_self
      have h2 := nd.2.2 s.1 (List.mem_map.mpr ⟨s, hs, rfl⟩) c (List.mem_map.mpr ⟨(c, rest), List.mem_cons_self, rfl⟩)
      have h1 : s.1 ≤ c := h1
      exact decide_eq_true (by omega)
  rw [f]
/-! the tree that an order grows to -/
def B.bst : B → Prop
  | .nil => True
  | .node l x r => (∀ d ∈ l.pre, d < x) ∧ (∀ d ∈ r.pre, ¬ d < x) ∧ l.bst ∧ r.bst
theorem ins_bst (t : B) (c : Nat) (h : t.bst) : (t.ins c).bst := by
  induction t with
  | nil => exact ⟨fun d hd => (by cases hd), fun d hd => (by cases hd), trivial, trivial⟩
  | node l x r h1 h2 =>
    obtain ⟨a, b, hl, hr⟩ := h
    show (if c < x then B.node (l.ins c) x r else .node l x (r.ins c)).bst
    split
    · rename_i hc
      refine ⟨fun d hd => ?_, b, h1 hl, hr⟩
      rcases (B.ins_mem l c d).mp hd with rfl | hd
      · exact hc
      · exact a d hd
    · rename_i hc
      refine ⟨a, fun d hd => ?_, hl, h2 hr⟩
      rcases (B.ins_mem r c d).mp hd with rfl | hd
      · exact hc
      · exact b d hd
theorem gr_bst (zs : List Nat) : (gr zs).bst := by
  have : ∀ (zs : List Nat) (t : B), t.bst → (zs.foldl B.ins t).bst := by
    intro zs
    induction zs with
    | nil => intro t h; exact h
    | cons c r ih => intro t h; exact ih _ (ins_bst t c h)
  exact this zs .nil trivial
theorem foldl_ins_node (w : List Nat) : ∀ (a : B) (x : Nat) (b : B), w.foldl B.ins (.node a x b) = .node ((w.filter fun c => decide (c < x)).foldl B.ins a) x ((w.filter fun c => !decide (c < x)).foldl B.ins b) := by
  induction w with
  | nil => intro a x b; rfl
  | cons c w ih =>
    intro a x b
    rw [List.foldl_cons]
    show w.foldl B.ins (if c < x then .node (a.ins c) x b else .node a x (b.ins c)) = _
    by_cases hc : c < x
    · rw [if_pos hc, ih, List.filter_cons, List.filter_cons, decide_eq_true hc]
      rfl
    · rw [if_neg hc, ih, List.filter_cons, List.filter_cons, decide_eq_false hc]
      rfl
theorem gr_cons (x : Nat) (w : List Nat) : gr (x :: w) = .node (gr (w.filter fun c => decide (c < x))) x (gr (w.filter fun c => !decide (c < x))) := by
  unfold gr
  rw [List.foldl_cons]
  exact foldl_ins_node w .nil x .nil
theorem valid_split {x : Nat} {ts : List B} {w : List Nat} (h : Valid ts w) : ∀ {ls rs : List B}, ts = ls ++ rs → FG ts → (∀ d ∈ prel ls, d < x) → (∀ d ∈ prel rs, ¬ d < x) → Valid ls (w.filter fun c => decide (c < x)) ∧ Valid rs (w.filter fun c => !decide (c < x)) := by
  induction h with
  | nil =>
    intro ls rs e _ _ _
    obtain ⟨rfl, rfl⟩ := List.append_eq_nil_iff.mp e.symm
    exact ⟨.nil, .nil⟩
  | @cons ts c rest w hs _ ih =>
    intro ls rs e g hl hr
    obtain ⟨pre, l, r, post, e1, e2⟩ := (step_mem g.nn c rest).mp hs
    have gr := (g.step hs).1
    have sub1 : ∀ (pre post : List B), ∀ d ∈ prel (pre ++ kids l r ++ post), d ∈ prel (pre ++ .node l c r :: post) := fun pre post d hd => by
      rw [prel_app, prel_app, kids_pre] at hd
      rw [prel_app, prel_cons]
      rcases List.mem_append.mp hd with hd | hd
      · rcases List.mem_append.mp hd with hd | hd
        · exact List.mem_append_left _ hd
        · exact List.mem_append_right _ (List.mem_append_left _ (List.mem_cons_of_mem _ hd))
      · exact List.mem_append_right _ (List.mem_append_right _ hd)
    rw [e] at e1
    rcases List.append_eq_append_iff.mp e1 with ⟨m, q1, q2⟩ | ⟨m, q1, q2⟩
    · -- the root lies in rs
      have er : rest = ls ++ (m ++ kids l r ++ post) := by rw [e2, q1]; simp only [List.append_assoc]
      have nrs : ∀ t ∈ rs, t ≠ B.nil := fun t ht => g.nn t (by rw [e]; exact List.mem_append_right _ ht)
      have hc : c ∈ prel rs := by rw [q2, prel_app, prel_cons]; exact List.mem_append_right _ (List.mem_append_left _ List.mem_cons_self)
      obtain ⟨i1, i2⟩ := ih er gr hl (fun d hd => hr d (by rw [q2]; exact sub1 m post d hd))
      rw [List.filter_cons, List.filter_cons, decide_eq_false (hr c hc)]
      exact ⟨i1, .cons ((step_mem nrs c _).mpr ⟨m, l, r, post, q2, rfl⟩) i2⟩
    · cases m with
      | nil =>
        rw [List.append_nil] at q1
        have q2' : rs = .node l c r :: post := q2.symm
        have er : rest = ls ++ ([] ++ kids l r ++ post) := by rw [e2, q1]; simp only [List.append_assoc, List.nil_append]
        have nrs : ∀ t ∈ rs, t ≠ B.nil := fun t ht => g.nn t (by rw [e]; exact List.mem_append_right _ ht)
        have hc : c ∈ prel rs := by rw [q2', prel_cons]; exact List.mem_append_left _ List.mem_cons_self
        obtain ⟨i1, i2⟩ := ih er gr hl (fun d hd => hr d (by rw [q2']; exact sub1 [] post d hd))
        rw [List.filter_cons, List.filter_cons, decide_eq_false (hr c hc)]
        exact ⟨i1, .cons ((step_mem nrs c _).mpr ⟨[], l, r, post, q2', rfl⟩) i2⟩
      | cons t m =>
        have q3 := (List.cons.inj q2).1
        have q4 : post = m ++ rs := (List.cons.inj q2).2
        subst q3
        have els : ls = pre ++ .node l c r :: m := q1
        have er : rest = (pre ++ kids l r ++ m) ++ rs := by rw [e2, q4]; simp only [List.append_assoc]
        have nls : ∀ t ∈ ls, t ≠ B.nil := fun t ht => g.nn t (by rw [e]; exact List.mem_append_left _ ht)
        have hc : c ∈ prel ls := by rw [els, prel_app, prel_cons]; exact List.mem_append_right _ (List.mem_append_left _ List.mem_cons_self)
        obtain ⟨i1, i2⟩ := ih er gr (fun d hd => hl d (by rw [els]; exact sub1 pre m d hd)) hr
        rw [List.filter_cons, List.filter_cons, decide_eq_true (hl c hc)]
        exact ⟨.cons ((step_mem nls c _).mpr ⟨pre, l, r, m, els, rfl⟩) i1, i2⟩
/-- the forest of a tree -/
def ft (t : B) : List B := [t].filter fun t => decide (t ≠ .nil)
theorem kids_ft (l r : B) : kids l r = ft l ++ ft r := by
  show [l, r].filter _ = [l].filter _ ++ [r].filter _
  rw [← List.filter_append]
  rfl
theorem ft_nil : ft .nil = [] := rfl
theorem ft_node (l : B) (x : Nat) (r : B) : ft (.node l x r) = [.node l x r] := rfl
theorem prel_ft (t : B) : prel (ft t) = t.pre := by cases t <;> simp [ft, prel, B.pre]
theorem hooks_ft (t : B) : hooksL (ft t) = t.hooks := by cases t <;> simp [ft, hooksL, B.hooks]
theorem ft_fg {t : B} (nd : t.pre.Nodup) : FG (ft t) := ⟨fun u hu => of_decide_eq_true (List.mem_filter.mp hu).2, by rw [prel_ft]; exact nd⟩
theorem togR_ft (t : B) : togR (ft t) = t.num := by
  cases t with
  | nil => rfl
  | node l x r => rw [ft_node, ← together_eq, together_one]
theorem steps_one (l : B) (x : Nat) (r : B) : stepsL [.node l x r] = [(x, kids l r)] := by
  show [stepAt [B.node l x r] 0] = _
  show [(x, [] ++ kids l r ++ [])] = _
  rw [List.append_nil]
  rfl
theorem valid_gr : ∀ (t : B), t.bst → t.pre.Nodup → ∀ w, Valid (ft t) w → gr w = t
  | .nil, _, _, w, h => by
    rw [ft_nil] at h
    cases h with
    | nil => rfl
    | cons hs _ => cases hs
  | .node l x r, b, nd, w, h => by
    rw [ft_node] at h
    cases h with
    | @cons _ c rest w hs h =>
      rw [steps_one] at hs
      cases List.mem_singleton.mp hs
      have nd' : (x :: (l.pre ++ r.pre)).Nodup := nd
      obtain ⟨n1, n2⟩ := List.nodup_cons.mp nd'
      obtain ⟨nl, nr, _⟩ := List.nodup_append.mp n2
      have fg : FG (kids l r) := ⟨kids_nn l r, by rw [kids_pre]; exact n2⟩
      obtain ⟨i1, i2⟩ := valid_split (x := x) h (kids_ft l r) fg (fun d hd => b.1 d (by rw [prel_ft] at hd; exact hd)) (fun d hd => b.2.1 d (by rw [prel_ft] at hd; exact hd))
      rw [gr_cons, valid_gr l b.2.2.1 nl _ i1, valid_gr r b.2.2.2 nr _ i2]
/-! ### numbered_order, order_at -/
theorem numL (K : PySem.W.Frag) {ts : List B} (SS : List (Nat × List B)) (p : SS.Perm (stepsL ts)) (nn : ∀ t ∈ ts, t ≠ .nil) (h : ts ≠ []) : (SS.map fun s => togR s.2).sum = togR ts := by
  rw [← tog_sum nn h]
  exact (p.map _).sum_nat
def spNumO (K : PySem.W.Frag) (T : List (Addr × Str)) (N : Nat) : Sp := fun vs H Q _ => ∃ (a : Addr) (us : List V) (ts : List B) (i : Nat), vs = [.ref a, vn i] ∧ SqL K H a us ∧ TsAt H us ts ∧ FG ts ∧ (hooksL ts).length < N ∧ (hooksL ts).length ≤ 15 ∧ i < togR ts ∧ LamX.Tabs T H ∧
  ∀ (w : List Nat) (H' : Hp), LamX.ExtN H H' → LamX.Tabs T H' → Num ts i w → w.length ≤ 15 → Q (.str (tx w)) H'
theorem fg_len {ts : List B} (g : FG ts) : ts.length ≤ (hooksL ts).length := by
  have nn := g.nn
  clear g
  induction ts with
  | nil => exact Nat.le_refl _
  | cons t ts ih =>
    have := ih fun u hu => nn u (List.mem_cons_of_mem _ hu)
    have h1 : 1 ≤ t.size := by
      have := nn t List.mem_cons_self
      cases t with
      | nil => exact absurd rfl this
      | node l x r => show 1 ≤ l.size + 1 + r.size; omega
    rw [hooksL_cons, List.length_append, B.hooks_len, List.length_cons]
    omega
theorem same_extN {H H' : Hp} (s : Same H H') : LamX.ExtN H H' := fun b o e _ => s b o e
section
variable {P : Program} {w : World} {K : PySem.W.Frag} {mg : Str → Option Value} {base : Heap} {f : Addr} {fd : FuncData}
theorem ok_numO {T : List (Addr × Str)} (F : Fun K "numbered_order" "numbered_order" s_numbered_order f fd) (M : Mgs mg) (b : Binds K fd ["parts", "index"] []) (g : mg "numbered_order" = some (.ref f))
    (Dnext_steps : Df P w K mg base 3 "next_steps" ["parts"] (spNextSteps K T)) (Dcount_together : Df P w K mg base 21 "count_together" ["parts"] (spTogether K)) : ∀ N : Nat, FnOk P w K mg base CX0 (N + 21) f fd ["parts", "index"] (spNumO K T N)
  | 0 => by
    have no : ∀ vs H Q E, ¬ spNumO K T 0 vs H Q E := fun vs H Q E h => by
      obtain ⟨a, us, ts, i, _, _, _, _, h1, _⟩ := h
      omega
    exact ⟨fun vs H Q E h => absurd h (no vs H Q E), fun A outer s H args us vs Q E _ _ _ _ h => absurd h (no vs H Q E)⟩
  | N + 1 => by
    have Dself : Df P w K mg base (N + 21) "numbered_order" ["parts", "index"] (spNumO K T N) := ⟨f, fd, ok_numO F M b g Dnext_steps Dcount_together N, b, F.kp, g⟩
    refine F.ok (k := N + 21) sc_numbered_order (fun vs H Q E h => ?_) (fun cdv A outer s H vs Q E hr h => ?_)
    · obtain ⟨a, us, ts, i, rfl, _⟩ := h
      rfl
    obtain ⟨a, us, ts, i, rfl, ea, ta, fg, hn, h15, hi, hT, q⟩ := h
    refine ⟨_, (pss_cons (ps_if (pt_not (pt_truth (pv 0) (by intro _; rfl)))
      (pss_one (ps_ret pe_str)) pss_nil)
    (pss_cons (ps_set (i := 2) sc_numbered_order.nd rfl (.inl rfl) (pv 1))
    (pss_cons (ps_for PassesOwn.never rfl (pi_list (pe_call Dnext_steps.ok (hr.mono (by omega)) rfl Dnext_steps.g Dnext_steps.kp Dnext_steps.b .nil pass0 (pa_cons (pv 0) pa_nil))) (pg_tup rfl (pgs_cons (pg_name (i := 3) sc_numbered_order.nd rfl (.inl rfl)) (pgs_cons (pg_name (i := 4) sc_numbered_order.nd rfl (.inl rfl)) pgs_nil)))
      (pss_cons (ps_set (i := 5) sc_numbered_order.nd rfl (.inl rfl) (pe_call Dcount_together.ok (hr.mono (by omega)) rfl Dcount_together.g Dcount_together.kp Dcount_together.b .nil pass0 (pa_cons (pv 4) pa_nil)))
    (pss_cons (ps_if (pt_cmpR op_lt (pv 2) (pv 5) (nomark _))
      (pss_one ps_break) pss_nil)
    (pss_one (ps_aug (i := 2) sc_numbered_order.nd rfl (.inl rfl) (pv 5) ip_sub)))))
    (pss_one (ps_ret (pe_op op_add_str (pv 3) (pe_call Dself.ok (hr.mono (by omega)) rfl Dself.g Dself.kp Dself.b .nil pass0 (pa_cons (pv 4) (pa_cons (pv 2) pa_nil))))))))), ?_⟩
    have len := ta.len
    refine ⟨_, rfl, _, .inl ⟨us, ea, rfl⟩, ?_⟩
    cases hu : us with
    | nil =>
      rw [hu] at len
      have hts : ts = [] := List.length_eq_zero_iff.mp len.symm
      subst hts
      refine iteT ?_
      show Q (.str (Str.ofString "")) H
      rw [str_0]
      exact q [] H (LamX.ExtN.refl H) hT .nil (Nat.zero_le _)
    | cons u us' =>
      rw [← hu]
      have hne : ts ≠ [] := fun z => by rw [z, hu] at len; cases len
      have flen := fg_len fg
      rw [show (!us.isEmpty) = true by rw [hu]; rfl]
      refine iteF ⟨_, rfl, ?_⟩
      refine ⟨_, rfl, a, us, ts, rfl, ea, ta, fg.nn, by omega, hT, fun p ws SS H1 x1 T1 ep sa pm so => ?_⟩
      refine ⟨p, rfl, ⟨_, SqL.of ep⟩, ?_⟩
      have wl := sa.len
      have tot := numL K SS pm fg.nn hne
      refine for_list (K := K) (a := p) (xs := ws) (fun j σ H' => ∃ o3 o4 o5, σ = [some (.ref a), some (vn i), some (vn (i - ((SS.take j).map fun s => togR s.2).sum)), o3, o4, o5] ∧ Same H1 H' ∧ ((SS.take j).map fun s => togR s.2).sum ≤ i)
        ⟨_, _, _, rfl, Same.refl _, Nat.zero_le _⟩ (fun j σ H' _ hp => by obtain ⟨_, _, _, _, s, _⟩ := hp; exact SqL.of (s _ _ ep)) (fun j x σ H2 hx hp => ?_) (fun σ H2 hp => ?_)
      · obtain ⟨o3, o4, o5, rfl, s2, le⟩ := hp
        obtain ⟨b, qa, c, vs', rest, rfl, hs, e1, e2, tr⟩ := sa.get hx
        have e1' := s2 _ _ e1
        have e2' := s2 _ _ e2
        have tr' := tr.same s2
        have hm : (c, rest) ∈ stepsL ts := pm.mem_iff.mp (List.mem_of_getElem? hs)
        obtain ⟨fr, _, _⟩ := fg.step hm
        have hh := step_hooks fg hm
        refine ⟨b, _, rfl, SqT.of e1', rfl, _, _, rfl, _, _, rfl, rfl, ?_⟩
        refine ⟨_, rfl, qa, vs', rest, rfl, SqL.of e2', tr', by omega, fun H3 s3 => ?_⟩
        rw [together_eq]
        refine ⟨_, rfl, _, rfl, _, _, rfl, rfl, _, rfl, ?_⟩
        have sj := below_take fg pm so hs
        have tk : ((SS.take (j + 1)).map fun s => togR s.2).sum = ((SS.take j).map fun s => togR s.2).sum + togR rest := by
          rw [take_nextG hs, List.map_append, List.sum_append]
          simp only [List.map_cons, List.map_nil, List.sum_cons, List.sum_nil, Nat.add_zero]
        generalize ((SS.take j).map fun s => togR s.2).sum = S at le sj tk ⊢
        by_cases hlt : i - S < togR rest
        · rw [decide_eq_true (show ((i - S : Nat) : Int) < (togR rest : Int) by omega)]
          have xx := x1.trans (same_extN (s2.trans s3))
          refine iteT ?_
          refine ⟨_, rfl, _, rfl, _, rfl, qa, vs', rest, i - S, rfl, SqL.of (s3 _ _ e2'), tr'.same s3, fr, by omega, by omega, hlt, (T1.ext s2).ext s3, fun w H4 x4 T4 nw wl4 => ?_⟩
          refine ⟨_, _, rfl, rfl, small (by rw [tx_len]; show 1 + _ ≤ 1000; omega), ?_⟩
          rw [ch_app]
          refine q (c :: w) H4 (xx.trans x4) T4 (.cons hm (by omega) (by rw [sj]; exact hlt) (by rw [sj]; exact nw)) ?_
          have vl := nw.valid.len fr
          rw [List.length_cons]
          omega
        · rw [decide_eq_false (show ¬ ((i - S : Nat) : Int) < (togR rest : Int) by omega)]
          refine iteF ?_
          refine ⟨_, rfl, _, rfl, _, _, rfl, rfl, ?_⟩
          refine ⟨some (.str (ch c)), some (.ref qa), some (vn (togR rest)), ?_, s2.trans s3, by omega⟩
          have e : vn (i - (S + togR rest)) = V.int (((i - S : Nat) : Int) - (togR rest : Int)) := congrArg V.int (by omega)
          rw [tk, e]
          rfl
      · obtain ⟨o3, o4, o5, rfl, s2, le⟩ := hp
        rw [wl, List.take_length, tot] at le
        omega
def spOrderAt (T : List (Addr × Str)) : Sp := fun vs H Q _ => ∃ (v : V) (t : B) (i : Nat), vs = [v, vn i] ∧ BAt H v t ∧ t ≠ .nil ∧ t.pre.Nodup ∧ t.size ≤ 15 ∧ i < t.num ∧ LamX.Tabs T H ∧
  ∀ (w : List Nat) (H' : Hp), LamX.ExtN H H' → LamX.Tabs T H' → Num (ft t) i w → w.length ≤ 15 → Q (.str (tx w)) H'
def spWhole : Sp := fun vs H Q _ => ∃ i : Int, vs = [.int i] ∧ Q (.bl true) H
theorem ok_whole {k : Nat} (F : Fun K "is_whole_number" "is_whole_number" s_is_whole_number f fd) (M : Mgs mg) : FnOk P w K mg base CX0 (k + 1) f fd ["value"] spWhole := by
  refine F.ok sc_is_whole_number (fun vs H Q E h => ?_) (fun cdv A outer s H vs Q E hr h => ?_)
  · obtain ⟨i, rfl, _⟩ := h
    rfl
  obtain ⟨i, rfl, q⟩ := h
  refine ⟨_, (pss_one (ps_ret (pe_and (pe_callB call_isi rfl M.isinstance (by decide +kernel) (pa_cons (pv 0) (pa_cons (pe_bltn (v := .ty "int") rfl M.int (by decide +kernel) rfl) pa_nil))) (pe_one (pe_not (pe_callB call_isi rfl M.isinstance (by decide +kernel) (pa_cons (pv 0) (pa_cons (pe_bltn (v := .ty "bool") rfl M.bool (by decide +kernel) rfl) pa_nil)))))))), ?_⟩
  refine ⟨_, rfl, _, _, _, _, true, rfl, .ty _, .base (.int i), kit_ty (by decide +kernel), _, rfl, iteT ?_⟩
  exact ⟨_, rfl, _, _, _, _, false, rfl, .ty _, .base (.int i), kit_ty (by decide +kernel), _, rfl, q⟩
def spIndex : Sp := fun vs H Q _ => ∃ i n : Int, vs = [.int i, .int n] ∧ Q (.bl (decide (0 ≤ i) && decide (i < n))) H
theorem ok_index {k : Nat} (F : Fun K "is_index" "is_index" s_is_index f fd) (Dis_whole_number : Df P w K mg base (k + 1) "is_whole_number" ["value"] spWhole) : FnOk P w K mg base CX0 (k + 2) f fd ["value", "many"] spIndex := by
  refine F.ok sc_is_index (fun vs H Q E h => ?_) (fun cdv A outer s H vs Q E hr h => ?_)
  · obtain ⟨i, n, rfl, _⟩ := h
    rfl
  obtain ⟨i, n, rfl, q⟩ := h
  refine ⟨_, (pss_one (ps_ret (pe_and (pe_call Dis_whole_number.ok (hr.mono (by omega)) rfl Dis_whole_number.g Dis_whole_number.kp Dis_whole_number.b .nil pass0 (pa_cons (pv 0) pa_nil)) (pe_one (pe_chain op_le op_lt pe_int (pv 0) (pv 1)))))), ?_⟩
  refine ⟨_, rfl, i, rfl, _, rfl, iteT ?_⟩
  refine ⟨_, rfl, _, _, rfl, rfl, _, rfl, ?_⟩
  by_cases h0 : (0 : Int) ≤ i
  · rw [decide_eq_true h0] at q ⊢
    exact iteT ⟨_, rfl, _, _, rfl, rfl, q⟩
  · rw [decide_eq_false h0] at q ⊢
    exact iteF q
theorem ft_ne {t : B} (h : t ≠ .nil) : ft t = [t] := by
  cases t with
  | nil => exact absurd rfl h
  | node l x r => rfl
theorem ok_orderAt {T : List (Addr × Str)} (F : Fun K "order_at" "order_at" s_order_at f fd) (Dis_index : Df P w K mg base 2 "is_index" ["value", "many"] spIndex) (Dcount_orders : Df P w K mg base 22 "count_orders" ["tree"] spCountO)
    (Dnumbered_order : Df P w K mg base 41 "numbered_order" ["parts", "index"] (spNumO K T 20)) : FnOk P w K mg base CX0 42 f fd ["tree", "index"] (spOrderAt T) := by
  refine F.ok sc_order_at (fun vs H Q E h => ?_) (fun cdv A outer s H vs Q E hr h => ?_)
  · obtain ⟨v, t, i, rfl, _⟩ := h
    rfl
  obtain ⟨v, t, i, rfl, hv, hn, nd, hz, hi, hT, q⟩ := h
  refine ⟨_, (pss_cons (ps_if (pt_not (pt_val (pe_call Dis_index.ok (hr.mono (by omega)) rfl Dis_index.g Dis_index.kp Dis_index.b .nil pass0 (pa_cons (pv 1) (pa_cons (pe_call Dcount_orders.ok (hr.mono (by omega)) rfl Dcount_orders.g Dcount_orders.kp Dcount_orders.b .nil pass0 (pa_cons (pv 0) pa_nil)) pa_nil)))))
      (pss_one ps_never) pss_nil)
    (pss_one (ps_ret (pe_call Dnumbered_order.ok (hr.mono (by omega)) rfl Dnumbered_order.g Dnumbered_order.kp Dnumbered_order.b .nil pass0 (pa_cons (pe_lst (pa_cons (pv 0) pa_nil)) (pa_cons (pv 1) pa_nil)))))), ?_⟩
  refine ⟨_, rfl, _, rfl, v, t, rfl, hv, hz, fun H1 s1 => ?_⟩
  refine ⟨(i : Int), (t.num : Int), rfl, ?_⟩
  rw [decide_eq_true (by omega : (0 : Int) ≤ (i : Int)), decide_eq_true (by omega : (i : Int) < (t.num : Int))]
  refine ⟨_, rfl, iteF ?_⟩
  refine ⟨_, rfl, (by show 1 ≤ sizeLine; decide), fun p np => ?_⟩
  have k2 := same_new np (.lst [v])
  have ep := upd_same (H := H1) (a := p) (o := .lst [v])
  generalize upd H1 p (.lst [v]) = H2 at k2 ep ⊢
  have s2 := s1.trans k2
  have fe := ft_ne hn
  refine ⟨_, rfl, p, [v], [t], i, rfl, SqL.of ep, .cons (hv.same s2) .nil, by rw [← fe]; exact ft_fg nd, ?_, ?_, ?_, hT.ext s2, fun w H3 x3 T3 nw wl => ?_⟩
  · rw [← fe, hooks_ft, B.hooks_len]; omega
  · rw [← fe, hooks_ft, B.hooks_len]; omega
  · rw [← fe, togR_ft]; exact hi
  · exact q w H3 ((same_extN s2).trans x3) T3 (by rw [fe]; exact nw) wl
end
/-! ### order_index -/
def secOf (H : Hp) (x : V) : V := match x with
  | .ref t => (match H t with | some (.tup [_, u]) => u | _ => .non)
  | _ => .non
theorem secOf_at {H : Hp} {a : Addr} {z u : V} (e : H a = some (.tup [z, u])) : secOf H (.ref a) = u := by
  simp only [secOf, e]
def spOrderIdx (T : List (Addr × Str)) : Sp := fun vs H Q _ => ∃ (v : V) (t : B) (w : List Nat), vs = [v, .str (tx w)] ∧ BAt H v t ∧ t ≠ .nil ∧ t.pre.Nodup ∧ t.size ≤ 15 ∧ Valid (ft t) w ∧ LamX.Tabs T H ∧
  ∀ (k : Nat) (H' : Hp), LamX.ExtN H H' → LamX.Tabs T H' → Idx (ft t) w k → Q (vn k) H'
section
variable {P : Program} {w : World} {K : PySem.W.Frag} {mg : Str → Option Value} {base : Heap} {f : Addr} {fd : FuncData}
theorem ok_orderIdx {T : List (Addr × Str)} (F : Fun K "order_index" "order_index" s_order_index f fd) (M : Mgs mg) (Dnext_steps : Df P w K mg base 3 "next_steps" ["parts"] (spNextSteps K T)) (Dcount_together : Df P w K mg base 21 "count_together" ["parts"] (spTogether K))
    (Dsize_of : Df P w K mg base 60 "size_of" ["tree"] (fun vs H Q _ => ∃ (v : V) (t : B), vs = [v] ∧ BAt H v t ∧ t.size < 60 ∧ Q (.int (t.size : Int)) H)) : FnOk P w K mg base CX0 61 f fd ["tree", "value"] (spOrderIdx T) := by
  refine F.ok sc_order_index (fun vs H Q E h => ?_) (fun cdv A outer s H vs Q E hr h => ?_)
  · obtain ⟨v, t, w, rfl, _⟩ := h
    rfl
  obtain ⟨v, t, w, rfl, hv, hn, nd, hz, hva, hT, q⟩ := h
  refine ⟨_, (pss_cons (ps_if (PW.pt (pw_or (pt_not (pt_val (pe_callB call_isi rfl M.isinstance (by decide +kernel) (pa_cons (pv 1) (pa_cons (pe_bltn (v := .ty "str") rfl M.str (by decide +kernel) rfl) pa_nil))))) (pw_or1 (pt_cmpR op_ne (pe_callB call_len_str rfl M.len PySem.boot_len (pa_cons (pv 1) pa_nil)) (pe_call Dsize_of.ok (hr.mono (by omega)) rfl Dsize_of.g Dsize_of.kp Dsize_of.b .nil pass0 (pa_cons (pv 0) pa_nil)) (nomark _)))))
      (pss_one ps_never) pss_nil)
    (pss_cons (ps_set (i := 2) sc_order_index.nd rfl (.inl rfl) pe_int)
    (pss_cons (ps_set (i := 3) sc_order_index.nd rfl (.inl rfl) (pe_lst (pa_cons (pv 0) pa_nil)))
    (pss_cons (ps_for PassesOwn.never rfl (pi_str (pv 1)) (pg_name (i := 4) sc_order_index.nd rfl (.inr rfl))
      (pss_cons (ps_set (i := 5) sc_order_index.nd rfl (.inl rfl) (pe_call Dnext_steps.ok (hr.mono (by omega)) rfl Dnext_steps.g Dnext_steps.kp Dnext_steps.b .nil pass0 (pa_cons (pv 3) pa_nil)))
    (pss_cons (ps_setLc (i := 8) (own := [("other", 6), ("rest", 7)]) (g := gTup K 2 (gCons (gName 6) (gCons (gName 7) gNil))) (by rfl) sc_order_index.nd rfl rfl (sw_true rfl rfl rfl (by decide +kernel)) (pi_list (pv 5)) (blkOk_by (N := ["tree", "value", "index", "parts", "letter", "steps", "other", "rest", "taken"]) (sc := defScope s_order_index) (by decide +kernel)) (fun _ _ _ _ _ => (pg_tup rfl (pgs_cons (pg_name (i := 6) sc_order_index.nd rfl (.inl rfl)) (pgs_cons (pg_name (i := 7) sc_order_index.nd rfl (.inl rfl)) pgs_nil)))) (fun _ _ _ _ _ => pts_one (pt_cmpR op_eq (pv 6) (pv 4) (nomark _))) (fun _ _ _ _ _ => (pv 7)))
    (pss_cons (ps_if (pt_not (pt_truth (pv 8) (by intro _; rfl)))
      (pss_one ps_never) pss_nil)
    (pss_cons (ps_aug (i := 2) sc_order_index.nd rfl (.inl rfl) (pe_callB (cr_sum rfl) rfl M.sum (by decide +kernel) (pa_cons (pe_lc (own := [("other", 6), ("rest", 7)]) (g := gTup K 2 (gCons (gName 6) (gCons (gName 7) gNil))) rfl sc_order_index.nd (pi_list (pv 5)) (blkOk_by (N := ["tree", "value", "index", "parts", "letter", "steps", "other", "rest", "taken"]) (sc := defScope s_order_index) (by decide +kernel)) (fun _ _ _ _ _ => (pg_tup rfl (pgs_cons (pg_name (i := 6) sc_order_index.nd rfl (.inl rfl)) (pgs_cons (pg_name (i := 7) sc_order_index.nd rfl (.inl rfl)) pgs_nil)))) (fun _ _ _ _ _ => pts_one (pt_cmpR op_lt_str (pv 6) (pv 4) (nomark _))) (fun _ _ _ _ _ => (pe_call Dcount_together.ok (hr.mono (by omega)) rfl Dcount_together.g Dcount_together.kp Dcount_together.b .nil pass0 (pa_cons (pv 7) pa_nil)))) pa_nil)) ip_add)
    (pss_one (ps_set (i := 3) sc_order_index.nd rfl (.inl rfl) (pe_ix ix_list (pv 8) pe_int (fun _ _ => rfl)))))))))
    (pss_one (ps_ret (pv 2))))))), ?_⟩
  have fe := ft_ne hn
  have g0 := ft_fg nd
  have wl := hva.len g0
  rw [hooks_ft, B.hooks_len] at wl
  refine ⟨_, rfl, _, _, _, _, true, rfl, .ty _, .base (.str (tx w)), kit_ty (by decide +kernel), _, rfl, iteF ?_⟩
  refine ⟨_, rfl, tx w, rfl, (by rw [tx_len]; exact small (by omega)), _, rfl, v, t, rfl, hv, by omega, rfl, _, rfl, iteNS (by rw [tx_len, wl]) ?_⟩
  refine ⟨_, rfl, (by show 1 ≤ sizeLine; decide), fun p0 np0 => ?_⟩
  have k0 := same_new np0 (.lst [v])
  have ep0 := upd_same (H := H) (a := p0) (o := .lst [v])
  generalize upd H p0 (.lst [v]) = H0 at k0 ep0 ⊢
  refine ⟨_, rfl, _, rfl, ?_⟩
  refine for_text (x := tx w) (fun j σ H' => ∃ (k : Nat) (pj : Addr) (us : List V) (ts : List B) (o4 o5 o6 o7 o8 : Option V), σ = [some v, some (.str (tx w)), some (vn k), some (.ref pj), o4, o5, o6, o7, o8] ∧ LamX.ExtN H H' ∧ LamX.Tabs T H' ∧ H' pj = some (.lst us) ∧ TsAt H' us ts ∧ FG ts ∧ (hooksL ts).length ≤ 15 ∧ Valid ts (w.drop j) ∧ ∀ k', Idx ts (w.drop j) k' → Idx (ft t) w (k + k'))
    ⟨0, p0, [v], [t], none, none, none, none, none, rfl, same_extN k0, hT.ext k0, ep0, .cons (hv.same k0) .nil, by rw [← fe]; exact g0, by rw [← fe, hooks_ft, B.hooks_len]; omega, by rw [← fe]; exact hva, fun k' h => by rw [Nat.zero_add, fe]; exact h⟩
    (fun j c σ H1 hc hp => ?_) (fun σ H1 hp => ?_)
  · obtain ⟨k, pj, us, ts, o4, o5, o6, o7, o8, rfl, x1, T1, e1, ta, fg, h15, va, ix⟩ := hp
    rw [tx_cps] at hc
    have hj := (List.getElem?_eq_some_iff.mp hc).1
    have hd : w.drop j = c :: w.drop (j + 1) := by
      rw [List.drop_eq_getElem_cons hj, (List.getElem?_eq_some_iff.mp hc).2]
    rw [hd] at va ix
    have flen := fg_len fg
    refine ⟨_, rfl, pj, us, ts, rfl, SqL.of e1, ta, fg.nn, by omega, T1, fun ps ws SS H2 x2 T2 ep sa pm so => ?_⟩
    obtain ⟨rest, hm, va'⟩ : ∃ rest, (c, rest) ∈ stepsL ts ∧ Valid rest (w.drop (j + 1)) := by
      cases va with
      | cons hs h => exact ⟨_, hs, h⟩
    refine ⟨_, rfl, ps, rfl, ⟨_, SqL.of ep⟩, fun D nD => ?_⟩
    have kD := same_new nD (.lst [])
    refine lc_it (walk_list (K := K) (a := ps) (xs := ws)) (fun i H' => Same H2 H' ∧ H' D = some (.lst (((ws.take i).filter fun x => decide (kzOf H2 x = ch c)).map (secOf H2)))) ⟨kD, upd_same⟩ (fun i H' _ hp => SqL.of (hp.1 _ _ ep)) (fun i x H3 H3' hi hp hy => ?_) (fun H3 hp => ?_)
    · obtain ⟨s3, e3⟩ := hp
      obtain ⟨rfl, hx⟩ := hy
      obtain ⟨b, qa, d, vs', r', rfl, hs, f1, f2, tr⟩ := sa.get hx
      refine ⟨b, _, rfl, SqT.of (s3 _ _ f1), rfl, _, _, rfl, _, _, rfl, rfl, rfl, ?_⟩
      refine ⟨_, rfl, _, rfl, rfl, _, rfl, ?_⟩
      have kz1 := kzOf_at f1
      have sc1 := secOf_at f1
      rw [take_nextG hx, List.filter_append, List.map_append]
      have fl : (((ws.take i).filter fun x => decide (kzOf H2 x = ch c)).map (secOf H2)).length ≤ 1000 := by
        rw [List.length_map]
        refine Nat.le_trans (List.length_filter_le _ _) ?_
        rw [List.length_take]
        have l1 := sa.len
        have l2 := pm.length_eq
        have l3 : (stepsL ts).length = ts.length := by unfold stepsL; rw [List.length_map, List.length_range]
        omega
      by_cases hdc : d = c
      · subst hdc
        refine iteS rfl ?_
        refine ⟨_, rfl, _, e3, small1000 fl, fun b' o e => ?_, ?_⟩
        · rw [upd_ne (ne_of_none e nD)]; exact s3 _ _ e
        · rw [upd_same, List.filter_cons, if_pos (decide_eq_true kz1), List.filter_nil, List.map_cons, List.map_nil, sc1]
      · refine iteR (fun z => hdc (ch_inj z)) ?_
        refine ⟨s3, ?_⟩
        rw [List.filter_cons, if_neg (by rw [kz1]; exact fun z => hdc (ch_inj (of_decide_eq_true z))), List.filter_nil, List.map_nil, List.append_nil]
        exact e3
    · obtain ⟨s3, e3⟩ := hp
      rw [List.take_length] at e3
      -- the taken list
      obtain ⟨q', vs', f2, tr, tail, ht⟩ : ∃ (q' : Addr) (vs' : List V), H2 q' = some (.lst vs') ∧ TsAt H2 vs' rest ∧ ∃ tail, (ws.filter fun x => decide (kzOf H2 x = ch c)).map (secOf H2) = .ref q' :: tail := by
        obtain ⟨n, hn⟩ := List.getElem?_of_mem (pm.mem_iff.mpr hm)
        have hn1 := (List.getElem?_eq_some_iff.mp hn).1
        obtain ⟨y, hw⟩ : ∃ y, ws[n]? = some y := ⟨_, List.getElem?_eq_getElem (by rw [sa.len]; exact hn1)⟩
        obtain ⟨b1, q1, d1, vs1, r1, eb, hs1, f1, _, _⟩ := sa.get hw
        rw [hn] at hs1
        cases hs1
        have mem : y ∈ ws.filter fun x => decide (kzOf H2 x = ch c) := List.mem_filter.mpr ⟨List.mem_of_getElem? hw, decide_eq_true (by rw [eb]; exact kzOf_at f1)⟩
        cases hL : ws.filter fun x => decide (kzOf H2 x = ch c) with
        | nil => rw [hL] at mem; cases mem
        | cons x0 L =>
          have hx0 : x0 ∈ ws.filter fun x => decide (kzOf H2 x = ch c) := by rw [hL]; exact List.mem_cons_self
          obtain ⟨m1, m2⟩ := List.mem_filter.mp hx0
          obtain ⟨m, hm1⟩ := List.getElem?_of_mem m1
          obtain ⟨b2, q2, d2, vs2, r2, eb2, hs2, g1, g2, g3⟩ := sa.get hm1
          rw [eb2] at m2
          have m3 := of_decide_eq_true m2
          rw [kzOf_at g1] at m3
          have m4 := ch_inj m3
          subst m4
          have := step_inj fg hm (pm.mem_iff.mp (List.mem_of_getElem? hs2))
          subst this
          exact ⟨q2, vs2, g2, g3, L.map (secOf H2), by rw [List.map_cons, eb2, secOf_at g1]⟩
      rw [ht] at e3
      refine ⟨_, rfl, _, .inl ⟨_, SqL.of e3, rfl⟩, iteF ?_⟩
      refine ⟨_, rfl, _, rfl, ps, rfl, ⟨_, SqL.of (s3 _ _ ep)⟩, fun D2 nD2 => ?_⟩
      have kD2 := same_new nD2 (.lst [])
      refine lc_it (walk_list (K := K) (a := ps) (xs := ws)) (fun i H' => Same H3 H' ∧ H' D2 = some (.lst ((((SS.take i).filter fun s => decide (s.1 < c)).map fun s => ((togR s.2 : Nat) : Int)).map V.int))) ⟨kD2, upd_same⟩ (fun i H' _ hp => SqL.of (hp.1 _ _ (s3 _ _ ep))) (fun i x H4 H4' hi hp hy => ?_) (fun H4 hp => ?_)
      · obtain ⟨s4, e4⟩ := hp
        obtain ⟨rfl, hx⟩ := hy
        obtain ⟨b, qa, d, vs2, r', rfl, hs, f1, g2, g3⟩ := sa.get hx
        have s24 := s3.trans s4
        have hh := step_hooks fg (pm.mem_iff.mp (List.mem_of_getElem? hs))
        refine ⟨b, _, rfl, SqT.of (s24 _ _ f1), rfl, _, _, rfl, _, _, rfl, rfl, rfl, ?_⟩
        refine ⟨_, rfl, _, rfl, _, _, rfl, rfl, _, rfl, ?_⟩
        rw [ch_lt, take_nextG hs, List.filter_append, List.map_append, List.map_append]
        by_cases hdc : d < c
        · rw [decide_eq_true hdc]
          refine iteT ⟨_, rfl, qa, vs2, r', rfl, SqL.of (s24 _ _ g2), g3.same s24, by omega, fun H5 s5 => ?_⟩
          refine ⟨_, s5 _ _ e4, ?_, fun b' o e => ?_, ?_⟩
          · rw [List.length_map, List.length_map]
            refine small1000 (Nat.le_trans (List.length_filter_le _ _) ?_)
            rw [List.length_take]
            have l2 := pm.length_eq
            have l3 : (stepsL ts).length = ts.length := by unfold stepsL; rw [List.length_map, List.length_range]
            omega
          · rw [upd_ne (ne_of_none e nD2)]; exact s5 _ _ (s4 _ _ e)
          · rw [upd_same, List.filter_cons, if_pos (decide_eq_true hdc), together_eq]
            rfl
        · rw [decide_eq_false hdc]
          refine iteF ⟨s4, ?_⟩
          rw [List.filter_cons, if_neg (fun z => hdc (of_decide_eq_true z)), List.filter_nil, List.map_nil, List.map_nil, List.append_nil]
          exact e4
      · obtain ⟨s4, e4⟩ := hp
        rw [sa.len, List.take_length] at e4
        have sm : (((SS.filter fun s => decide (s.1 < c)).map fun s => ((togR s.2 : Nat) : Int))).sum = (below ts c : Int) := by
          have h1 : ((SS.filter fun s => decide (s.1 < c)).map fun s => togR s.2).sum = below ts c := ((pm.filter _).map _).sum_nat
          rw [← h1]
          generalize SS.filter (fun s => decide (s.1 < c)) = L
          induction L with
          | nil => rfl
          | cons s L ih => rw [List.map_cons, List.map_cons, List.sum_cons, List.sum_cons, ih, Int.natCast_add]
        have s24 := s3.trans s4
        have x4 := (x1.trans x2).trans (same_extN s24)
        have hh := step_hooks fg hm
        refine ⟨D2, _, rfl, SqL.of e4, _, _, rfl, rfl, ?_⟩
        rw [sm]
        refine ⟨_, rfl, D, _, _, _, rfl, rfl, SqL.of (s4 _ _ e3), atI_nat (j := 0) (v := .ref q') rfl, ?_⟩
        refine ⟨k + below ts c, q', vs', rest, _, _, _, _, _, rfl, x4, T2.ext s24, s24 _ _ f2, tr.same s24, (fg.step hm).1, by omega, va', fun k' h => ?_⟩
        have := ix _ (.cons hm h)
        rw [Nat.add_assoc]
        exact this
  · obtain ⟨k, pj, us, ts, o4, o5, o6, o7, o8, rfl, x1, T1, e1, ta, fg, h15, va, ix⟩ := hp
    rw [tx_cps, List.drop_length] at va ix
    cases va
    exact ⟨_, rfl, q k H1 x1 T1 (ix 0 .nil)⟩
end
/-! ### the deck, tables and lambdas; _law_ways, _law_merged, _law_drawn_order, _law_count -/
theorem DeckOk.ext {H H' : Hp} {D : Deck} (d : DeckOk H D) (h : LamX.ExtN H H') : DeckOk H' D := by
  obtain ⟨gs, wh, n, h1, h2, h3⟩ := d.ex
  exact ⟨⟨gs, wh, n, h _ _ h1 (fun ps z => by cases z), h _ _ h2 (fun ps z => by cases z), h3⟩, d.ne⟩
/-- all stands still but the deck's lists and the tables -/
def ExtD (D : Deck) (H H' : Hp) : Prop := ∀ b o, b ≠ D.dk → b ≠ D.ga → H b = some o → (∀ ps, o ≠ .tbl ps) → H' b = some o
theorem ExtD.refl (D : Deck) (H : Hp) : ExtD D H H := fun _ _ _ _ e _ => e
theorem ExtD.trans {D : Deck} {H H1 H2 : Hp} (a : ExtD D H H1) (b : ExtD D H1 H2) : ExtD D H H2 := fun c o h1 h2 e n => b c o h1 h2 (a c o h1 h2 e n) n
theorem ExtD.of {D : Deck} {H H' : Hp} (h : LamX.ExtN H H') : ExtD D H H' := fun b o _ _ e n => h b o e n
theorem ExtD.ofD {D : Deck} {H H' : Hp} (h : SameD D H H') : ExtD D H H' := fun b o h1 h2 e _ => h b o h1 h2 e
theorem ExtD.ofS {D : Deck} {H H' : Hp} (h : Same H H') : ExtD D H H' := fun b o _ _ e _ => h b o e
theorem ExtD.keepT {D : Deck} {H H' : Hp} (h : ExtD D H H') (d : DeckOk H D) : KeepT H H' := fun b xs e => by
  obtain ⟨⟨x1, h1⟩, ⟨x2, h2⟩⟩ := d.lists
  exact h b _ (ne_of e h1 (by intro z; cases z)) (ne_of e h2 (by intro z; cases z)) e (fun ps z => by cases z)
theorem tabsD {T : List (Addr × Str)} {D : Deck} {H H' : Hp} (d : DeckOk H D) (s : SameD D H H') (h : LamX.Tabs T H) : LamX.Tabs T H' := fun p hp => by
  obtain ⟨⟨x1, l1⟩, ⟨x2, l2⟩⟩ := d.lists
  obtain ⟨ps, h1, h2, h3⟩ := h p hp
  refine ⟨ps, s _ _ (fun z => by rw [z, l1] at h1; cases h1) (fun z => by rw [z, l2] at h1; cases h1) h1, h2, fun pos cv hc => ?_⟩
  obtain ⟨c, e1, e2⟩ := h3 pos cv hc
  refine ⟨c, e1, s _ _ (fun z => ?_) (fun z => ?_) e2⟩
  · rw [z, l1] at e2; unfold LamX.CodeO at e2; cases e2
  · rw [z, l2] at e2; unfold LamX.CodeO at e2; cases e2
theorem cho_next (n k : Nat) : cho (n + (k + 1)) (k + 1) * (k + 1) = cho (n + k) k * (n + k + 1) := by
  have h1 := cho_fac _ (k + 1) n rfl
  have h2 := cho_fac _ k n rfl
  rw [show k + 1 + n = n + (k + 1) by omega] at h1
  rw [show k + n = n + k by omega] at h2
  have h3 : facN (n + (k + 1)) = facN (n + k) * (n + k + 1) := rfl
  have h4 : facN (k + 1) = facN k * (k + 1) := rfl
  rw [h3, ← h2, h4] at h1
  have pos : 0 < facN k * facN n := Nat.mul_pos (facN_pos k) (facN_pos n)
  refine Nat.eq_of_mul_eq_mul_right pos ?_
  calc cho (n + (k + 1)) (k + 1) * (k + 1) * (facN k * facN n) = cho (n + (k + 1)) (k + 1) * (facN k * (k + 1) * facN n) := by simp only [Nat.mul_assoc, Nat.mul_left_comm, Nat.mul_comm]
    _ = cho (n + k) k * (facN k * facN n) * (n + k + 1) := h1
    _ = cho (n + k) k * (n + k + 1) * (facN k * facN n) := by simp only [Nat.mul_assoc, Nat.mul_left_comm, Nat.mul_comm]
theorem cho_le (n k : Nat) : cho (n + k) k ≤ facN (n + k) := by
  have h2 := cho_fac _ k n rfl
  rw [show k + n = n + k by omega] at h2
  rw [← h2]
  exact Nat.le_mul_of_pos_right _ (Nat.mul_pos (facN_pos k) (facN_pos n))
def spWays : Sp := fun vs H Q _ => ∃ a b : Nat, vs = [vn a, vn b] ∧ a + b ≤ 14 ∧ Q (vn (cho (b + a) a)) H
section
variable {P : Program} {w : World} {K : PySem.W.Frag} {mg : Str → Option Value} {base : Heap} {f : Addr} {fd : FuncData}
theorem ok_ways {k : Nat} (F : Fun K "_law_ways" "_law_ways" s__law_ways f fd) (M : Mgs mg) : FnOk P w K mg base CX0 (k + 1) f fd ["_law_one", "_law_other"] spWays := by
  refine F.ok sc__law_ways (fun vs H Q E h => ?_) (fun cdv A outer s H vs Q E hr h => ?_)
  · obtain ⟨a, b, rfl, _⟩ := h
    rfl
  obtain ⟨a, b, rfl, hl, q⟩ := h
  refine ⟨_, (pss_cons (ps_set (i := 2) sc__law_ways.nd rfl (.inl rfl) pe_int)
    (pss_cons (ps_for PassesOwn.never rfl (pi_range1 rfl M.range (pa_cons (pv 0) pa_nil)) (pg_name (i := 3) sc__law_ways.nd rfl (.inl rfl))
      (pss_one (ps_set (i := 2) sc__law_ways.nd rfl (.inl rfl) (pe_op op_fdiv (pe_op op_mul (pv 2) (pe_op op_add (pe_op op_add (pv 1) (pv 3)) pe_int)) (pe_op op_add (pv 3) pe_int)))))
    (pss_one (ps_ret (pv 2))))), ?_⟩
  refine ⟨_, rfl, (a : Int), rfl, by omega, by omega, ?_⟩
  rw [Int.toNat_natCast]
  refine for_range (lo := 0) (n := a) (fun i σ H' => ∃ o3, σ = [some (vn a), some (vn b), some (vn (cho (b + i) i)), o3] ∧ H' = H) ⟨none, by rw [show b + 0 = b from rfl, cho_0]; rfl, rfl⟩ (fun i σ H' hi hp => ?_) (fun σ H' hp => ?_)
  · obtain ⟨o3, rfl, rfl⟩ := hp
    have h1 := cho_le b i
    have h2 := fac15 (show b + i ≤ 15 by omega)
    have h3 := cho_next b i
    have e1 : ((cho (b + i) i : Nat) : Int) * ((b : Int) + (0 + (i : Int)) + 1) = ((cho (b + (i + 1)) (i + 1) * (i + 1) : Nat) : Int) := by
      rw [h3, Int.natCast_mul, Int.zero_add]
      rfl
    have h4 := cho_le b (i + 1)
    have h5 := fac15 (show b + (i + 1) ≤ 15 by omega)
    have h6 : cho (b + (i + 1)) (i + 1) * (i + 1) ≤ 1307674368000 * 15 := Nat.mul_le_mul (Nat.le_trans h4 h5) (by omega)
    refine ⟨_, rfl, _, rfl, _, rfl, _, _, rfl, rfl, _, _, rfl, rfl, _, _, rfl, rfl, .inl ⟨by omega, by omega⟩, _, rfl, _, _, rfl, rfl, _, _, rfl, rfl, ⟨by omega, by first | omega | (rw [e1]; omega)⟩, ?_⟩
    refine ⟨some (.int (0 + i)), ?_, rfl⟩
    have e : vn (cho (b + (i + 1)) (i + 1)) = V.int (((cho (b + i) i : Nat) : Int) * ((b : Int) + (0 + (i : Int)) + 1) / (0 + (i : Int) + 1)) := by
      rw [e1, Int.zero_add, show ((i : Int) + 1) = ((i + 1 : Nat) : Int) from rfl, Int.natCast_mul, Int.mul_ediv_cancel _ (by omega)]
    rw [e]
    rfl
  · obtain ⟨o3, rfl, rfl⟩ := hp
    exact ⟨_, rfl, q⟩
def spMerged : Sp := fun vs H Q _ => ∃ (D : Deck) (u v : List Nat), vs = [.ref D.dk, .str (tx u), .str (tx v)] ∧ DeckOk H D ∧ u.length + v.length ≤ 40 ∧
  ∀ (w : List Nat) (H' : Hp), DeckOk H' D → SameD D H H' → Mrg u v w → Q (.str (tx w)) H'
def mu2 (σ : List (Option V)) : Nat := match σ[1]?, σ[2]? with
  | some (some (V.str a)), some (some (V.str b)) => a.length + b.length
  | _, _ => 0
theorem tx_nil {l : List Nat} (h : tx l = Str.ofString "") : l = [] := by rw [str_0] at h; exact tx_inj h
theorem ok_merged (F : Fun K "_law_merged" "_law_merged" s__law_merged f fd) (D_law_next : Df P w K mg base 1 "_law_next" ["_law_deck", "_law_many"] spNext) : FnOk P w K mg base CX0 2 f fd ["_law_deck", "_law_one", "_law_other"] spMerged := by
  refine F.ok sc__law_merged (fun vs H Q E h => ?_) (fun cdv A outer s H vs Q E hr h => ?_)
  · obtain ⟨D, u, v, rfl, _⟩ := h
    rfl
  obtain ⟨D, u, v, rfl, d, hl, q⟩ := h
  refine ⟨_, (pss_cons (ps_set (i := 3) sc__law_merged.nd rfl (.inl rfl) pe_str)
    (pss_cons (ps_while PassesOwn.never (pt_cmpR op_ne (pe_op op_add_str (pv 1) (pv 2)) pe_str (nomark _))
      (pss_one (ps_if (PW.pt (pw_or (pt_cmpR op_eq (pv 2) pe_str (nomark _)) (pw_or1 (PW.pt (pw_and (pt_cmpR op_ne (pv 1) pe_str (nomark _)) (pw_and1 (pt_cmpR op_eq (pe_call D_law_next.ok (hr.mono (by omega)) rfl D_law_next.g D_law_next.kp D_law_next.b .nil pass0 (pa_cons (pv 0) (pa_cons pe_int pa_nil))) pe_int (nomark _))))))))
      (pss_one (ps_par (i := 3) (j := 1) (by rfl) sc__law_merged.nd rfl rfl (by decide) rfl rfl (pa_cons (pe_op op_add_str (pv 3) (pe_ix ix_str (pv 1) pe_int (fun _ _ => rfl))) (pa_cons (pe_slice sl_str (pv 1) (po_some pe_int) po_none) pa_nil)) (by rfl))) (pss_one (ps_par (i := 3) (j := 2) (by rfl) sc__law_merged.nd rfl rfl (by decide) rfl rfl (pa_cons (pe_op op_add_str (pv 3) (pe_ix ix_str (pv 2) pe_int (fun _ _ => rfl))) (pa_cons (pe_slice sl_str (pv 2) (po_some pe_int) po_none) pa_nil)) (by rfl))))))
    (pss_one (ps_ret (pv 3))))), ?_⟩
  refine while_by (fun σ H' => ∃ (z u' v' : List Nat), σ = [some (.ref D.dk), some (.str (tx u')), some (.str (tx v')), some (.str (tx z))] ∧ DeckOk H' D ∧ SameD D H H' ∧ z.length + u'.length + v'.length ≤ 40 ∧ ∀ w', Mrg u' v' w' → Mrg u v (z ++ w')) (fun σ H' => mu2 σ)
    ⟨[], u, v, by rw [← str_0]; rfl, d, SameD.refl D H, by show 0 + u.length + v.length ≤ 40; omega, fun w' m => m⟩ (fun σ H' hp => ?_) ?_
  · obtain ⟨z, u', v', rfl, d', s', hz, mm⟩ := hp
    refine ⟨_, rfl, _, rfl, _, _, rfl, rfl, small (by rw [tx_len, tx_len]; omega), rfl, _, rfl, ?_⟩
    rw [tx_app]
    by_cases he : tx (u' ++ v') = Str.ofString ""
    · rw [decide_eq_true (congrArg V.str he)]
      refine iteF ⟨_, rfl, ?_⟩
      obtain ⟨rfl, rfl⟩ := List.append_eq_nil_iff.mp (tx_nil he)
      have := mm [] .nil
      rw [List.append_nil] at this
      exact q z H' d' s' this
    · rw [decide_eq_false (fun e => he (V.str.inj e))]
      refine iteT ?_
      refine ⟨_, rfl, rfl, _, rfl, ?_⟩
      by_cases hvn : v' = []
      · have hun : u' ≠ [] := fun z => he (by rw [z, hvn]; exact str_0.symm)
        rw [decide_eq_true (by rw [hvn, str_0])]
        refine iteT (iteT ?_)
        obtain ⟨c, r, hc⟩ : ∃ c r, u' = c :: r := by
          cases u' with
          | nil => exact absurd rfl hun
          | cons c r => exact ⟨c, r, rfl⟩
        have lu : u'.length = r.length + 1 := by rw [hc]; rfl
        refine ⟨_, rfl, _, rfl, tx u', 0, c, rfl, rfl, (by rw [tx_len]; exact Nat.le_of_lt (small (by omega))), atI_nat (j := 0) (by rw [tx_cps, hc]; rfl), _, _, rfl, rfl, small (by rw [tx_len]; show _ + 1 ≤ 1000; omega), _, rfl, 1, rfl, tx u', rfl, (by rw [tx_len]; exact Nat.le_of_lt (small (by omega))), ?_⟩
        rw [show (1 : Int) = ((1 : Nat) : Int) from rfl, tx_from, show tx z ++ (⟨#[c]⟩ : Str) = tx (z ++ [c]) from tx_app z [c]]
        refine ⟨_, _, rfl, ⟨z ++ [c], r, v', by rw [hc]; rfl, d', s', by rw [List.length_append, List.length_cons, List.length_nil]; omega, fun w' m => ?_⟩, ?_⟩
        · rw [List.append_assoc]
          exact mm _ (by rw [hc]; exact .left c m)
        · show mu2 _ < (tx u').length + (tx v').length
          rw [hc]
          show (tx r).length + (tx v').length < _
          simp only [tx_len, List.length_cons]
          omega
      · rw [decide_eq_false (fun z => hvn (tx_nil (V.str.inj z)))]
        refine iteF ?_
        refine ⟨_, rfl, rfl, _, rfl, ?_⟩
        by_cases hun : u' = []
        · rw [decide_eq_true (by rw [hun, str_0])]
          refine iteF (iteF ?_)
          obtain ⟨c, r, hc⟩ : ∃ c r, v' = c :: r := by
            cases v' with
            | nil => exact absurd rfl hvn
            | cons c r => exact ⟨c, r, rfl⟩
          have lu : v'.length = r.length + 1 := by rw [hc]; rfl
          refine ⟨_, rfl, _, rfl, tx v', 0, c, rfl, rfl, (by rw [tx_len]; exact Nat.le_of_lt (small (by omega))), atI_nat (j := 0) (by rw [tx_cps, hc]; rfl), _, _, rfl, rfl, small (by rw [tx_len]; show _ + 1 ≤ 1000; omega), _, rfl, 1, rfl, tx v', rfl, (by rw [tx_len]; exact Nat.le_of_lt (small (by omega))), ?_⟩
          rw [show (1 : Int) = ((1 : Nat) : Int) from rfl, tx_from, show tx z ++ (⟨#[c]⟩ : Str) = tx (z ++ [c]) from tx_app z [c]]
          refine ⟨_, _, rfl, ⟨z ++ [c], u', r, by rw [hc]; rfl, d', s', by rw [List.length_append, List.length_cons, List.length_nil]; omega, fun w' m => ?_⟩, ?_⟩
          · rw [List.append_assoc]
            exact mm _ (by rw [hc]; exact .right c m)
          · show mu2 _ < (tx u').length + (tx v').length
            rw [hc]
            show (tx u').length + (tx r).length < _
            simp only [tx_len, List.length_cons]
            omega
        · rw [decide_eq_false (fun z => hun (tx_nil (V.str.inj z)))]
          refine iteT ?_
          refine ⟨_, rfl, D, 2, rfl, d', by decide, by decide, fun i H1 h0 h1 d1 s1 => ?_⟩
          refine ⟨rfl, _, rfl, ?_⟩
          have ss := s'.trans s1
          by_cases hi : i = 0
          · rw [decide_eq_true (by rw [hi])]
            refine iteT ?_
            obtain ⟨c, r, hc⟩ : ∃ c r, u' = c :: r := by
              cases u' with
              | nil => exact absurd rfl hun
              | cons c r => exact ⟨c, r, rfl⟩
            have lu : u'.length = r.length + 1 := by rw [hc]; rfl
            refine ⟨_, rfl, _, rfl, tx u', 0, c, rfl, rfl, (by rw [tx_len]; exact Nat.le_of_lt (small (by omega))), atI_nat (j := 0) (by rw [tx_cps, hc]; rfl), _, _, rfl, rfl, small (by rw [tx_len]; show _ + 1 ≤ 1000; omega), _, rfl, 1, rfl, tx u', rfl, (by rw [tx_len]; exact Nat.le_of_lt (small (by omega))), ?_⟩
            rw [show (1 : Int) = ((1 : Nat) : Int) from rfl, tx_from, show tx z ++ (⟨#[c]⟩ : Str) = tx (z ++ [c]) from tx_app z [c]]
            refine ⟨_, _, rfl, ⟨z ++ [c], r, v', by rw [hc]; rfl, d1, ss, by rw [List.length_append, List.length_cons, List.length_nil]; omega, fun w' m => ?_⟩, ?_⟩
            · rw [List.append_assoc]
              exact mm _ (by rw [hc]; exact .left c m)
            · show mu2 _ < (tx u').length + (tx v').length
              rw [hc]
              show (tx r).length + (tx v').length < _
              simp only [tx_len, List.length_cons]
              omega
          · rw [decide_eq_false (fun z => hi (V.int.inj z))]
            refine iteF ?_
            obtain ⟨c, r, hc⟩ : ∃ c r, v' = c :: r := by
              cases v' with
              | nil => exact absurd rfl hvn
              | cons c r => exact ⟨c, r, rfl⟩
            have lu : v'.length = r.length + 1 := by rw [hc]; rfl
            refine ⟨_, rfl, _, rfl, tx v', 0, c, rfl, rfl, (by rw [tx_len]; exact Nat.le_of_lt (small (by omega))), atI_nat (j := 0) (by rw [tx_cps, hc]; rfl), _, _, rfl, rfl, small (by rw [tx_len]; show _ + 1 ≤ 1000; omega), _, rfl, 1, rfl, tx v', rfl, (by rw [tx_len]; exact Nat.le_of_lt (small (by omega))), ?_⟩
            rw [show (1 : Int) = ((1 : Nat) : Int) from rfl, tx_from, show tx z ++ (⟨#[c]⟩ : Str) = tx (z ++ [c]) from tx_app z [c]]
            refine ⟨_, _, rfl, ⟨z ++ [c], u', r, by rw [hc]; rfl, d1, ss, by rw [List.length_append, List.length_cons, List.length_nil]; omega, fun w' m => ?_⟩, ?_⟩
            · rw [List.append_assoc]
              exact mm _ (by rw [hc]; exact .right c m)
            · show mu2 _ < (tx u').length + (tx v').length
              rw [hc]
              show (tx u').length + (tx r).length < _
              simp only [tx_len, List.length_cons]
              omega
  · intro σ H' Q1 Q2 hQ h
    obtain ⟨x, e1, y, e2, i, j, e3, e4, e5, e6, k, e7, e8⟩ := h
    exact ⟨x, e1, y, e2, i, j, e3, e4, e5, e6, k, e7, hQ _ _ e8⟩
def spDrawnO (T : List (Addr × Str)) : Sp := fun vs H Q _ => ∃ (D : Deck) (v : V) (t : B), vs = [.ref D.dk, v] ∧ DeckOk H D ∧ BAt H v t ∧ t.pre.Nodup ∧ t.size ≤ 12 ∧ LamX.Tabs T H ∧
  ∀ (w : List Nat) (H' : Hp), DeckOk H' D → ExtD D H H' → LamX.Tabs T H' → Valid (ft t) w → w.length ≤ 15 → Q (.str (tx w)) H'
theorem num_lt {t : B} (h : t.size ≤ 12) : (t.num : Int) < 1073741824 := by
  have h1 := t.num_le
  have h2 : facN t.size ≤ facN 12 := facN_mono h
  have h3 : facN 12 = 479001600 := by decide
  omega
theorem num_pos (t : B) : 0 < t.num := by rw [← togR_ft]; exact togR_pos _
theorem ok_drawnO {T : List (Addr × Str)} (F : Fun K "_law_drawn_order" "_law_drawn_order" s__law_drawn_order f fd) (D_law_next : Df P w K mg base 1 "_law_next" ["_law_deck", "_law_many"] spNext) (Dcount_orders : Df P w K mg base 22 "count_orders" ["tree"] spCountO)
    (Dorder_at : Df P w K mg base 42 "order_at" ["tree", "index"] (spOrderAt T)) : FnOk P w K mg base CX0 43 f fd ["_law_deck", "_law_tree"] (spDrawnO T) := by
  refine F.ok sc__law_drawn_order (fun vs H Q E h => ?_) (fun cdv A outer s H vs Q E hr h => ?_)
  · obtain ⟨D, v, t, rfl, _⟩ := h
    rfl
  obtain ⟨D, v, t, rfl, d, hv, nd, hz, hT, q⟩ := h
  refine ⟨_, (pss_one (ps_ret (pe_ifExp (pt_cmpR op_isN (pv 1) pe_non (nomark _)) pe_str (pe_call Dorder_at.ok (hr.mono (by omega)) rfl Dorder_at.g Dorder_at.kp Dorder_at.b .nil pass0 (pa_cons (pv 1) (pa_cons (pe_call D_law_next.ok (hr.mono (by omega)) rfl D_law_next.g D_law_next.kp D_law_next.b .nil pass0 (pa_cons (pv 0) (pa_cons (pe_call Dcount_orders.ok (hr.mono (by omega)) rfl Dcount_orders.g Dcount_orders.kp Dcount_orders.b .nil pass0 (pa_cons (pv 1) pa_nil)) pa_nil))) pa_nil)))))), ?_⟩
  by_cases hn : t = .nil
  · subst hn
    rcases hv.inv with ⟨rfl, _⟩ | ⟨a, l, r, x, tl, tr, rfl, e, _⟩
    · refine ⟨_, rfl, rfl, _, rfl, iteT ?_⟩
      show Q (.str (Str.ofString "")) H
      rw [str_0]
      exact q [] H d (ExtD.refl D H) hT .nil (Nat.zero_le _)
    · cases e
  · rcases hv.inv with ⟨rfl, e⟩ | ⟨a, l, r, x, tl, tr, rfl, e, _⟩
    · exact absurd e hn
    · refine ⟨_, rfl, rfl, _, rfl, iteF ?_⟩
      refine ⟨_, rfl, _, rfl, _, rfl, _, t, rfl, hv, by omega, fun H1 s1 => ?_⟩
      refine ⟨D, (t.num : Int), rfl, d.same s1, by have := num_pos t; omega, num_lt hz, fun i H2 h0 h1 d2 s2 => ?_⟩
      obtain ⟨n, rfl⟩ := Int.eq_ofNat_of_zero_le h0
      have T2 := tabsD (d.same s1) s2 (hT.ext s1)
      refine ⟨_, t, n, rfl, (hv.same s1).keep (s2.keepT (d.same s1)), hn, nd, by omega, by omega, T2, fun w H3 x3 T3 nw wl => ?_⟩
      exact q w H3 (d2.ext x3) (((ExtD.ofS s1).trans (ExtD.ofD s2)).trans (ExtD.of x3)) T3 nw.valid wl
def spCount1 : Sp := fun vs H Q _ => ∃ (v : V) (t : B), vs = [v] ∧ BAt H v t ∧ t.size ≤ 15 ∧ ∀ (H' : Hp), Same H H' → Q (vn t.num) H'
theorem ok_count1 (F : Fun K "_law_count" "_law_count" s__law_count f fd) (Dcount_orders : Df P w K mg base 22 "count_orders" ["tree"] spCountO) : FnOk P w K mg base CX0 23 f fd ["_law_tree"] spCount1 := by
  refine F.ok sc__law_count (fun vs H Q E h => ?_) (fun cdv A outer s H vs Q E hr h => ?_)
  · obtain ⟨v, t, rfl, _⟩ := h
    rfl
  obtain ⟨v, t, rfl, hv, hz, q⟩ := h
  refine ⟨_, (pss_one (ps_ret (pe_ifExp (pt_cmpR op_isN (pv 0) pe_non (nomark _)) pe_int (pe_call Dcount_orders.ok (hr.mono (by omega)) rfl Dcount_orders.g Dcount_orders.kp Dcount_orders.b .nil pass0 (pa_cons (pv 0) pa_nil))))), ?_⟩
  rcases hv.inv with ⟨rfl, rfl⟩ | ⟨a, l, r, x, tl, tr, rfl, rfl, _⟩
  · refine ⟨_, rfl, rfl, _, rfl, iteT ?_⟩
    exact q H (Same.refl H)
  · refine ⟨_, rfl, rfl, _, rfl, iteF ?_⟩
    exact ⟨_, rfl, _, _, rfl, hv, hz, q⟩
end
/-! ### the law -/
def spTreeOf : Sp := fun vs H Q _ => ∃ zs : List Nat, vs = [.str (tx zs)] ∧ zs.Nodup ∧ zs.length ≤ 12 ∧ ∀ (v : V) (H' : Hp), Same H H' → BAt H' v (gr zs) → Q v H'
def spLaw (K : PySem.W.Frag) (T : List (Addr × Str)) : Sp := fun vs H Q _ => ∃ (a : Addr) (ns : List Int), vs = [.ref a] ∧ SqL K H a (ns.map V.int) ∧ ns.length ≤ 63 ∧ LamX.Tabs T H ∧ ∀ H', Q (.bl true) H'
section
variable {P : Program} {w : World} {K : PySem.W.Frag} {mg : Str → Option Value} {base : Heap} {f : Addr} {fd : FuncData}
theorem ok_law {T : List (Addr × Str)} (F : Fun K "law" "law" s_law f fd) (M : Mgs mg) (D_law_begin : Df P w K mg base 1 "_law_begin" ["_law_script"] (spBegin K)) (D_law_order : Df P w K mg base 32 "_law_order" ["_law_deck", "_law_low", "_law_high"] spOrder)
    (D_law_same : Df P w K mg base 20 "_law_same" ["_law_found", "_law_due"] (spSame K 20)) (Dtree_of : Df P w K mg base 64 "tree_of" ["order"] spTreeOf) (Dcount_orders : Df P w K mg base 22 "count_orders" ["tree"] spCountO) (D_law_count : Df P w K mg base 23 "_law_count" ["_law_tree"] spCount1)
    (Dsize_of : Df P w K mg base 60 "size_of" ["tree"] (fun vs H Q _ => ∃ (v : V) (t : B), vs = [v] ∧ BAt H v t ∧ t.size < 60 ∧ Q (.int (t.size : Int)) H)) (D_law_ways : Df P w K mg base 1 "_law_ways" ["_law_one", "_law_other"] spWays)
    (D_law_merged : Df P w K mg base 2 "_law_merged" ["_law_deck", "_law_one", "_law_other"] spMerged) (D_law_drawn_order : Df P w K mg base 43 "_law_drawn_order" ["_law_deck", "_law_tree"] (spDrawnO T))
    (Dorder_at : Df P w K mg base 42 "order_at" ["tree", "index"] (spOrderAt T)) (Dorder_index : Df P w K mg base 61 "order_index" ["tree", "value"] (spOrderIdx T)) : FnOk P w K mg base CX0 66 f fd ["_law_script"] (spLaw K T) := by
  refine F.ok sc_law (fun vs H Q E h => ?_) (fun cdv A outer s H vs Q E hr h => ?_)
  · obtain ⟨a, ns, rfl, _⟩ := h
    rfl
  obtain ⟨a, ns, rfl, hS, hn, hT, q⟩ := h
  refine ⟨_, (pss_cons (ps_set (i := 1) sc_law.nd rfl (.inl rfl) (pe_call D_law_begin.ok (hr.mono (by omega)) rfl D_law_begin.g D_law_begin.kp D_law_begin.b .nil pass0 (pa_cons (pv 0) pa_nil)))
    (pss_cons (ps_for PassesOwn.never rfl (pi_range1 rfl M.range (pa_cons pe_int pa_nil)) (pg_name (i := 2) sc_law.nd rfl (.inl rfl))
      (pss_cons (ps_set (i := 3) sc_law.nd rfl (.inl rfl) (pe_call D_law_order.ok (hr.mono (by omega)) rfl D_law_order.g D_law_order.kp D_law_order.b .nil pass0 (pa_cons (pv 1) (pa_cons pe_int (pa_cons pe_int pa_nil)))))
    (pss_cons (ps_set (i := 4) sc_law.nd rfl (.inl rfl) (pe_call Dtree_of.ok (hr.mono (by omega)) rfl Dtree_of.g Dtree_of.kp Dtree_of.b .nil pass0 (pa_cons (pv 3) pa_nil)))
    (pss_cons (ps_asg (pv 4) (pg_tup rfl (pgs_cons (pg_name (i := 5) sc_law.nd rfl (.inl rfl)) (pgs_cons (pg_name (i := 6) sc_law.nd rfl (.inr rfl)) (pgs_cons (pg_name (i := 7) sc_law.nd rfl (.inl rfl)) pgs_nil)))))
    (pss_cons (ps_set (i := 9) sc_law.nd rfl (.inl rfl) (pe_lst (pa_cons (pe_bm PySem.F.plainAttrs_str PySem.F.slot_str_join PySem.F.type_str_join mt_join pe_str (pa_cons (pe_lc (own := [("_law_letter", 8)]) (g := gName 8) rfl sc_law.nd (pi_str (pv 3)) (blkOk_by (N := ["_law_script", "_law_deck", "_law_turn", "_law_order_here", "_law_tree", "_law_left", "_law_own", "_law_right", "_law_letter", "_law_parts", "_law_part", "_law_again", "_law_other"]) (sc := defScope s_law) (by decide +kernel)) (fun _ _ _ _ _ => (pg_name (i := 8) sc_law.nd rfl (.inl rfl))) (fun _ _ _ _ _ => pts_one (pt_cmpR op_lt_str (pv 8) (pv 6) (nomark _))) (fun _ _ _ _ _ => (pv 8))) pa_nil)) pa_nil)))
    (pss_cons (ps_expr (pe_bm PySem.F.plainAttrs_list PySem.F.slot_list_append PySem.F.type_list_append mt_append (pv 9) (pa_cons (pe_bm PySem.F.plainAttrs_str PySem.F.slot_str_join PySem.F.type_str_join mt_join pe_str (pa_cons (pe_lc (own := [("_law_letter", 8)]) (g := gName 8) rfl sc_law.nd (pi_str (pv 3)) (blkOk_by (N := ["_law_script", "_law_deck", "_law_turn", "_law_order_here", "_law_tree", "_law_left", "_law_own", "_law_right", "_law_letter", "_law_parts", "_law_part", "_law_again", "_law_other"]) (sc := defScope s_law) (by decide +kernel)) (fun _ _ _ _ _ => (pg_name (i := 8) sc_law.nd rfl (.inl rfl))) (fun _ _ _ _ _ => pts_one (pt_cmpR op_gt_str (pv 8) (pv 6) (nomark _))) (fun _ _ _ _ _ => (pv 8))) pa_nil)) pa_nil)))
    (pss_cons (ps_if (pt_not (pt_val (pe_call D_law_same.ok (hr.mono (by omega)) rfl D_law_same.g D_law_same.kp D_law_same.b .nil pass0 (pa_cons (pe_lst (pa_cons (pv 5) (pa_cons (pv 7) pa_nil))) (pa_cons (pe_lc (own := [("_law_part", 10)]) (g := gName 10) (tt := tYes) rfl sc_law.nd (pi_list (pv 9)) (blkOk_by (N := ["_law_script", "_law_deck", "_law_turn", "_law_order_here", "_law_tree", "_law_left", "_law_own", "_law_right", "_law_letter", "_law_parts", "_law_part", "_law_again", "_law_other"]) (sc := defScope s_law) (by decide +kernel)) (fun _ _ _ _ _ => (pg_name (i := 10) sc_law.nd rfl (.inl rfl))) (fun _ _ _ _ _ => pts_nil) (fun _ _ _ _ _ => (pe_ifExp (pt_cmpR op_ne (pv 10) pe_str (nomark _)) (pe_call Dtree_of.ok (hr.mono (by omega)) rfl Dtree_of.g Dtree_of.kp Dtree_of.b .nil pass0 (pa_cons (pv 10) pa_nil)) pe_non))) pa_nil)))))
      (pss_one (ps_ret pe_bl)) pss_nil)
    (pss_cons (ps_if (pt_cmpR op_ne (pe_call Dcount_orders.ok (hr.mono (by omega)) rfl Dcount_orders.g Dcount_orders.kp Dcount_orders.b .nil pass0 (pa_cons (pv 4) pa_nil)) (pe_op op_mul (pe_op op_mul (pe_call D_law_count.ok (hr.mono (by omega)) rfl D_law_count.g D_law_count.kp D_law_count.b .nil pass0 (pa_cons (pv 5) pa_nil)) (pe_call D_law_count.ok (hr.mono (by omega)) rfl D_law_count.g D_law_count.kp D_law_count.b .nil pass0 (pa_cons (pv 7) pa_nil))) (pe_call D_law_ways.ok (hr.mono (by omega)) rfl D_law_ways.g D_law_ways.kp D_law_ways.b .nil pass0 (pa_cons (pe_call Dsize_of.ok (hr.mono (by omega)) rfl Dsize_of.g Dsize_of.kp Dsize_of.b .nil pass0 (pa_cons (pv 5) pa_nil)) (pa_cons (pe_call Dsize_of.ok (hr.mono (by omega)) rfl Dsize_of.g Dsize_of.kp Dsize_of.b .nil pass0 (pa_cons (pv 7) pa_nil)) pa_nil)))) (nomark _))
      (pss_one (ps_ret pe_bl)) pss_nil)
    (pss_one (ps_for PassesOwn.never rfl (pi_range1 rfl M.range (pa_cons pe_int pa_nil)) (pg_name (i := 11) sc_law.nd rfl (.inl rfl))
      (pss_cons (ps_set (i := 12) sc_law.nd rfl (.inl rfl) (pe_op op_add_str (pv 6) (pe_call D_law_merged.ok (hr.mono (by omega)) rfl D_law_merged.g D_law_merged.kp D_law_merged.b .nil pass0 (pa_cons (pv 1) (pa_cons (pe_call D_law_drawn_order.ok (hr.mono (by omega)) rfl D_law_drawn_order.g D_law_drawn_order.kp D_law_drawn_order.b .nil pass0 (pa_cons (pv 1) (pa_cons (pv 5) pa_nil))) (pa_cons (pe_call D_law_drawn_order.ok (hr.mono (by omega)) rfl D_law_drawn_order.g D_law_drawn_order.kp D_law_drawn_order.b .nil pass0 (pa_cons (pv 1) (pa_cons (pv 7) pa_nil))) pa_nil))))))
    (pss_one (ps_if (PW.pt (pw_or (pt_not (pt_val (pe_call D_law_same.ok (hr.mono (by omega)) rfl D_law_same.g D_law_same.kp D_law_same.b .nil pass0 (pa_cons (pe_call Dtree_of.ok (hr.mono (by omega)) rfl Dtree_of.g Dtree_of.kp Dtree_of.b .nil pass0 (pa_cons (pv 12) pa_nil)) (pa_cons (pv 4) pa_nil))))) (pw_or1 (pt_cmpR op_ne (pe_call Dorder_at.ok (hr.mono (by omega)) rfl Dorder_at.g Dorder_at.kp Dorder_at.b .nil pass0 (pa_cons (pv 4) (pa_cons (pe_call Dorder_index.ok (hr.mono (by omega)) rfl Dorder_index.g Dorder_index.kp Dorder_index.b .nil pass0 (pa_cons (pv 4) (pa_cons (pv 12) pa_nil))) pa_nil))) (pv 12) (nomark _)))))
      (pss_one (ps_ret pe_bl)) pss_nil)))))))))))))
    (pss_one (ps_ret pe_bl)))), ?_⟩
  refine ⟨_, rfl, a, ns, rfl, hS, hn, fun D H1 d1 s1 => ?_⟩
  refine ⟨8, rfl, by decide, by decide, ?_⟩
  refine for_range (lo := 0) (n := 8) (fun i σ H' => ∃ o2 o3 o4 o5 o6 o7 o8 o9 o10 o11 o12, σ = [some (.ref a), some (.ref D.dk), o2, o3, o4, o5, o6, o7, o8, o9, o10, o11, o12] ∧ DeckOk H' D ∧ LamX.Tabs T H') ⟨_, _, _, _, _, _, _, _, _, _, _, rfl, d1, hT.ext s1⟩ (fun i σ H2 hi hp => ?_) (fun σ H2 hp => ?_)
  · obtain ⟨o2, o3, o4, o5, o6, o7, o8, o9, o10, o11, o12, rfl, d2, T2⟩ := hp
    refine ⟨_, rfl, D, 1, 12, rfl, d2, by decide, by decide, fun zs H3 d3 s3 lz z1 z12 => ?_⟩
    have T3 := tabsD d2 s3 T2
    refine ⟨_, rfl, zs, rfl, lz.1, z12, fun v H4 s4 hv => ?_⟩
    obtain ⟨x, zs', hzs⟩ : ∃ x zs', zs = x :: zs' := by
      cases zs with
      | nil => exact absurd z1 (by decide)
      | cons x zs' => exact ⟨x, zs', rfl⟩
    have hgr : gr zs = .node (gr (zs'.filter fun c => decide (c < x))) x (gr (zs'.filter fun c => !decide (c < x))) := by rw [hzs]; exact gr_cons x zs'
    have gsz := gr_size zs
    have bst := gr_bst zs
    have ndt : (gr zs).pre.Nodup := (gr_perm zs).nodup_iff.mpr lz.1
    have d4 := d3.same s4
    have T4 := T3.ext s4
    obtain ⟨a', l, r, rfl, e4, hl, hr'⟩ : ∃ (a' : Addr) (l r : V), v = .ref a' ∧ H4 a' = some (.tup [l, .str (ch x), r]) ∧ BAt H4 l (gr (zs'.filter fun c => decide (c < x))) ∧ BAt H4 r (gr (zs'.filter fun c => !decide (c < x))) := by
      rcases hv.inv with ⟨_, e⟩ | ⟨a', l, r, y, tl, tr, e1, e2, e3, e4, e5⟩
      · rw [hgr] at e; cases e
      · rw [hgr] at e2
        cases e2
        exact ⟨a', l, r, e1, e3, e4, e5⟩
    refine ⟨_, rfl, a', _, rfl, SqT.of e4, rfl, _, _, rfl, _, _, rfl, _, _, rfl, rfl, ?_⟩
    have hL : zs.filter (fun c => decide (c < x)) = zs'.filter fun c => decide (c < x) := by
      rw [hzs, List.filter_cons, if_neg (by simp)]
    have ndz : (x :: zs').Nodup := by rw [← hzs]; exact lz.1
    have hR : zs.filter (fun c => decide (x < c)) = zs'.filter fun c => !decide (c < x) := by
      rw [hzs, List.filter_cons, if_neg (by simp)]
      refine List.filter_congr fun c hc => ?_
      have : c ≠ x := fun z => (List.nodup_cons.mp ndz).1 (z ▸ hc)
      by_cases h : c < x
      · rw [decide_eq_true h, decide_eq_false (by omega)]; rfl
      · rw [decide_eq_false h, decide_eq_true (by omega)]; rfl
    have lenLR : (zs'.filter fun c => decide (c < x)).length + (zs'.filter fun c => !decide (c < x)).length = zs'.length := by
      clear hL hR ndz hzs hgr hl hr' e4
      induction zs' with
      | nil => rfl
      | cons c zs' ih =>
        rw [List.filter_cons, List.filter_cons]
        by_cases h : c < x
        · rw [if_pos (decide_eq_true h), if_neg (by rw [decide_eq_true h]; simp), List.length_cons, List.length_cons]; omega
        · rw [if_neg (by rw [decide_eq_false h]; simp), if_pos (by rw [decide_eq_false h]; rfl), List.length_cons, List.length_cons]; omega
    have ndL : (zs'.filter fun c => decide (c < x)).Nodup := (List.nodup_cons.mp ndz).2.sublist List.filter_sublist
    have ndR : (zs'.filter fun c => !decide (c < x)).Nodup := (List.nodup_cons.mp ndz).2.sublist List.filter_sublist
    have zlen : zs.length = zs'.length + 1 := by rw [hzs]; rfl
    generalize (zs'.filter fun c => decide (c < x)) = L at hgr hl hL lenLR ndL
    generalize (zs'.filter fun c => !decide (c < x)) = R at hgr hr' hR lenLR ndR
    refine ⟨rfl, _, rfl, _, rfl, fun D1 n1 => ?_⟩
    have j1 := same_new n1 (.lst [])
    refine lc_text (x := tx zs) (fun k H' => Same H4 H' ∧ H' D1 = some (.lst (((zs.take k).filter fun c => decide (c < x)).map vc))) ⟨j1, upd_same⟩ (fun k c H' hc hp => ?_) (fun H5 hp => ?_)
    · obtain ⟨s', e'⟩ := hp
      rw [tx_cps] at hc
      have hk := (List.getElem?_eq_some_iff.mp hc).1
      refine ⟨rfl, ?_⟩
      refine ⟨_, rfl, _, rfl, _, _, rfl, rfl, _, rfl, ?_⟩
      rw [take_next hc, List.filter_append, List.map_append]
      rw [show decide ((⟨#[c]⟩ : Str).cps.toList < (ch x).cps.toList) = decide (c < x) from ch_lt c x]
      by_cases h : c < x
      · rw [decide_eq_true h]
        refine iteT ⟨_, rfl, _, e', ?_, fun b o e => ?_, ?_⟩
        · rw [List.length_map]; exact small1000 (Nat.le_trans (List.length_filter_le _ _) (by rw [List.length_take]; omega))
        · rw [upd_ne (ne_of_none e n1)]; exact s' _ _ e
        · rw [upd_same, List.filter_cons, if_pos (decide_eq_true h)]; rfl
      · rw [decide_eq_false h]
        refine iteF ⟨s', ?_⟩
        rw [List.filter_cons, if_neg (fun z => h (of_decide_eq_true z)), List.filter_nil, List.map_nil, List.append_nil]
        exact e'
    obtain ⟨s5, e5⟩ := hp
    rw [tx_cps, List.take_length, hL, map_vc] at e5
    refine ⟨_, D1, L.map ch, rfl, rfl, .inl (SqL.of e5), tx_joinOk _ (by omega), ?_⟩
    rw [tx_join]
    refine ⟨(by show 1 ≤ sizeLine; decide), fun pp npp => ?_⟩
    have j2 := same_new npp (.lst [.str (tx L)])
    have ep := upd_same (H := H5) (a := pp) (o := .lst [.str (tx L)])
    generalize upd H5 pp (.lst [.str (tx L)]) = H6 at j2 ep ⊢
    have s46 := s5.trans j2
    refine ⟨_, rfl, .inl ⟨rfl, _, SqL.of ep⟩, rfl, _, rfl, _, rfl, fun D2 n2 => ?_⟩
    have j3 := same_new n2 (.lst [])
    refine lc_text (x := tx zs) (fun k H' => Same H6 H' ∧ H' D2 = some (.lst (((zs.take k).filter fun c => decide (x < c)).map vc))) ⟨j3, upd_same⟩ (fun k c H' hc hp => ?_) (fun H7 hp => ?_)
    · obtain ⟨s', e'⟩ := hp
      rw [tx_cps] at hc
      have hk := (List.getElem?_eq_some_iff.mp hc).1
      refine ⟨rfl, ?_⟩
      refine ⟨_, rfl, _, rfl, _, _, rfl, rfl, _, rfl, ?_⟩
      rw [take_next hc, List.filter_append, List.map_append]
      rw [show decide ((ch x).cps.toList < (⟨#[c]⟩ : Str).cps.toList) = decide (x < c) from ch_lt x c]
      by_cases h : x < c
      · rw [decide_eq_true h]
        refine iteT ⟨_, rfl, _, e', ?_, fun b o e => ?_, ?_⟩
        · rw [List.length_map]; exact small1000 (Nat.le_trans (List.length_filter_le _ _) (by rw [List.length_take]; omega))
        · rw [upd_ne (ne_of_none e n2)]; exact s' _ _ e
        · rw [upd_same, List.filter_cons, if_pos (decide_eq_true h)]; rfl
      · rw [decide_eq_false h]
        refine iteF ⟨s', ?_⟩
        rw [List.filter_cons, if_neg (fun z => h (of_decide_eq_true z)), List.filter_nil, List.map_nil, List.append_nil]
        exact e'
    obtain ⟨s7, e7⟩ := hp
    rw [tx_cps, List.take_length, hR, map_vc] at e7
    refine ⟨_, D2, R.map ch, rfl, rfl, .inl (SqL.of e7), tx_joinOk _ (by omega), ?_⟩
    rw [tx_join]
    refine ⟨pp, _, _, rfl, rfl, s7 _ _ ep, (by show 1 < sizeLine; decide), ?_⟩
    -- the parts are two texts
    have kT8 : KeepT H7 (upd H7 pp (.lst ([.str (tx L)] ++ [.str (tx R)]))) := fun b xs e => by
      rw [upd_ne (fun z => by have := s7 _ _ ep; rw [z, this] at e; cases e)]
      exact e
    have d7 := (d4.same s46).same s7
    have T7 := (T4.ext s46).ext s7
    have d8 := d7.put (p := pp) ((d4.same s5).new npp) (.lst ([.str (tx L)] ++ [.str (tx R)]))
    have T8 : LamX.Tabs T (upd H7 pp (.lst ([.str (tx L)] ++ [.str (tx R)]))) := tabs_but (s7 _ _ ep) (fun b o hb e => by rw [upd_ne hb]; exact e) T7
    have e8 := upd_same (H := H7) (a := pp) (o := .lst ([.str (tx L)] ++ [.str (tx R)]))
    have kT48 : KeepT H4 (upd H7 pp (.lst ([.str (tx L)] ++ [.str (tx R)]))) := fun b xs e => kT8 _ _ ((s46.trans s7) _ _ e)
    have hl8 := hl.keep kT48
    have hr8 := hr'.keep kT48
    have hv8 := hv.keep kT48
    generalize upd H7 pp (.lst ([.str (tx L)] ++ [.str (tx R)])) = H8 at d8 T8 e8 hl8 hr8 hv8 ⊢
    clear kT8 kT48
    -- the two sides
    refine ⟨_, rfl, _, rfl, (by show 2 ≤ sizeLine; decide), fun p1 np1 => ?_⟩
    have j9 := same_new np1 (.lst [l, r])
    have e9 := upd_same (H := H8) (a := p1) (o := .lst [l, r])
    have e89 := j9 _ _ e8
    generalize upd H8 p1 (.lst [l, r]) = H9 at j9 e9 e89 ⊢
    refine ⟨_, rfl, pp, rfl, ⟨_, SqL.of e89⟩, fun D3 n3 => ?_⟩
    have j10 := same_new n3 (.lst [])
    refine lc_it (walk_list (K := K) (a := pp) (xs := [.str (tx L)] ++ [.str (tx R)])) (fun k H' => Same H9 H' ∧ ∃ us, H' D3 = some (.lst us) ∧ TsAt H' us ([gr L, gr R].take k)) ⟨j10, [], upd_same, .nil⟩ (fun k H' _ hp => SqL.of (hp.1 _ _ e89)) (fun k y H' H'' hk hp hy => ?_) (fun H10 hp => ?_)
    · obtain ⟨s', us, e', ta⟩ := hp
      obtain ⟨rfl, hy⟩ := hy
      obtain ⟨Z, rfl, hZ, ndZ, lZ⟩ : ∃ Z, y = .str (tx Z) ∧ [gr L, gr R][k]? = some (gr Z) ∧ Z.Nodup ∧ Z.length ≤ 12 := by
        match k, hy with
        | 0, h => cases h; exact ⟨L, rfl, rfl, ndL, by omega⟩
        | 1, h => cases h; exact ⟨R, rfl, rfl, ndR, by omega⟩
      have lus := ta.len
      have l2 : us.length ≤ 2 := by
        rw [lus, List.length_take]
        show min k 2 ≤ 2
        omega
      rw [take_nextG hZ]
      refine ⟨rfl, kept ?_⟩
      refine ⟨_, rfl, rfl, _, rfl, ?_⟩
      by_cases hz0 : Z = []
      · subst hz0
        rw [show decide (V.str (tx []) = V.str (Str.ofString "")) = true from decide_eq_true (congrArg V.str str_0.symm)]
        refine iteF ⟨us, e', small1000 (by omega), fun b o e => ?_, us ++ [.non], upd_same, ?_⟩
        · rw [upd_ne (ne_of_none e n3)]; exact s' _ _ e
        · refine (ta.app (.cons .nil .nil)).keep fun b xs e => ?_
          rw [upd_ne (fun z => by rw [z, e'] at e; cases e)]
          exact e
      · rw [decide_eq_false (fun e => hz0 (tx_nil (V.str.inj e)))]
        refine iteT ⟨_, rfl, Z, rfl, ndZ, lZ, fun v1 H2 s2 h1 => ?_⟩
        refine ⟨us, s2 _ _ e', small1000 (by omega), fun b o e => ?_, us ++ [v1], upd_same, ?_⟩
        · rw [upd_ne (ne_of_none e n3)]; exact s2 _ _ (s' _ _ e)
        · refine ((ta.same s2).app (.cons h1 .nil)).keep fun b xs e => ?_
          have := s2 _ _ e'
          rw [upd_ne (fun z => by rw [z, this] at e; cases e)]
          exact e
    obtain ⟨s10, us, e10, ta⟩ := hp
    obtain ⟨v1, v2, rfl, h1, h2⟩ : ∃ v1 v2, us = [v1, v2] ∧ BAt H10 v1 (gr L) ∧ BAt H10 v2 (gr R) := by
      cases ta with
      | cons h1 ta =>
        cases ta with
        | cons h2 ta =>
          cases ta
          exact ⟨_, _, rfl, h1, h2⟩
    have s810 := j9.trans s10
    have dL : (gr L).deep ≤ 12 := Nat.le_trans (gr L).deep_le (by rw [gr_size]; omega)
    have dR : (gr R).deep ≤ 12 := Nat.le_trans (gr R).deep_le (by rw [gr_size]; omega)
    refine ⟨_, _, .list [(gr L).data, (gr R).data], rfl, .lst (SqL.of (s10 _ _ e9)) (.cons (hl8.same s810).dp (.cons (hr8.same s810).dp .nil)), .lst (SqL.of e10) (.cons h1.dp (.cons h2.dp .nil)), ?_, ?_, fun H11 s11 => ?_⟩
    · simp only [PyData.depth, PyData.depthAll, B.data_depth]; omega
    · simp only [nar, narAll, B.nar_data, Bool.and_self, Bool.and_true, List.length_cons, List.length_nil]; exact decide_eq_true (by omega)
    refine ⟨_, rfl, iteF ?_⟩
    have s811 := s810.trans s11
    have d11 := d8.same s811
    have T11 := T8.ext s811
    have hl11 := hl8.same s811
    have hr11 := hr8.same s811
    have hv11 := hv8.same s811
    clear hl8 hr8 hv8 e8 T8 d8 h1 h2 e10 e9 e89 s11 s810 s10
    have gsL := gr_size L
    have gsR := gr_size R
    have ndtL : (gr L).pre.Nodup := (gr_perm L).nodup_iff.mpr ndL
    have ndtR : (gr R).pre.Nodup := (gr_perm R).nodup_iff.mpr ndR
    have nL := num_lt (t := gr L) (by omega)
    have nR := num_lt (t := gr R) (by omega)
    have cL := cho_le (gr R).size (gr L).size
    have cF := fac15 (show (gr R).size + (gr L).size ≤ 15 by omega)
    have hnum : ((gr zs).num : Int) = ((gr L).num : Int) * ((gr R).num : Int) * ((cho ((gr R).size + (gr L).size) (gr L).size : Nat) : Int) := by
      have e : (gr zs).num = (gr L).num * (gr R).num * cho ((gr R).size + (gr L).size) (gr L).size := by
        rw [hgr, Nat.add_comm (gr R).size]
        rfl
      rw [e, Int.natCast_mul, Int.natCast_mul]
    have gne : gr zs ≠ .nil := by rw [hgr]; intro z; cases z
    refine ⟨_, rfl, _, gr zs, rfl, hv11, by omega, fun H12 s12 => ?_⟩
    refine ⟨_, rfl, _, gr L, rfl, hl11.same s12, by omega, fun H13 s13 => ?_⟩
    refine ⟨_, rfl, _, gr R, rfl, (hr11.same s12).same s13, by omega, fun H14 s14 => ?_⟩
    have s1114 := (s12.trans s13).trans s14
    have hl14 := hl11.same s1114
    have hr14 := hr11.same s1114
    have hv14 := hv11.same s1114
    have d14 := d11.same s1114
    have T14 := T11.ext s1114
    refine ⟨_, _, rfl, rfl, .inl ⟨by omega, by omega⟩, _, rfl, _, gr L, rfl, hl14, by omega, _, rfl, _, gr R, rfl, hr14, by omega, (gr L).size, (gr R).size, rfl, by omega, _, _, rfl, rfl, .inr ⟨by omega, by omega⟩, rfl, _, rfl, iteNS (congrArg V.int hnum) ?_⟩
    clear hl11 hr11 hv11 d11 T11
    refine ⟨4, rfl, by decide, by decide, ?_⟩
    refine for_range (lo := 0) (n := 4) (fun k σ H' => ∃ p8 p10 p11 p12, σ = [some (.ref a), some (.ref D.dk), some (.int (0 + (i : Int))), some (.str (tx zs)), some (.ref a'), some l, some (.str (ch x)), some r, p8, some (.ref pp), p10, p11, p12] ∧ DeckOk H' D ∧ LamX.Tabs T H' ∧ ExtD D H14 H') ⟨_, _, _, _, rfl, d14, T14, ExtD.refl D H14⟩ (fun k σ H15 hk hp => ?_) (fun σ H15 hp => ?_)
    · obtain ⟨p8, p10, p11, p12, rfl, d15, T15, x15⟩ := hp
      have kT := x15.keepT d14
      refine ⟨_, rfl, _, rfl, _, rfl, _, rfl, D, l, gr L, rfl, d15, hl14.keep kT, ndtL, by omega, T15, fun w1 Ha da xa Ta va1 wl1 => ?_⟩
      have ka := kT.trans (xa.keepT d15)
      refine ⟨_, rfl, _, rfl, D, r, gr R, rfl, da, hr14.keep ka, ndtR, by omega, Ta, fun w2 Hb db xb Tb va2 wl2 => ?_⟩
      have kb := ka.trans (xb.keepT da)
      refine ⟨D, w1, w2, rfl, db, by omega, fun w3 Hc dc sc mr => ?_⟩
      have kc := kb.trans (sc.keepT db)
      have Tc := tabsD db sc Tb
      have va3 := mrg_valid mr (ft_fg ndtL) (ft_fg ndtR) va1 va2
      have va : Valid (ft (gr zs)) (x :: w3) := by
        rw [hgr, ft_node]
        exact .cons (by rw [steps_one]; exact List.mem_singleton.mpr rfl) (by rw [kids_ft]; exact va3)
      have fg := ft_fg ndt
      have wlen := va.len fg
      rw [hooks_ft, B.hooks_len, gsz] at wlen
      have wl3 : w3.length + 1 = zs.length := wlen
      have wnd : (x :: w3).Nodup := by
        have := va.mem fg
        rw [prel_ft] at this
        exact this.nodup_iff.mpr ndt
      refine ⟨_, _, rfl, rfl, small (by rw [tx_len]; show 1 + _ ≤ 1000; omega), ?_⟩
      rw [ch_app]
      refine ⟨_, rfl, x :: w3, rfl, wnd, by rw [wlen]; exact z12, fun v3 Hd sd h3 => ?_⟩
      rw [valid_gr _ bst ndt _ va] at h3
      have hvd := (hv14.keep kc).same sd
      have gd : (gr zs).deep ≤ 12 := Nat.le_trans (gr zs).deep_le (by rw [gsz]; exact z12)
      refine ⟨_, rfl, _, _, (gr zs).data, rfl, h3.dp, hvd.dp, by rw [B.data_depth]; omega, B.nar_data _, fun He se => ?_⟩
      refine ⟨_, rfl, iteF ?_⟩
      have sde := sd.trans se
      have hve := hvd.same se
      refine ⟨_, rfl, _, rfl, _, rfl, _, gr zs, x :: w3, rfl, hve, gne, ndt, by omega, va, Tc.ext sde, fun kk Hf xf Tf ix => ?_⟩
      have kk1 := idx_lt ix fg
      rw [togR_ft] at kk1
      refine ⟨_, gr zs, kk, rfl, hve.keep (extN_keepT xf), gne, ndt, by omega, kk1, Tf, fun w4 Hg xg Tg nm wl4 => ?_⟩
      have ew := idx_num ix fg nm
      subst ew
      refine ⟨_, rfl, rfl, _, rfl, iteNS rfl ?_⟩
      refine ⟨_, _, _, _, rfl, ((dc.same sde).ext xf).ext xg, Tg, ?_⟩
      exact (((((x15.trans xa).trans xb).trans (ExtD.ofD sc)).trans (ExtD.ofS sde)).trans (ExtD.of xf)).trans (ExtD.of xg)
    · obtain ⟨p8, p10, p11, p12, rfl, d15, T15, x15⟩ := hp
      exact ⟨_, _, _, _, _, _, _, _, _, _, _, rfl, d15, T15⟩
  · exact q H2
end
/-! ### what the top has left -/
theorem all_mk {l : PySem.W.OpenLaw} {w : World} {K : PySem.W.Frag} {h : Heap} {mg : Str → Option Value} {fa f1 f2 f3 f4 f5 f6 f7 f8 f9 f10 f11 f12 f13 f14 f15 f16 f17 f18 f19 f20 f21 f22 f23 f24 f25 f26 f27 f28  : Addr} (X : K.In h) (G : h.Ns mainGlobals mg) (hfa : mg "law" = some (.ref fa))
    {od1 an1 od2 an2 od3 an3 od4 an4 od5 an5 od6 an6 od7 an7 od8 an8 od9 an9 od10 an10 od11 an11 od12 an12 od13 an13 od14 an14 od15 an15 od16 an16 od17 an17 od18 an18 od19 an19 od20 an20 od21 an21 od22 an22 od23 an23 od24 an24 od25 an25 od26 an26 od27 an27 od28 an28 : Option Addr} {sl1 sl2 sl3 sl4 sl5 sl6 sl7 sl8 sl9 sl10 sl11 sl12 sl13 sl14 sl15 sl16 sl17 sl18 sl19 sl20 sl21 sl22 sl23 sl24 sl25 sl26 sl27 sl28 : Array (Option Value)}
    {oc1 kV1 dc1 pm1 cd1 ct1 oc2 kV2 dc2 pm2 cd2 ct2 oc3 kV3 dc3 pm3 cd3 ct3 oc4 kV4 dc4 pm4 cd4 ct4 oc5 kV5 dc5 pm5 cd5 ct5 oc6 kV6 dc6 pm6 cd6 ct6 oc7 kV7 dc7 pm7 cd7 ct7 oc8 kV8 dc8 pm8 cd8 ct8 oc9 kV9 dc9 pm9 cd9 ct9 oc10 kV10 dc10 pm10 cd10 ct10 oc11 kV11 dc11 pm11 cd11 ct11 oc12 kV12 dc12 pm12 cd12 ct12 oc13 kV13 dc13 pm13 cd13 ct13 oc14 kV14 dc14 pm14 cd14 ct14 oc15 kV15 dc15 pm15 cd15 ct15 oc16 kV16 dc16 pm16 cd16 ct16 oc17 kV17 dc17 pm17 cd17 ct17 oc18 kV18 dc18 pm18 cd18 ct18 oc19 kV19 dc19 pm19 cd19 ct19 oc20 kV20 dc20 pm20 cd20 ct20 oc21 kV21 dc21 pm21 cd21 ct21 oc22 kV22 dc22 pm22 cd22 ct22 oc23 kV23 dc23 pm23 cd23 ct23 oc24 kV24 dc24 pm24 cd24 ct24 oc25 kV25 dc25 pm25 cd25 ct25 oc26 kV26 dc26 pm26 cd26 ct26 oc27 kV27 dc27 pm27 cd27 ct27 oc28 kV28 dc28 pm28 cd28 ct28 : Value} {t1 : Tok}
    {aK : Addr} {oK : Option Addr} {tK1 tK2 tK3 tK4 : Tok} {nK : Nat} {sK : Array (Option Value)} {cT PT : Addr} {ocT : Value} {odT : Option Addr} {vsT : Array Value} {slT : Array (Option Value)}
    (aKn : PySem.W.nsIn K mainGlobals "KINDS" = some (some (.ref aK)))
    (aKl : K.lookup aK = some ⟨.type "tuple", oK, .seq #[.str "first" tK1, .str "between" tK2, .str "last" tK3, .str "level" tK4] nK, sK⟩)
    (eCd : cd14 = .ref cT)
    (eLk : K.lookup cT = some ⟨ocT, odT, .fields vsT, slT⟩)
    (eP : vsT[11]? = some (.ref PT))
    (eHd : PySem.W.codeHdIn K cT PT = true)
    (eNo : K.lookup PT = none)
    (eNe : mainGlobals ≠ PT)
    (eTs : h.get? PT = some { cls := .none, data := .fields #[] })
    (a1 : PySem.W.nsIn K mainGlobals "is_whole_number" = some (some (.ref f1)))
    (l1 : K.lookup f1 = some ⟨oc1, od1, .func (PySem.W.fnOf "is_whole_number" "is_whole_number" (defArgs s_is_whole_number) (defBody s_is_whole_number) (defScope s_is_whole_number) .none kV1 dc1 pm1 an1 cd1 ct1), sl1⟩)
    (c1 : PySem.W.codeIn K cd1 "is_whole_number" = true)
    (k1 : PySem.W.keepIn K (.ref f1) = true)
    (a2 : PySem.W.nsIn K mainGlobals "is_index" = some (some (.ref f2)))
    (l2 : K.lookup f2 = some ⟨oc2, od2, .func (PySem.W.fnOf "is_index" "is_index" (defArgs s_is_index) (defBody s_is_index) (defScope s_is_index) .none kV2 dc2 pm2 an2 cd2 ct2), sl2⟩)
    (c2 : PySem.W.codeIn K cd2 "is_index" = true)
    (k2 : PySem.W.keepIn K (.ref f2) = true)
    (a3 : PySem.W.nsIn K mainGlobals "size_of" = some (some (.ref f3)))
    (l3 : K.lookup f3 = some ⟨oc3, od3, .func (PySem.W.fnOf "size_of" "size_of" (defArgs s_size_of) (defBody s_size_of) (defScope s_size_of) .none kV3 dc3 pm3 an3 cd3 ct3), sl3⟩)
    (c3 : PySem.W.codeIn K cd3 "size_of" = true)
    (k3 : PySem.W.keepIn K (.ref f3) = true)
    (a4 : PySem.W.nsIn K mainGlobals "is_kind" = some (some (.ref f4)))
    (l4 : K.lookup f4 = some ⟨oc4, od4, .func (PySem.W.fnOf "is_kind" "is_kind" (defArgs s_is_kind) (defBody s_is_kind) (defScope s_is_kind) .none kV4 dc4 pm4 an4 cd4 ct4), sl4⟩)
    (c4 : PySem.W.codeIn K cd4 "is_kind" = true)
    (k4 : PySem.W.keepIn K (.ref f4) = true)
    (a5 : PySem.W.nsIn K mainGlobals "ordered_steps" = some (some (.ref f5)))
    (l5 : K.lookup f5 = some ⟨oc5, od5, .func (PySem.W.fnOf "ordered_steps" "ordered_steps" (defArgs s_ordered_steps) (defBody s_ordered_steps) (defScope s_ordered_steps) .none kV5 dc5 pm5 an5 cd5 ct5), sl5⟩)
    (c5 : PySem.W.codeIn K cd5 "ordered_steps" = true)
    (k5 : PySem.W.keepIn K (.ref f5) = true)
    (a6 : PySem.W.nsIn K mainGlobals "deep_steps" = some (some (.ref f6)))
    (l6 : K.lookup f6 = some ⟨oc6, od6, .func (PySem.W.fnOf "deep_steps" "deep_steps" (defArgs s_deep_steps) (defBody s_deep_steps) (defScope s_deep_steps) .none kV6 dc6 pm6 an6 cd6 ct6), sl6⟩)
    (c6 : PySem.W.codeIn K cd6 "deep_steps" = true)
    (k6 : PySem.W.keepIn K (.ref f6) = true)
    (a7 : PySem.W.nsIn K mainGlobals "walk" = some (some (.ref f7)))
    (l7 : K.lookup f7 = some ⟨oc7, od7, .func (PySem.W.fnOf "walk" "walk" (defArgs s_walk) (defBody s_walk) (defScope s_walk) .none kV7 dc7 pm7 an7 cd7 ct7), sl7⟩)
    (c7 : PySem.W.codeIn K cd7 "walk" = true)
    (k7 : PySem.W.keepIn K (.ref f7) = true)
    (a8 : PySem.W.nsIn K mainGlobals "with_letter" = some (some (.ref f8)))
    (l8 : K.lookup f8 = some ⟨oc8, od8, .func (PySem.W.fnOf "with_letter" "with_letter" (defArgs s_with_letter) (defBody s_with_letter) (defScope s_with_letter) .none kV8 dc8 pm8 an8 cd8 ct8), sl8⟩)
    (c8 : PySem.W.codeIn K cd8 "with_letter" = true)
    (k8 : PySem.W.keepIn K (.ref f8) = true)
    (a9 : PySem.W.nsIn K mainGlobals "inserted" = some (some (.ref f9)))
    (l9 : K.lookup f9 = some ⟨oc9, od9, .func (PySem.W.fnOf "inserted" "inserted" (defArgs s_inserted) (defBody s_inserted) (defScope s_inserted) .none kV9 dc9 pm9 an9 cd9 ct9), sl9⟩)
    (c9 : PySem.W.codeIn K cd9 "inserted" = true)
    (k9 : PySem.W.keepIn K (.ref f9) = true)
    (a10 : PySem.W.nsIn K mainGlobals "tree_of" = some (some (.ref f10)))
    (l10 : K.lookup f10 = some ⟨oc10, od10, .func (PySem.W.fnOf "tree_of" "tree_of" (defArgs s_tree_of) (defBody s_tree_of) (defScope s_tree_of) .none kV10 dc10 pm10 an10 cd10 ct10), sl10⟩)
    (c10 : PySem.W.codeIn K cd10 "tree_of" = true)
    (k10 : PySem.W.keepIn K (.ref f10) = true)
    (a11 : PySem.W.nsIn K mainGlobals "sizes_in" = some (some (.ref f11)))
    (l11 : K.lookup f11 = some ⟨oc11, od11, .func (PySem.W.fnOf "sizes_in" "sizes_in" (defArgs s_sizes_in) (defBody s_sizes_in) (defScope s_sizes_in) .none kV11 dc11 pm11 an11 cd11 ct11), sl11⟩)
    (c11 : PySem.W.codeIn K cd11 "sizes_in" = true)
    (k11 : PySem.W.keepIn K (.ref f11) = true)
    (a12 : PySem.W.nsIn K mainGlobals "count_together" = some (some (.ref f12)))
    (l12 : K.lookup f12 = some ⟨oc12, od12, .func (PySem.W.fnOf "count_together" "count_together" (defArgs s_count_together) (defBody s_count_together) (defScope s_count_together) .none kV12 dc12 pm12 an12 cd12 ct12), sl12⟩)
    (c12 : PySem.W.codeIn K cd12 "count_together" = true)
    (k12 : PySem.W.keepIn K (.ref f12) = true)
    (a13 : PySem.W.nsIn K mainGlobals "count_orders" = some (some (.ref f13)))
    (l13 : K.lookup f13 = some ⟨oc13, od13, .func (PySem.W.fnOf "count_orders" "count_orders" (defArgs s_count_orders) (defBody s_count_orders) (defScope s_count_orders) .none kV13 dc13 pm13 an13 cd13 ct13), sl13⟩)
    (c13 : PySem.W.codeIn K cd13 "count_orders" = true)
    (k13 : PySem.W.keepIn K (.ref f13) = true)
    (a14 : PySem.W.nsIn K mainGlobals "next_steps" = some (some (.ref f14)))
    (l14 : K.lookup f14 = some ⟨oc14, od14, .func (PySem.W.fnOf "next_steps" "next_steps" (defArgs s_next_steps) (defBody s_next_steps) (defScope s_next_steps) .none kV14 dc14 pm14 an14 cd14 ct14), sl14⟩)
    (c14 : PySem.W.codeIn K cd14 "next_steps" = true)
    (k14 : PySem.W.keepIn K (.ref f14) = true)
    (a15 : PySem.W.nsIn K mainGlobals "numbered_order" = some (some (.ref f15)))
    (l15 : K.lookup f15 = some ⟨oc15, od15, .func (PySem.W.fnOf "numbered_order" "numbered_order" (defArgs s_numbered_order) (defBody s_numbered_order) (defScope s_numbered_order) .none kV15 dc15 pm15 an15 cd15 ct15), sl15⟩)
    (c15 : PySem.W.codeIn K cd15 "numbered_order" = true)
    (k15 : PySem.W.keepIn K (.ref f15) = true)
    (a16 : PySem.W.nsIn K mainGlobals "order_at" = some (some (.ref f16)))
    (l16 : K.lookup f16 = some ⟨oc16, od16, .func (PySem.W.fnOf "order_at" "order_at" (defArgs s_order_at) (defBody s_order_at) (defScope s_order_at) .none kV16 dc16 pm16 an16 cd16 ct16), sl16⟩)
    (c16 : PySem.W.codeIn K cd16 "order_at" = true)
    (k16 : PySem.W.keepIn K (.ref f16) = true)
    (a17 : PySem.W.nsIn K mainGlobals "order_index" = some (some (.ref f17)))
    (l17 : K.lookup f17 = some ⟨oc17, od17, .func (PySem.W.fnOf "order_index" "order_index" (defArgs s_order_index) (defBody s_order_index) (defScope s_order_index) .none kV17 dc17 pm17 an17 cd17 ct17), sl17⟩)
    (c17 : PySem.W.codeIn K cd17 "order_index" = true)
    (k17 : PySem.W.keepIn K (.ref f17) = true)
    (a18 : PySem.W.nsIn K mainGlobals "_law_begin" = some (some (.ref f18)))
    (l18 : K.lookup f18 = some ⟨oc18, od18, .func (PySem.W.fnOf "_law_begin" "_law_begin" (defArgs s__law_begin) (defBody s__law_begin) (defScope s__law_begin) .none kV18 dc18 pm18 an18 cd18 ct18), sl18⟩)
    (c18 : PySem.W.codeIn K cd18 "_law_begin" = true)
    (k18 : PySem.W.keepIn K (.ref f18) = true)
    (a19 : PySem.W.nsIn K mainGlobals "_law_next" = some (some (.ref f19)))
    (l19 : K.lookup f19 = some ⟨oc19, od19, .func (PySem.W.fnOf "_law_next" "_law_next" (defArgs s__law_next) (defBody s__law_next) (defScope s__law_next) .none kV19 dc19 pm19 an19 cd19 ct19), sl19⟩)
    (c19 : PySem.W.codeIn K cd19 "_law_next" = true)
    (k19 : PySem.W.keepIn K (.ref f19) = true)
    (a20 : PySem.W.nsIn K mainGlobals "_law_same" = some (some (.ref f20)))
    (l20 : K.lookup f20 = some ⟨oc20, od20, .func (PySem.W.fnOf "_law_same" "_law_same" (defArgs s__law_same) (defBody s__law_same) (defScope s__law_same) .none kV20 dc20 pm20 an20 cd20 ct20), sl20⟩)
    (c20 : PySem.W.codeIn K cd20 "_law_same" = true)
    (k20 : PySem.W.keepIn K (.ref f20) = true)
    (a21 : PySem.W.nsIn K mainGlobals "_law_mixed" = some (some (.ref f21)))
    (l21 : K.lookup f21 = some ⟨oc21, od21, .func (PySem.W.fnOf "_law_mixed" "_law_mixed" (defArgs s__law_mixed) (defBody s__law_mixed) (defScope s__law_mixed) .none kV21 dc21 pm21 an21 cd21 ct21), sl21⟩)
    (c21 : PySem.W.codeIn K cd21 "_law_mixed" = true)
    (k21 : PySem.W.keepIn K (.ref f21) = true)
    (a22 : PySem.W.nsIn K mainGlobals "_law_free" = some (some (.ref f22)))
    (l22 : K.lookup f22 = some ⟨oc22, od22, .func (PySem.W.fnOf "_law_free" "_law_free" (defArgs s__law_free) (defBody s__law_free) (defScope s__law_free) .none kV22 dc22 pm22 an22 cd22 ct22), sl22⟩)
    (c22 : PySem.W.codeIn K cd22 "_law_free" = true)
    (k22 : PySem.W.keepIn K (.ref f22) = true)
    (a23 : PySem.W.nsIn K mainGlobals "_law_order" = some (some (.ref f23)))
    (l23 : K.lookup f23 = some ⟨oc23, od23, .func (PySem.W.fnOf "_law_order" "_law_order" (defArgs s__law_order) (defBody s__law_order) (defScope s__law_order) .none kV23 dc23 pm23 an23 cd23 ct23), sl23⟩)
    (c23 : PySem.W.codeIn K cd23 "_law_order" = true)
    (k23 : PySem.W.keepIn K (.ref f23) = true)
    (a24 : PySem.W.nsIn K mainGlobals "_law_ways" = some (some (.ref f24)))
    (l24 : K.lookup f24 = some ⟨oc24, od24, .func (PySem.W.fnOf "_law_ways" "_law_ways" (defArgs s__law_ways) (defBody s__law_ways) (defScope s__law_ways) .none kV24 dc24 pm24 an24 cd24 ct24), sl24⟩)
    (c24 : PySem.W.codeIn K cd24 "_law_ways" = true)
    (k24 : PySem.W.keepIn K (.ref f24) = true)
    (a25 : PySem.W.nsIn K mainGlobals "_law_merged" = some (some (.ref f25)))
    (l25 : K.lookup f25 = some ⟨oc25, od25, .func (PySem.W.fnOf "_law_merged" "_law_merged" (defArgs s__law_merged) (defBody s__law_merged) (defScope s__law_merged) .none kV25 dc25 pm25 an25 cd25 ct25), sl25⟩)
    (c25 : PySem.W.codeIn K cd25 "_law_merged" = true)
    (k25 : PySem.W.keepIn K (.ref f25) = true)
    (a26 : PySem.W.nsIn K mainGlobals "_law_drawn_order" = some (some (.ref f26)))
    (l26 : K.lookup f26 = some ⟨oc26, od26, .func (PySem.W.fnOf "_law_drawn_order" "_law_drawn_order" (defArgs s__law_drawn_order) (defBody s__law_drawn_order) (defScope s__law_drawn_order) .none kV26 dc26 pm26 an26 cd26 ct26), sl26⟩)
    (c26 : PySem.W.codeIn K cd26 "_law_drawn_order" = true)
    (k26 : PySem.W.keepIn K (.ref f26) = true)
    (a27 : PySem.W.nsIn K mainGlobals "_law_count" = some (some (.ref f27)))
    (l27 : K.lookup f27 = some ⟨oc27, od27, .func (PySem.W.fnOf "_law_count" "_law_count" (defArgs s__law_count) (defBody s__law_count) (defScope s__law_count) .none kV27 dc27 pm27 an27 cd27 ct27), sl27⟩)
    (c27 : PySem.W.codeIn K cd27 "_law_count" = true)
    (k27 : PySem.W.keepIn K (.ref f27) = true)
    (a28 : PySem.W.nsIn K mainGlobals "law" = some (some (.ref f28)))
    (l28 : K.lookup f28 = some ⟨oc28, od28, .func (PySem.W.fnOf "law" "law" (defArgs s_law) (defBody s_law) (defScope s_law) .none kV28 dc28 pm28 an28 cd28 ct28), sl28⟩)
    (c28 : PySem.W.codeIn K cd28 "law" = true)
    (k28 : PySem.W.keepIn K (.ref f28) = true)
    (z1 : PySem.W.nsIn K mainGlobals "zip" = some none)
    (z2 : PySem.W.nsIn K mainGlobals "all" = some none)
    (z3 : PySem.W.nsIn K mainGlobals "repr" = some none)
    (z4 : PySem.W.nsIn K mainGlobals "len" = some none)
    (z5 : PySem.W.nsIn K mainGlobals "isinstance" = some none)
    (z6 : PySem.W.nsIn K mainGlobals "list" = some none)
    (z7 : PySem.W.nsIn K mainGlobals "tuple" = some none)
    (z8 : PySem.W.nsIn K mainGlobals "str" = some none)
    (z9 : PySem.W.nsIn K mainGlobals "int" = some none)
    (z10 : PySem.W.nsIn K mainGlobals "bool" = some none)
    (z11 : PySem.W.nsIn K mainGlobals "dict" = some none)
    (z12 : PySem.W.nsIn K mainGlobals "range" = some none)
    (z13 : PySem.W.nsIn K mainGlobals "enumerate" = some none)
    (z14 : PySem.W.nsIn K mainGlobals "sum" = some none)
    (z15 : PySem.W.nsIn K mainGlobals "sorted" = some none)
    (z16 : PySem.W.nsIn K mainGlobals "abs" = some none)
    (z17 : PySem.W.nsIn K mainGlobals "min" = some none)
    (z18 : PySem.W.nsIn K mainGlobals "max" = some none)
    (v1 : PySem.W.nsIn K mainGlobals "MAX_NODES" = some (some (.int 12 t1)))
    : LamX.LawAtS l w K CX0 66 63 "_law_script" mg fa h := by
  have e := hfa.symm.trans (PySem.W.mg_of X G a28)
  cases e
  refine ⟨PySem.W.fnOf "law" "law" (defArgs s_law) (defBody s_law) (defScope s_law) .none kV28 dc28 pm28 an28 cd28 ct28, [(cT, PT)], spLaw K [(PT, ("next_steps.<locals>.<lambda>" : Str))], fun p hp => ?_, fun p hp => ?_, fun p hp => ?_, fun s u => .of_eq rfl, fun H a ns hn _ hT hS => ⟨a, ns, rfl, hS, hn, fun p hp => ?_, fun _ => rfl⟩, fun base inB gl TB0 => ?_⟩
  · rw [List.mem_singleton.mp hp]; exact eTs
  · rw [List.mem_singleton.mp hp]; exact eNo
  · rw [List.mem_singleton.mp hp]; exact PySem.W.codeHd_of_K X eHd
  · rw [List.mem_singleton.mp hp]; exact LamX.TabS.nil (hT (cT, PT) (List.mem_singleton.mpr rfl))
  have TB := TB0 (cT, PT) (List.mem_singleton.mpr rfl)
  have F1 := fun_mk (st := s_is_whole_number) l1 c1 k1
  have g1 := PySem.W.mg_of X G a1
  have F2 := fun_mk (st := s_is_index) l2 c2 k2
  have g2 := PySem.W.mg_of X G a2
  have F3 := fun_mk (st := s_size_of) l3 c3 k3
  have g3 := PySem.W.mg_of X G a3
  have F4 := fun_mk (st := s_is_kind) l4 c4 k4
  have g4 := PySem.W.mg_of X G a4
  have F5 := fun_mk (st := s_ordered_steps) l5 c5 k5
  have g5 := PySem.W.mg_of X G a5
  have F6 := fun_mk (st := s_deep_steps) l6 c6 k6
  have g6 := PySem.W.mg_of X G a6
  have F7 := fun_mk (st := s_walk) l7 c7 k7
  have g7 := PySem.W.mg_of X G a7
  have F8 := fun_mk (st := s_with_letter) l8 c8 k8
  have g8 := PySem.W.mg_of X G a8
  have F9 := fun_mk (st := s_inserted) l9 c9 k9
  have g9 := PySem.W.mg_of X G a9
  have F10 := fun_mk (st := s_tree_of) l10 c10 k10
  have g10 := PySem.W.mg_of X G a10
  have F11 := fun_mk (st := s_sizes_in) l11 c11 k11
  have g11 := PySem.W.mg_of X G a11
  have F12 := fun_mk (st := s_count_together) l12 c12 k12
  have g12 := PySem.W.mg_of X G a12
  have F13 := fun_mk (st := s_count_orders) l13 c13 k13
  have g13 := PySem.W.mg_of X G a13
  have F14 := fun_mk (st := s_next_steps) l14 c14 k14
  have g14 := PySem.W.mg_of X G a14
  have F15 := fun_mk (st := s_numbered_order) l15 c15 k15
  have g15 := PySem.W.mg_of X G a15
  have F16 := fun_mk (st := s_order_at) l16 c16 k16
  have g16 := PySem.W.mg_of X G a16
  have F17 := fun_mk (st := s_order_index) l17 c17 k17
  have g17 := PySem.W.mg_of X G a17
  have F18 := fun_mk (st := s__law_begin) l18 c18 k18
  have g18 := PySem.W.mg_of X G a18
  have F19 := fun_mk (st := s__law_next) l19 c19 k19
  have g19 := PySem.W.mg_of X G a19
  have F20 := fun_mk (st := s__law_same) l20 c20 k20
  have g20 := PySem.W.mg_of X G a20
  have F21 := fun_mk (st := s__law_mixed) l21 c21 k21
  have g21 := PySem.W.mg_of X G a21
  have F22 := fun_mk (st := s__law_free) l22 c22 k22
  have g22 := PySem.W.mg_of X G a22
  have F23 := fun_mk (st := s__law_order) l23 c23 k23
  have g23 := PySem.W.mg_of X G a23
  have F24 := fun_mk (st := s__law_ways) l24 c24 k24
  have g24 := PySem.W.mg_of X G a24
  have F25 := fun_mk (st := s__law_merged) l25 c25 k25
  have g25 := PySem.W.mg_of X G a25
  have F26 := fun_mk (st := s__law_drawn_order) l26 c26 k26
  have g26 := PySem.W.mg_of X G a26
  have F27 := fun_mk (st := s__law_count) l27 c27 k27
  have g27 := PySem.W.mg_of X G a27
  have F28 := fun_mk (st := s_law) l28 c28 k28
  have m_zip := PySem.W.mg_none_of X G z1
  have m_all := PySem.W.mg_none_of X G z2
  have m_repr := PySem.W.mg_none_of X G z3
  have m_len := PySem.W.mg_none_of X G z4
  have m_isinstance := PySem.W.mg_none_of X G z5
  have m_list := PySem.W.mg_none_of X G z6
  have m_tuple := PySem.W.mg_none_of X G z7
  have m_str := PySem.W.mg_none_of X G z8
  have m_int := PySem.W.mg_none_of X G z9
  have m_bool := PySem.W.mg_none_of X G z10
  have m_dict := PySem.W.mg_none_of X G z11
  have m_range := PySem.W.mg_none_of X G z12
  have m_enumerate := PySem.W.mg_none_of X G z13
  have m_sum := PySem.W.mg_none_of X G z14
  have m_sorted := PySem.W.mg_none_of X G z15
  have m_abs := PySem.W.mg_none_of X G z16
  have m_min := PySem.W.mg_none_of X G z17
  have m_max := PySem.W.mg_none_of X G z18
  have m1 := PySem.W.mg_of X G v1
  have b1 := F1.binds (ps := ["value"]) fun _ _ _ _ _ _ us hl => match us, hl with | [_], _ => rfl
  have b2 := F2.binds (ps := ["value", "many"]) fun _ _ _ _ _ _ us hl => match us, hl with | [_, _], _ => rfl
  have b3 := F3.binds (ps := ["tree"]) fun _ _ _ _ _ _ us hl => match us, hl with | [_], _ => rfl
  have b4 := F4.binds (ps := ["value"]) fun _ _ _ _ _ _ us hl => match us, hl with | [_], _ => rfl
  have b5 := F5.binds (ps := ["tree", "kind"]) fun _ _ _ _ _ _ us hl => match us, hl with | [_, _], _ => rfl
  have b6 := F6.binds (ps := ["tree", "kind", "path"]) fun _ _ _ _ _ _ us hl => match us, hl with | [_, _, _], _ => rfl
  have b7 := F7.binds (ps := ["tree", "kind"]) fun _ _ _ _ _ _ us hl => match us, hl with | [_, _], _ => rfl
  have b8 := F8.binds (ps := ["tree", "letter"]) fun _ _ _ _ _ _ us hl => match us, hl with | [_, _], _ => rfl
  have b9 := F9.binds (ps := ["tree", "letter"]) fun _ _ _ _ _ _ us hl => match us, hl with | [_, _], _ => rfl
  have b10 := F10.binds (ps := ["order"]) fun _ _ _ _ _ _ us hl => match us, hl with | [_], _ => rfl
  have b11 := F11.binds (ps := ["tree"]) fun _ _ _ _ _ _ us hl => match us, hl with | [_], _ => rfl
  have b12 := F12.binds (ps := ["parts"]) fun _ _ _ _ _ _ us hl => match us, hl with | [_], _ => rfl
  have b13 := F13.binds (ps := ["tree"]) fun _ _ _ _ _ _ us hl => match us, hl with | [_], _ => rfl
  have b14 := F14.binds (ps := ["parts"]) fun _ _ _ _ _ _ us hl => match us, hl with | [_], _ => rfl
  have b15 := F15.binds (ps := ["parts", "index"]) fun _ _ _ _ _ _ us hl => match us, hl with | [_, _], _ => rfl
  have b16 := F16.binds (ps := ["tree", "index"]) fun _ _ _ _ _ _ us hl => match us, hl with | [_, _], _ => rfl
  have b17 := F17.binds (ps := ["tree", "value"]) fun _ _ _ _ _ _ us hl => match us, hl with | [_, _], _ => rfl
  have b18 := F18.binds (ps := ["_law_script"]) fun _ _ _ _ _ _ us hl => match us, hl with | [_], _ => rfl
  have b19 := F19.binds (ps := ["_law_deck", "_law_many"]) fun _ _ _ _ _ _ us hl => match us, hl with | [_, _], _ => rfl
  have b20 := F20.binds (ps := ["_law_found", "_law_due"]) fun _ _ _ _ _ _ us hl => match us, hl with | [_, _], _ => rfl
  have b21 := F21.binds (ps := ["_law_deck", "_law_items"]) fun _ _ _ _ _ _ us hl => match us, hl with | [_, _], _ => rfl
  have b22 := F22.binds (ps := ["_law_deck", "_law_letters"]) fun _ _ _ _ _ _ us hl => match us, hl with | [_, _], _ => rfl
  have b23 := F23.binds (ps := ["_law_deck", "_law_low", "_law_high"]) fun _ _ _ _ _ _ us hl => match us, hl with | [_, _, _], _ => rfl
  have b24 := F24.binds (ps := ["_law_one", "_law_other"]) fun _ _ _ _ _ _ us hl => match us, hl with | [_, _], _ => rfl
  have b25 := F25.binds (ps := ["_law_deck", "_law_one", "_law_other"]) fun _ _ _ _ _ _ us hl => match us, hl with | [_, _, _], _ => rfl
  have b26 := F26.binds (ps := ["_law_deck", "_law_tree"]) fun _ _ _ _ _ _ us hl => match us, hl with | [_, _], _ => rfl
  have b27 := F27.binds (ps := ["_law_tree"]) fun _ _ _ _ _ _ us hl => match us, hl with | [_], _ => rfl
  have M : Mgs mg := ⟨m_zip, m_all, m_repr, m_len, m_isinstance, m_list, m_tuple, m_str, m_int, m_bool, m_dict, m_range, m_enumerate, m_sum, m_sorted, m_abs, m_min, m_max⟩
  have Kk : KindsT K mg aK := ⟨PySem.W.mg_of X G aKn, fun H => .inr ⟨_, _, _, aKl, rfl, rfl, (by show 4 ≤ sizeLine; decide), .cons ⟨_, rfl⟩ (.cons ⟨_, rfl⟩ (.cons ⟨_, rfl⟩ (.cons ⟨_, rfl⟩ .nil)))⟩⟩
  have Dis_whole_number : Df l.prog w K mg base 1 "is_whole_number" ["value"] spWhole := ⟨f1, _, ok_whole (k := 0) F1 M, b1, k1, g1⟩
  have Dis_index : Df l.prog w K mg base 2 "is_index" ["value", "many"] spIndex := ⟨f2, _, ok_index (k := 0) F2 Dis_whole_number, b2, k2, g2⟩
  have Dsize_of : Df l.prog w K mg base 60 "size_of" ["tree"] (fun vs H Q _ => ∃ (v : V) (t : B), vs = [v] ∧ BAt H v t ∧ t.size < 60 ∧ Q (.int (t.size : Int)) H) := ⟨f3, _, ok_size F3 b3 g3 60, b3, k3, g3⟩
  have Dis_kind : Df l.prog w K mg base 1 "is_kind" ["value"] spKind := ⟨f4, _, ok_kind (k := 0) F4 M Kk, b4, k4, g4⟩
  have Ddeep_steps : Df l.prog w K mg base 60 "deep_steps" ["tree", "kind", "path"] (spDeep 60) := ⟨f6, _, ok_deep F6 b6 g6 60, b6, k6, g6⟩
  have Dordered_steps : Df l.prog w K mg base 61 "ordered_steps" ["tree", "kind"] spSteps := ⟨f5, _, ok_steps F5 Dis_kind Ddeep_steps, b5, k5, g5⟩
  have Dwalk : Df l.prog w K mg base 62 "walk" ["tree", "kind"] spWalk := ⟨f7, _, ok_walk F7 Dordered_steps, b7, k7, g7⟩
  have Dwith_letter : Df l.prog w K mg base 60 "with_letter" ["tree", "letter"] (spPut 60) := ⟨f8, _, ok_with F8 b8 g8 60, b8, k8, g8⟩
  have Dinserted : Df l.prog w K mg base 63 "inserted" ["tree", "letter"] spIns := ⟨f9, _, ok_inserted F9 m1 Dwalk Dsize_of Dwith_letter, b9, k9, g9⟩
  have Dtree_of : Df l.prog w K mg base 64 "tree_of" ["order"] spTreeOf := ⟨f10, _, ok_tree_of F10 Dinserted, b10, k10, g10⟩
  have Dsizes_in : Df l.prog w K mg base 20 "sizes_in" ["tree"] (spSizesIn 20) := ⟨f11, _, ok_sizesIn F11 M b11 g11 20, b11, k11, g11⟩
  have Dcount_together : Df l.prog w K mg base 21 "count_together" ["parts"] (spTogether K) := ⟨f12, _, ok_together F12 M Dsizes_in, b12, k12, g12⟩
  have Dcount_orders : Df l.prog w K mg base 22 "count_orders" ["tree"] spCountO := ⟨f13, _, ok_countO F13 Dcount_together, b13, k13, g13⟩
  have Dnext_steps : Df l.prog w K mg base 3 "next_steps" ["parts"] (spNextSteps K [(PT, ("next_steps.<locals>.<lambda>" : Str))]) := ⟨f14, _, ok_nextSteps F14 eCd M TB (List.mem_singleton.mpr rfl) (fun p hp _ => by rw [List.mem_singleton.mp hp]), b14, k14, g14⟩
  have Dnumbered_order : Df l.prog w K mg base 41 "numbered_order" ["parts", "index"] (spNumO K [(PT, ("next_steps.<locals>.<lambda>" : Str))] 20) := ⟨f15, _, ok_numO F15 M b15 g15 Dnext_steps Dcount_together 20, b15, k15, g15⟩
  have Dorder_at : Df l.prog w K mg base 42 "order_at" ["tree", "index"] (spOrderAt [(PT, ("next_steps.<locals>.<lambda>" : Str))]) := ⟨f16, _, ok_orderAt F16 Dis_index Dcount_orders Dnumbered_order, b16, k16, g16⟩
  have Dorder_index : Df l.prog w K mg base 61 "order_index" ["tree", "value"] (spOrderIdx [(PT, ("next_steps.<locals>.<lambda>" : Str))]) := ⟨f17, _, ok_orderIdx F17 M Dnext_steps Dcount_together Dsize_of, b17, k17, g17⟩
  have D_law_begin : Df l.prog w K mg base 1 "_law_begin" ["_law_script"] (spBegin K) := ⟨f18, _, ok_begin (k := 0) F18 M, b18, k18, g18⟩
  have D_law_next : Df l.prog w K mg base 1 "_law_next" ["_law_deck", "_law_many"] spNext := ⟨f19, _, ok_next (k := 0) F19, b19, k19, g19⟩
  have D_law_same : Df l.prog w K mg base 20 "_law_same" ["_law_found", "_law_due"] (spSame K 20) := ⟨f20, _, ok_same F20 b20 g20 M 20, b20, k20, g20⟩
  have D_law_mixed : Df l.prog w K mg base 2 "_law_mixed" ["_law_deck", "_law_items"] spMixed := ⟨f21, _, ok_mixed F21 M D_law_next, b21, k21, g21⟩
  have D_law_free : Df l.prog w K mg base 31 "_law_free" ["_law_deck", "_law_letters"] (spFree 30) := ⟨f22, _, ok_free F22 b22 g22 M D_law_next 30, b22, k22, g22⟩
  have D_law_order : Df l.prog w K mg base 32 "_law_order" ["_law_deck", "_law_low", "_law_high"] spOrder := ⟨f23, _, ok_order F23 M D_law_next D_law_mixed D_law_free, b23, k23, g23⟩
  have D_law_ways : Df l.prog w K mg base 1 "_law_ways" ["_law_one", "_law_other"] spWays := ⟨f24, _, ok_ways (k := 0) F24 M, b24, k24, g24⟩
  have D_law_merged : Df l.prog w K mg base 2 "_law_merged" ["_law_deck", "_law_one", "_law_other"] spMerged := ⟨f25, _, ok_merged F25 D_law_next, b25, k25, g25⟩
  have D_law_drawn_order : Df l.prog w K mg base 43 "_law_drawn_order" ["_law_deck", "_law_tree"] (spDrawnO [(PT, ("next_steps.<locals>.<lambda>" : Str))]) := ⟨f26, _, ok_drawnO F26 D_law_next Dcount_orders Dorder_at, b26, k26, g26⟩
  have D_law_count : Df l.prog w K mg base 23 "_law_count" ["_law_tree"] spCount1 := ⟨f27, _, ok_count1 F27 Dcount_orders, b27, k27, g27⟩
  exact ok_law F28 M D_law_begin D_law_order D_law_same Dtree_of Dcount_orders D_law_count Dsize_of D_law_ways D_law_merged D_law_drawn_order Dorder_at Dorder_index
end Tw
open PySem PySem.W PyProof.Rows
set_option maxRecDepth 100000 in
set_option maxHeartbeats 0 in
theorem PySem.Challenge.cw_treewalks_k93_whole_merged_search_trees_holds : PySem.Challenge.rw_treewalks_k93_whole_merged_search_trees.Holds := by
  w_on; o_law; k_head; (case hw => w_witness2)
  k_fill
  refine LamX.walk_ofTs (l := PySem.Challenge.rw_treewalks_k93_whole_merged_search_trees) (n := 63) (k := 66) (CX := fun _ => L2.CX0) (x := "_law_script") rfl (by decide) rfl ⟨rfl, by decide, by decide⟩ (fun w h Y => PySem.W.km_in_of Y) ?F (fun _ _ _ _ _ z => z)
  case F =>
    intro w mg fa h Y KX G hmg
    refine' Tw.all_mk KX G hmg ?aKn ?aKl ?eCd ?eLk ?eP ?eHd ?eNo ?eNe ?eTs ?a1 ?l1 ?c1 ?k1 ?a2 ?l2 ?c2 ?k2 ?a3 ?l3 ?c3 ?k3 ?a4 ?l4 ?c4 ?k4 ?a5 ?l5 ?c5 ?k5 ?a6 ?l6 ?c6 ?k6 ?a7 ?l7 ?c7 ?k7 ?a8 ?l8 ?c8 ?k8 ?a9 ?l9 ?c9 ?k9 ?a10 ?l10 ?c10 ?k10 ?a11 ?l11 ?c11 ?k11 ?a12 ?l12 ?c12 ?k12 ?a13 ?l13 ?c13 ?k13 ?a14 ?l14 ?c14 ?k14 ?a15 ?l15 ?c15 ?k15 ?a16 ?l16 ?c16 ?k16 ?a17 ?l17 ?c17 ?k17 ?a18 ?l18 ?c18 ?k18 ?a19 ?l19 ?c19 ?k19 ?a20 ?l20 ?c20 ?k20 ?a21 ?l21 ?c21 ?k21 ?a22 ?l22 ?c22 ?k22 ?a23 ?l23 ?c23 ?k23 ?a24 ?l24 ?c24 ?k24 ?a25 ?l25 ?c25 ?k25 ?a26 ?l26 ?c26 ?k26 ?a27 ?l27 ?c27 ?k27 ?a28 ?l28 ?c28 ?k28 ?z1 ?z2 ?z3 ?z4 ?z5 ?z6 ?z7 ?z8 ?z9 ?z10 ?z11 ?z12 ?z13 ?z14 ?z15 ?z16 ?z17 ?z18 ?v1
    (case aKn => first | k_is | rfl | decide +kernel)
    (case aKl => first | k_is | rfl | decide +kernel)
    (case a1 => k_is)
    (case l1 => k_is)
    (case c1 => k_is)
    (case k1 => k_is)
    (case a2 => k_is)
    (case l2 => k_is)
    (case c2 => k_is)
    (case k2 => k_is)
    (case a3 => k_is)
    (case l3 => k_is)
    (case c3 => k_is)
    (case k3 => k_is)
    (case a4 => k_is)
    (case l4 => k_is)
    (case c4 => k_is)
    (case k4 => k_is)
    (case a5 => k_is)
    (case l5 => k_is)
    (case c5 => k_is)
    (case k5 => k_is)
    (case a6 => k_is)
    (case l6 => k_is)
    (case c6 => k_is)
    (case k6 => k_is)
    (case a7 => k_is)
    (case l7 => k_is)
    (case c7 => k_is)
    (case k7 => k_is)
    (case a8 => k_is)
    (case l8 => k_is)
    (case c8 => k_is)
    (case k8 => k_is)
    (case a9 => k_is)
    (case l9 => k_is)
    (case c9 => k_is)
    (case k9 => k_is)
    (case a10 => k_is)
    (case l10 => k_is)
    (case c10 => k_is)
    (case k10 => k_is)
    (case a11 => k_is)
    (case l11 => k_is)
    (case c11 => k_is)
    (case k11 => k_is)
    (case a12 => k_is)
    (case l12 => k_is)
    (case c12 => k_is)
    (case k12 => k_is)
    (case a13 => k_is)
    (case l13 => k_is)
    (case c13 => k_is)
    (case k13 => k_is)
    (case a14 => k_is)
    (case l14 => k_is)
    (case c14 => k_is)
    (case k14 => k_is)
    (case a15 => k_is)
    (case l15 => k_is)
    (case c15 => k_is)
    (case k15 => k_is)
    (case a16 => k_is)
    (case l16 => k_is)
    (case c16 => k_is)
    (case k16 => k_is)
    (case a17 => k_is)
    (case l17 => k_is)
    (case c17 => k_is)
    (case k17 => k_is)
    (case a18 => k_is)
    (case l18 => k_is)
    (case c18 => k_is)
    (case k18 => k_is)
    (case a19 => k_is)
    (case l19 => k_is)
    (case c19 => k_is)
    (case k19 => k_is)
    (case a20 => k_is)
    (case l20 => k_is)
    (case c20 => k_is)
    (case k20 => k_is)
    (case a21 => k_is)
    (case l21 => k_is)
    (case c21 => k_is)
    (case k21 => k_is)
    (case a22 => k_is)
    (case l22 => k_is)
    (case c22 => k_is)
    (case k22 => k_is)
    (case a23 => k_is)
    (case l23 => k_is)
    (case c23 => k_is)
    (case k23 => k_is)
    (case a24 => k_is)
    (case l24 => k_is)
    (case c24 => k_is)
    (case k24 => k_is)
    (case a25 => k_is)
    (case l25 => k_is)
    (case c25 => k_is)
    (case k25 => k_is)
    (case a26 => k_is)
    (case l26 => k_is)
    (case c26 => k_is)
    (case k26 => k_is)
    (case a27 => k_is)
    (case l27 => k_is)
    (case c27 => k_is)
    (case k27 => k_is)
    (case a28 => k_is)
    (case l28 => k_is)
    (case c28 => k_is)
    (case k28 => k_is)
    (case z1 => k_is)
    (case z2 => k_is)
    (case z3 => k_is)
    (case z4 => k_is)
    (case z5 => k_is)
    (case z6 => k_is)
    (case z7 => k_is)
    (case z8 => k_is)
    (case z9 => k_is)
    (case z10 => k_is)
    (case z11 => k_is)
    (case z12 => k_is)
    (case z13 => k_is)
    (case z14 => k_is)
    (case z15 => k_is)
    (case z16 => k_is)
    (case z17 => k_is)
    (case z18 => k_is)
    (case v1 => k_is)
    (case eCd => rfl)
    (case eLk => k_is)
    (case eP => rfl)
    (case eHd => first | kernel_rfl | decide +kernel | rfl)
    (case eNo => first | kernel_rfl | decide +kernel | rfl | k_is)
    (case eNe => first | decide +kernel | decide)
    (case eTs => exact PySem.W.km_tabs_of Y _ (by first | k_mem | simp | decide))
