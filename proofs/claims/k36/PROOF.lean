import PyProof.Rows.All
import Wide.All
import OpenK.AllK
import Wide.FinOn
import HandS.ForMost
import HandS.ForExc
import HandS.Wide
import HandS.IsInst
import HandS.Flow
import HandS.FStrTup
import HandS.NoneIn
import HandS.TupAny
import HandS.Style
import HandS.TryMany
import HandS.ExcIs
import HandS.ExcField
import HandS.ExcOwn
import KE.KExcInit
import KE.KExcIs
import HandS.Walk
import HandS.Zip
import HandS.Star
import HandS.Style
import PyProof.Rows.SortShellAny
import KE.GoesZip
import KE.GoesMore
import KE.SortKeyHeap
import HandS.Lambda
import HandS.EndTab
import PyProof.CollectStr
import PyProof.P3Eq
import PySem.Challenge.RW_treewalks_k36_whole_orders_add_up
set_option Elab.async false
set_option maxRecDepth 100000
set_option maxHeartbeats 4000000
namespace Tw
open PySem PySem.Spec PyProof.Rows L2
/-! ### trees over signs -/
abbrev ch (c : Nat) : Str := ⟨#[c]⟩
def tx (l : List Nat) : Str := ⟨l.toArray⟩
theorem tx_cps (l : List Nat) : (tx l).cps.toList = l := rfl
theorem tx_size (l : List Nat) : (tx l).cps.size = l.length := rfl
theorem tx_len (l : List Nat) : (tx l).length = l.length := rfl
theorem tx_one (c : Nat) : tx [c] = ch c := rfl
theorem tx_app (a b : List Nat) : tx a ++ tx b = tx (a ++ b) := by
  show (⟨(tx a).cps ++ (tx b).cps⟩ : Str) = _
  simp [tx]
theorem ch_app (c : Nat) (b : List Nat) : ch c ++ tx b = tx (c :: b) := tx_app [c] b
theorem tx_inj {a b : List Nat} (h : tx a = tx b) : a = b := congrArg (fun z : Str => z.cps.toList) h
theorem ch_inj {a b : Nat} (h : ch a = ch b) : a = b := by have := tx_inj (a := [a]) (b := [b]) h; simpa using this
theorem ch_lt (a b : Nat) : decide ((ch a).cps.toList < (ch b).cps.toList) = decide (a < b) := by
  have : ((ch a).cps.toList < (ch b).cps.toList) ↔ a < b := by
    show [a] < [b] ↔ _
    simp [List.cons_lt_cons_iff]
  simp only [this]
theorem tx_to (l : List Nat) (k : Nat) : cutS (tx l) none (some (k : Int)) = tx (l.take k) := by
  unfold cutS tx
  show (⟨_⟩ : Str) = ⟨_⟩
  rw [HT.sIx_nat, HT.sIx_none]
  show (⟨((l.drop 0).take (min k l.length - 0)).toArray⟩ : Str) = ⟨(l.take k).toArray⟩
  rw [List.drop_zero, Nat.sub_zero, Nat.min_def]
  split
  · rfl
  · rw [List.take_of_length_le (Nat.le_refl _), List.take_of_length_le (by omega)]
theorem tx_from (l : List Nat) (k : Nat) : cutS (tx l) (some (k : Int)) none = tx (l.drop k) := by
  unfold cutS tx
  show (⟨_⟩ : Str) = ⟨_⟩
  rw [HT.sIx_nat, HT.sIx_none]
  show (⟨((l.drop (min k l.length)).take (l.length - min k l.length)).toArray⟩ : Str) = ⟨(l.drop k).toArray⟩
  by_cases h : k ≤ l.length
  · rw [Nat.min_eq_left h, List.take_of_length_le (by rw [List.length_drop]; omega)]
  · rw [Nat.min_eq_right (by omega), List.drop_eq_nil_of_le (Nat.le_refl _), List.drop_eq_nil_of_le (by omega), List.take_nil]
theorem joinL_ones : ∀ l : List Nat, TL.joinL [] (l.map fun c => [c]) = l
  | [] => rfl
  | [c] => rfl
  | c :: d :: r => by
    have := joinL_ones (d :: r)
    show [c] ++ ([] ++ TL.joinL [] ((d :: r).map fun c => [c])) = _
    rw [this]; rfl
theorem tx_join (l : List Nat) : Txt.join (Str.ofString "") (l.map ch) = tx l := by
  rw [TL.join_eq]
  have e := TL.tl_join (Str.ofString "") (l.map ch)
  refine TL.ext_tl (e.trans ?_)
  rw [List.map_map]
  exact joinL_ones l
theorem tx_joinOk (l : List Nat) (h : l.length ≤ 1000) : ((l.map ch).map (·.length)).sum + (l.map ch).length * (Str.ofString "").length ≤ 16777216 := by
  have e0 : (Str.ofString "").length = 0 := by decide +kernel
  have e1 : ∀ l : List Nat, ((l.map ch).map (·.length)).sum = l.length := by
    intro l
    induction l with
    | nil => rfl
    | cons c r ih =>
      rw [List.map_cons, List.map_cons, List.sum_cons, ih, List.length_cons]
      show 1 + r.length = _
      omega
  rw [e0, e1]
  omega
inductive B where
  | nil
  | node (l : B) (x : Nat) (r : B)
  deriving DecidableEq
def B.size : B → Nat
  | .nil => 0
  | .node l _ r => l.size + 1 + r.size
def B.deep : B → Nat
  | .nil => 0
  | .node l _ r => 1 + max l.deep r.deep
def B.data : B → PyData
  | .nil => .none
  | .node l x r => .tuple [l.data, .str (ch x), r.data]
def B.pre : B → List Nat
  | .nil => []
  | .node l x r => x :: (l.pre ++ r.pre)
def B.mid : B → List Nat
  | .nil => []
  | .node l x r => l.mid ++ x :: r.mid
theorem B.deep_le : ∀ t : B, t.deep ≤ t.size
  | .nil => Nat.le_refl _
  | .node l _ r => by
    have h1 := l.deep_le
    have h2 := r.deep_le
    show 1 + max l.deep r.deep ≤ l.size + 1 + r.size
    omega
theorem B.pre_len : ∀ t : B, t.pre.length = t.size
  | .nil => rfl
  | .node l x r => by
    have h1 := l.pre_len
    have h2 := r.pre_len
    show (x :: (l.pre ++ r.pre)).length = l.size + 1 + r.size
    rw [List.length_cons, List.length_append]
    omega
theorem B.mid_len : ∀ t : B, t.mid.length = t.size
  | .nil => rfl
  | .node l x r => by
    have h1 := l.mid_len
    have h2 := r.mid_len
    show (l.mid ++ x :: r.mid).length = l.size + 1 + r.size
    rw [List.length_append, List.length_cons]
    omega
theorem B.mid_mem (t : B) (c : Nat) : c ∈ t.mid ↔ c ∈ t.pre := by
  induction t with
  | nil => exact Iff.rfl
  | node l x r h1 h2 =>
    show c ∈ l.mid ++ x :: r.mid ↔ c ∈ x :: (l.pre ++ r.pre)
    rw [List.mem_append, List.mem_cons, List.mem_cons, List.mem_append, h1, h2]
    constructor
    · rintro (h | h | h)
      · exact .inr (.inl h)
      · exact .inl h
      · exact .inr (.inr h)
    · rintro (h | h | h)
      · exact .inr (.inl h)
      · exact .inl h
      · exact .inr (.inr h)
/-- the tree t lies at v -/
inductive BAt (H : Hp) : V → B → Prop
  | nil : BAt H .non .nil
  | node {a : Addr} {l r : V} {x : Nat} {tl tr : B} : H a = some (.tup [l, .str (ch x), r]) → BAt H l tl → BAt H r tr → BAt H (.ref a) (.node tl x tr)
/-- tuples stand still -/
def KeepT (H H' : Hp) : Prop := ∀ b xs, H b = some (.tup xs) → H' b = some (.tup xs)
theorem KeepT.refl (H : Hp) : KeepT H H := fun _ _ h => h
theorem KeepT.trans {H H1 H2 : Hp} (a : KeepT H H1) (b : KeepT H1 H2) : KeepT H H2 := fun c xs h => b c xs (a c xs h)
theorem Same.keepT {H H' : Hp} (h : Same H H') : KeepT H H' := fun b xs e => h b _ e
theorem BAt.keep {H H' : Hp} (k : KeepT H H') {v : V} {t : B} (h : BAt H v t) : BAt H' v t := by
  induction h with
  | nil => exact .nil
  | node e _ _ h1 h2 => exact .node (k _ _ e) h1 h2
theorem BAt.same {H H' : Hp} (k : Same H H') {v : V} {t : B} (h : BAt H v t) : BAt H' v t := h.keep (Tw.Same.keepT k)
theorem BAt.dp {K : PySem.W.Frag} {H : Hp} {v : V} {t : B} (h : BAt H v t) : Dp K H v t.data := by
  induction h with
  | nil => exact .non
  | node e _ _ h1 h2 => exact .tup (SqT.of e) (.cons h1 (.cons (.str _) (.cons h2 .nil)))
theorem BAt.inv {H : Hp} {v : V} {t : B} (h : BAt H v t) : (v = .non ∧ t = .nil) ∨ ∃ a l r x tl tr, v = .ref a ∧ t = .node tl x tr ∧ H a = some (.tup [l, .str (ch x), r]) ∧ BAt H l tl ∧ BAt H r tr := by
  cases h with
  | nil => exact .inl ⟨rfl, rfl⟩
  | node e h1 h2 => exact .inr ⟨_, _, _, _, _, _, rfl, rfl, e, h1, h2⟩
theorem same_new {H : Hp} {p : Addr} (h : H p = none) (o : HO) : Same H (upd H p o) := fun b u q => by rw [upd_ne (ne_of_none q h)]; exact q
theorem small {n : Nat} (h : n ≤ 1000) : n ≤ sizeLine := Nat.le_of_lt (small1000 h)
theorem at_map {α : Type} {f : α → V} {ns : List α} {i : Int} {v : α} (h0 : 0 ≤ i) (h : ns[i.toNat]? = some v) : atI (ns.map f) i = some (f v) := by
  have e : i = ((i.toNat : Nat) : Int) := by omega
  rw [e]
  exact atI_nat (by rw [List.getElem?_map, h]; rfl)
theorem ixN_nat {n : Nat} {i : Int} (h0 : 0 ≤ i) (h : i < n) : ixN n i = some i.toNat := by
  unfold ixN
  first
    | rw [if_pos h0, if_pos h]
    | (rw [if_pos h0]; rw [if_pos (by omega)])
    | simp [h0, h]
theorem cut_to (xs : List V) (k : Nat) : cutV xs none (some (k : Int)) = xs.take k := by
  unfold cutV
  rw [HT.sIx_nat, HT.sIx_none, List.drop_zero, Nat.sub_zero]
  rw [Nat.min_def]
  split
  · rfl
  · rw [List.take_of_length_le (Nat.le_refl _), List.take_of_length_le (by omega)]
theorem cut_from (xs : List V) (k : Nat) : cutV xs (some (k : Int)) none = xs.drop k := by
  unfold cutV
  rw [HT.sIx_nat, HT.sIx_none]
  by_cases h : k ≤ xs.length
  · rw [Nat.min_eq_left h, List.take_of_length_le (by rw [List.length_drop]; omega)]
  · rw [Nat.min_eq_right (by omega), List.drop_eq_nil_of_le (Nat.le_refl _), List.drop_eq_nil_of_le (by omega), List.take_nil]
theorem kept {σ : L2.St} {H : Hp} {A B : Hp → Prop} (h : A H) : tYes σ H (fun b H3 => if b = true then A H3 else B H3) := by
  show if true = true then A H else B H
  exact iteT h
theorem erase_map {α β : Type} (f : α → β) : ∀ (l : List α) (i : Nat), (l.map f).eraseIdx i = (l.eraseIdx i).map f
  | [], _ => rfl
  | _ :: _, 0 => rfl
  | x :: l, i + 1 => congrArg (f x :: ·) (erase_map f l i)
/-- a def that stands at a name, with its promise -/
structure Df (P : Program) (w : World) (K : PySem.W.Frag) (mg : Str → Option Value) (base : Heap) (k : Nat) (nm : Str) (ps : List Str) (sp : Sp) where
  f : Addr
  fd : FuncData
  ok : FnOk P w K mg base CX0 k f fd ps sp
  b : Binds K fd ps []
  kp : PySem.W.keepIn K (.ref f) = true
  g : mg nm = some (.ref f)
structure Mgs (mg : Str → Option Value) : Prop where
  zip : mg "zip" = none
  all : mg "all" = none
  repr : mg "repr" = none
  len : mg "len" = none
  isinstance : mg "isinstance" = none
  list : mg "list" = none
  tuple : mg "tuple" = none
  str : mg "str" = none
  int : mg "int" = none
  bool : mg "bool" = none
  dict : mg "dict" = none
  range : mg "range" = none
  enumerate : mg "enumerate" = none
  sum : mg "sum" = none
  sorted : mg "sorted" = none
  abs : mg "abs" = none
  min : mg "min" = none
  max : mg "max" = none
theorem vals_signs : ∀ (l : List Nat) (vs : List Value), vs.length = l.length → (∀ (j : Nat) (v : Value), vs[j]? = some v → ∃ c u, l[j]? = some c ∧ v = .str ⟨#[c]⟩ u) → Vals (l.map fun c => V.str ⟨#[c]⟩) vs
  | [], [], _, _ => .nil
  | [], _ :: _, h, _ => by simp at h
  | _ :: _, [], h, _ => by simp at h
  | c :: l, v :: vs, h, k => by
    obtain ⟨c', u, e, rfl⟩ := k 0 v rfl
    cases e
    exact .cons ⟨u, rfl⟩ (vals_signs l vs (by simpa using h) fun j v e => k (j + 1) v e)
theorem call_signs {X : Cx} (hc : X.calm = true) : CallR X (.type "list") (fun xs H Q => ∃ x : Str, xs = [.str x] ∧ x.cps.size ≤ 1000 ∧ ∀ p, H p = none → Q (.ref p) (upd H p (.lst (x.cps.toList.map fun c => V.str ⟨#[c]⟩)))) := by
  intro pins s σ H xs us Q I r h
  obtain ⟨x, rfl, hz, q⟩ := h
  obtain ⟨u, rfl, t, rfl⟩ := vals1 r
  have hz' : x.cps.size ≤ sizeLine := small hz
  refine call_list_str (I.ok.hd hc) x t (fun h' tk acc' c' hk hS hacc => ?_) hz'
  have hv : Vals (x.cps.toList.map fun c => V.str ⟨#[c]⟩) acc'.toList := vals_signs _ _ (by rw [Array.length_toList, Array.length_toList]; exact hacc.1) fun j v e => by
    obtain ⟨c, u, h1, h2⟩ := hacc.2 j v (by rw [← Array.getElem?_toList]; exact e)
    exact ⟨c, u, by rw [Array.getElem?_toList]; exact h1, h2⟩
  exact ⟨.ref s.heap.objs.size, _, I.laid (t' := tk) hk (Nat.le_refl _) (show ObjOk X.prog X.w _ h' _ (.lst _) from ⟨by rw [List.length_map, Array.length_toList]; exact hz', acc'.toList, c', hv, by rw [Array.toArray_toList]; exact hS⟩), rfl, q _ (I.hok.fresh (Nat.le_refl _))⟩
/-- for c in text -/
theorem for_text {x : Str} {g : TG} {tb : TS} {D : Ends} {σ : L2.St} {H : Hp} (Pv : Nat → L2.St → Hp → Prop) (h0 : Pv 0 σ H)
    (hs : ∀ i c σ H, x.cps.toList[i]? = some c → Pv i σ H → g (.str ⟨#[c]⟩) σ H fun σ2 H2 => tb { D with nx := Pv (i + 1), ct := Pv (i + 1), bk := D.nx } σ2 H2)
    (hd : ∀ σ H, Pv x.cps.toList.length σ H → D.nx σ H) :
    ∃ W : Nat → Nat → L2.St → Hp → Prop, (∃ m, W 0 m σ H) ∧ ∀ i m σ H, W i m σ H →
      ((Its x).stop i H ∧ D.nx σ H) ∨ ((Its x).go i H ∧ ∃ N : L2.St → Hp → Prop, (∀ σ' H', N σ' H' → ∃ m', m' < m ∧ W (i + 1) m' σ' H') ∧ ∀ v H', (Its x).yld i H v H' → g v σ H' fun σ2 H2 => tb { D with nx := N, ct := N, bk := D.nx } σ2 H2) := by
  refine for_it walk_str Pv h0 (fun _ _ _ _ _ => trivial) (fun i v σ H H' hi hp hy => ?_) (fun σ H hp => hd σ H (by rw [Array.length_toList]; exact hp))
  obtain ⟨rfl, c, hc, rfl⟩ := hy
  exact hs i c σ H' (by rw [Array.getElem?_toList]; exact hc) hp
theorem lc_text {x : Str} {g : TG} {tt : TT} {te : TE} {vs : List Nat} {σ : L2.St} {H1 : Hp} {D : Addr} {Qd : Hp → Prop} (Pv : Nat → Hp → Prop) (h0 : Pv 0 (upd H1 D (.lst [])))
    (hs : ∀ i c H, x.cps.toList[i]? = some c → Pv i H → g (.str ⟨#[c]⟩) (wipe σ vs) H fun σ2 H2 => wipe σ2 vs = wipe σ vs ∧ tt σ2 H2 fun b H3 =>
      if b = true then te σ2 H3 fun y H4 => ∃ acc, H4 D = some (.lst acc) ∧ acc.length < sizeLine ∧ Pv (i + 1) (upd H4 D (.lst (acc ++ [y]))) else Pv (i + 1) H3) (hd : ∀ H, Pv x.cps.toList.length H → Qd H) :
    ∃ W : Nat → Nat → Hp → Prop, (∃ m, W 0 m (upd H1 D (.lst []))) ∧ ∀ i m H, W i m H →
      ((Its x).stop i H ∧ Qd H) ∨ ((Its x).go i H ∧ ∃ Nx : Hp → Prop, (∀ H', Nx H' → ∃ m', m' < m ∧ W (i + 1) m' H') ∧ ∀ v H', (Its x).yld i H v H' → g v (wipe σ vs) H' fun σ2 H2 => wipe σ2 vs = wipe σ vs ∧ tt σ2 H2 fun b H3 =>
        if b = true then te σ2 H3 fun y H4 => ∃ acc, H4 D = some (.lst acc) ∧ acc.length < sizeLine ∧ Nx (upd H4 D (.lst (acc ++ [y]))) else Nx H3) := by
  refine lc_it walk_str Pv h0 (fun _ _ _ _ => trivial) (fun i v H H' hi hp hy => ?_) (fun H hp => hd H (by rw [Array.length_toList]; exact hp))
  obtain ⟨rfl, c, hc, rfl⟩ := hy
  exact hs i c H' (by rw [Array.getElem?_toList]; exact hc) hp
/-! ### the text by places -/
def top (i : Nat) : Stmt := PySem.Challenge.pw_treewalks_k36_whole_orders_add_up.main.body.getD i (.Pass ⟨0, 0, 0, 0⟩)
abbrev s_is_whole_number : Stmt := top 6
abbrev s_is_index : Stmt := top 7
abbrev s_is_ascending : Stmt := top 8
abbrev s_size_of : Stmt := top 10
abbrev s_is_kind : Stmt := top 13
abbrev s_ordered_steps : Stmt := top 14
abbrev s_deep_steps : Stmt := top 15
abbrev s_level_steps : Stmt := top 16
abbrev s_walk : Stmt := top 17
abbrev s_is_search_tree : Stmt := top 19
abbrev s_sizes_in : Stmt := top 20
abbrev s_count_together : Stmt := top 21
abbrev s_count_orders : Stmt := top 22
abbrev s_next_steps : Stmt := top 23
abbrev s_numbered_order : Stmt := top 24
abbrev s_order_at : Stmt := top 25
abbrev s_order_index : Stmt := top 26
abbrev s__law_begin : Stmt := top 28
abbrev s__law_next : Stmt := top 29
abbrev s__law_mixed : Stmt := top 30
abbrev s__law_free : Stmt := top 31
abbrev s__law_order : Stmt := top 32
abbrev s__law_put : Stmt := top 33
abbrev s__law_grown : Stmt := top 34
abbrev s__law_search_trees : Stmt := top 35
abbrev s__law_shared_right : Stmt := top 36
abbrev s_law : Stmt := top 37
theorem sc_is_whole_number : FnScope ["value"] ["value"] (defScope s_is_whole_number) := ⟨rfl, rfl, rfl, by decide +kernel, rfl, by decide +kernel, by decide +kernel⟩
theorem sc_is_index : FnScope ["value", "many"] ["value", "many"] (defScope s_is_index) := ⟨rfl, rfl, rfl, by decide +kernel, rfl, by decide +kernel, by decide +kernel⟩
theorem sc_is_ascending : FnScope ["items", "one", "other"] ["items"] (defScope s_is_ascending) := ⟨rfl, rfl, rfl, by decide +kernel, rfl, by decide +kernel, by decide +kernel⟩
theorem sc_size_of : FnScope ["tree"] ["tree"] (defScope s_size_of) := ⟨rfl, rfl, rfl, by decide +kernel, rfl, by decide +kernel, by decide +kernel⟩
theorem sc_is_kind : FnScope ["value"] ["value"] (defScope s_is_kind) := ⟨rfl, rfl, rfl, by decide +kernel, rfl, by decide +kernel, by decide +kernel⟩
theorem sc_ordered_steps : FnScope ["tree", "kind"] ["tree", "kind"] (defScope s_ordered_steps) := ⟨rfl, rfl, rfl, by decide +kernel, rfl, by decide +kernel, by decide +kernel⟩
theorem sc_deep_steps : FnScope ["tree", "kind", "path", "left", "label", "right", "root", "lefts", "rights"] ["tree", "kind", "path"] (defScope s_deep_steps) := ⟨rfl, rfl, rfl, by decide +kernel, rfl, by decide +kernel, by decide +kernel⟩
theorem sc_level_steps : FnScope ["tree"] ["tree"] (defScope s_level_steps) := ⟨rfl, rfl, rfl, by decide +kernel, rfl, by decide +kernel, by decide +kernel⟩
theorem sc_walk : FnScope ["tree", "kind", "path", "label"] ["tree", "kind"] (defScope s_walk) := ⟨rfl, rfl, rfl, by decide +kernel, rfl, by decide +kernel, by decide +kernel⟩
theorem sc_is_search_tree : FnScope ["tree"] ["tree"] (defScope s_is_search_tree) := ⟨rfl, rfl, rfl, by decide +kernel, rfl, by decide +kernel, by decide +kernel⟩
theorem sc_sizes_in : FnScope ["tree", "left", "label", "right", "below"] ["tree"] (defScope s_sizes_in) := ⟨rfl, rfl, rfl, by decide +kernel, rfl, by decide +kernel, by decide +kernel⟩
theorem sc_count_together : FnScope ["parts", "part", "size", "sizes", "orders", "at"] ["parts"] (defScope s_count_together) := ⟨rfl, rfl, rfl, by decide +kernel, rfl, by decide +kernel, by decide +kernel⟩
theorem sc_count_orders : FnScope ["tree"] ["tree"] (defScope s_count_orders) := ⟨rfl, rfl, rfl, by decide +kernel, rfl, by decide +kernel, by decide +kernel⟩
theorem sc_next_steps : FnScope ["parts", "found", "at", "left", "letter", "right", "side", "sides"] ["parts"] (defScope s_next_steps) := ⟨rfl, rfl, rfl, by decide +kernel, rfl, by decide +kernel, by decide +kernel⟩
theorem sc_numbered_order : FnScope ["parts", "index", "more", "letter", "rest", "many"] ["parts", "index"] (defScope s_numbered_order) := ⟨rfl, rfl, rfl, by decide +kernel, rfl, by decide +kernel, by decide +kernel⟩
theorem sc_order_at : FnScope ["tree", "index"] ["tree", "index"] (defScope s_order_at) := ⟨rfl, rfl, rfl, by decide +kernel, rfl, by decide +kernel, by decide +kernel⟩
theorem sc_order_index : FnScope ["tree", "value", "index", "parts", "letter", "steps", "other", "rest", "taken"] ["tree", "value"] (defScope s_order_index) := ⟨rfl, rfl, rfl, by decide +kernel, rfl, by decide +kernel, by decide +kernel⟩
theorem sc__law_begin : FnScope ["_law_script", "_law_cell", "_law_greats", "_law_whole"] ["_law_script"] (defScope s__law_begin) := ⟨rfl, rfl, rfl, by decide +kernel, rfl, by decide +kernel, by decide +kernel⟩
theorem sc__law_next : FnScope ["_law_deck", "_law_many", "_law_rest", "_law_mixed_here"] ["_law_deck", "_law_many"] (defScope s__law_next) := ⟨rfl, rfl, rfl, by decide +kernel, rfl, by decide +kernel, by decide +kernel⟩
theorem sc__law_mixed : FnScope ["_law_deck", "_law_items", "_law_rest", "_law_found"] ["_law_deck", "_law_items"] (defScope s__law_mixed) := ⟨rfl, rfl, rfl, by decide +kernel, rfl, by decide +kernel, by decide +kernel⟩
theorem sc__law_free : FnScope ["_law_deck", "_law_letters", "_law_spot"] ["_law_deck", "_law_letters"] (defScope s__law_free) := ⟨rfl, rfl, rfl, by decide +kernel, rfl, by decide +kernel, by decide +kernel⟩
theorem sc__law_order : FnScope ["_law_deck", "_law_low", "_law_high", "_law_size", "_law_way", "_law_letters"] ["_law_deck", "_law_low", "_law_high"] (defScope s__law_order) := ⟨rfl, rfl, rfl, by decide +kernel, rfl, by decide +kernel, by decide +kernel⟩
theorem sc__law_put : FnScope ["_law_tree", "_law_letter", "_law_left", "_law_own", "_law_right"] ["_law_tree", "_law_letter"] (defScope s__law_put) := ⟨rfl, rfl, rfl, by decide +kernel, rfl, by decide +kernel, by decide +kernel⟩
theorem sc__law_grown : FnScope ["_law_order_here", "_law_tree", "_law_letter"] ["_law_order_here"] (defScope s__law_grown) := ⟨rfl, rfl, rfl, by decide +kernel, rfl, by decide +kernel, by decide +kernel⟩
theorem sc__law_search_trees : FnScope ["_law_letters", "_law_found", "_law_spot", "_law_rights", "_law_left", "_law_right"] ["_law_letters"] (defScope s__law_search_trees) := ⟨rfl, rfl, rfl, by decide +kernel, rfl, by decide +kernel, by decide +kernel⟩
theorem sc__law_shared_right : FnScope ["_law_tree", "_law_many", "_law_size", "_law_lefts", "_law_k"] ["_law_tree"] (defScope s__law_shared_right) := ⟨rfl, rfl, rfl, by decide +kernel, rfl, by decide +kernel, by decide +kernel⟩
theorem sc_law : FnScope ["_law_script", "_law_deck", "_law_size", "_law_due", "_law_trees", "_law_tree", "_law_turn"] ["_law_script"] (defScope s_law) := ⟨rfl, rfl, rfl, by decide +kernel, rfl, by decide +kernel, by decide +kernel⟩
/-! ### xs != [], xs == [] -/
section
variable {X : Cx}
theorem op_neL (hu : X.A.units < cLine) : OpR X (compareOp .NotEq) (fun x y H Q => ∃ a b xs, x = .ref a ∧ y = .ref b ∧ SqL X.K H a xs ∧ SqL X.K H b [] ∧ Q (.bl (!xs.isEmpty)) H) := by
  intro pins s σ H x y v u Q I rx ry h
  obtain ⟨a, b, xs, rfl, rfl, hx, hy, q⟩ := h
  cases rx
  cases ry
  obtain ⟨its, r1, t1, _⟩ := I.list hx
  obtain ⟨its2, r2, t2, _⟩ := I.list hy
  cases r2
  cases r1 with
  | nil =>
    have rc := SeqAt.RcNeAt.lists (A := X.A) (s := s) (items := ([] : List Value).toArray) (items2 := ([] : List Value).toArray) (e := fun _ => true) t1.isList t2.isList rfl hu (fun j h1 _ => absurd h1 (by simp))
    exact rc X.prog X.w X.xe _ ⟨.bl _, H, I, rfl, q⟩
  | cons _ _ =>
    have rc := SeqAt.RcNeAt.lists_lengths (A := X.A) (s := s) t1.isList t2.isList (by simp) hu
    exact rc X.prog X.w X.xe _ ⟨.bl _, H, I, rfl, q⟩
theorem cmpOf_ltS {prog : Program} {w : World} {A : Around} (x y : Str) (t u : Tok) :
    CmpOf prog w A .Lt (fun i v => (#[Value.str x t, Value.str y u])[i]? = some v) (fun i j => decide (([x, y].getD i x).cps.toList < ([x, y].getD j x).cps.toList)) := fun i j vi vj s Q E hi hj h => by
  have one : ∀ (i : Nat) (v : Value), (#[Value.str x t, Value.str y u])[i]? = some v → ∃ tk, v = .str ([x, y].getD i x) tk := fun i v e => by
    match i with
    | 0 => exact ⟨t, by simpa using e.symm⟩
    | 1 => exact ⟨u, by simpa using e.symm⟩
    | n + 2 => simp at e
  obtain ⟨t1, rfl⟩ := one i vi hi
  obtain ⟨t2, rfl⟩ := one j vj hj
  exact lt_str h
theorem cmpOf_gtS {prog : Program} {w : World} {A : Around} (x y : Str) (t u : Tok) :
    CmpOf prog w A .Gt (fun i v => (#[Value.str x t, Value.str y u])[i]? = some v) (fun i j => decide (([x, y].getD j x).cps.toList < ([x, y].getD i x).cps.toList)) := fun i j vi vj s Q E hi hj h => by
  have one : ∀ (i : Nat) (v : Value), (#[Value.str x t, Value.str y u])[i]? = some v → ∃ tk, v = .str ([x, y].getD i x) tk := fun i v e => by
    match i with
    | 0 => exact ⟨t, by simpa using e.symm⟩
    | 1 => exact ⟨u, by simpa using e.symm⟩
    | n + 2 => simp at e
  obtain ⟨t1, rfl⟩ := one i vi hi
  obtain ⟨t2, rfl⟩ := one j vj hj
  exact PySem.P.gt_str h
theorem argBest1 (bt : Nat → Nat → Bool) : argBest bt 1 = if bt 1 0 = true then 1 else 0 := rfl
theorem max_two_str {prog : Program} {w : World} {A : Around} {E : Value → Shared → Prop} {s : Shared} {Q : Value → Shared → Prop} {x y : Str} {t u : Tok} (hh : A.handled = none)
    (h : ∀ h' tk, (∀ c o, s.heap.get? c = some o → h'.get? c = some o) → Q (if x.cps.toList < y.cps.toList then .str y u else .str x t) { s with heap := h', toks := tk }) :
    wpAny (model prog w) A (call (.builtin "max") [.str x t, .str y u]) Q E s := by
  have hT : (s.heap.push { cls := .type "tuple", data := .seq #[.str x t, .str y u] }).IsTuple s.heap.objs.size #[.str x t, .str y u] := ⟨_, Heap.get?_push_size _ rfl, rfl, 0, rfl⟩
  refine call_max_two (wpAny_pyIter_tuple hT ?_)
  have hsz : (s.heap.push { cls := .type "tuple", data := .seq #[.str x t, .str y u] }).objs.size = s.heap.objs.size + 1 := Heap.size_push ..
  refine ⟨_, [_, s.heap.objs.size], [_], _, _, _, _, rfl, Walks.tuple (A := A.in1) hh _ s.heap.objs.size (by rw [hsz]; exact Nat.ne_of_lt (Nat.lt_succ_self _)) #[.str x t, .str y u],
    ⟨⟨_, Heap.get?_push_size _ rfl, rfl, rfl⟩, hT.push _⟩, fun c hc => ?_, by simp, cmpOf_gtS x y t u, fun v h' tk hP hk => ?_⟩
  · show c < ((s.heap.push _).push _).objs.size
    rw [Heap.size_push, hsz]
    rcases List.mem_cons.mp hc with rfl | hc
    · rw [hsz]; exact Nat.lt_succ_self _
    · rcases List.mem_cons.mp hc with rfl | hc
      · exact Nat.lt_succ_of_lt (Nat.lt_succ_self _)
      · cases hc
  · have hold : ∀ c o, s.heap.get? c = some o → h'.get? c = some o := fun c o e => by
      refine hk c o (fun hm => ?_) (Heap.get?_push_of_some _ (Heap.get?_push_of_some _ e))
      rcases List.mem_cons.mp hm with e1 | hm
      · have := Heap.lt_size e; rw [e1, hsz] at this; exact Nat.lt_irrefl _ (Nat.lt_of_succ_lt this)
      · cases hm
    have := h h' tk hold
    have hv : v = if x.cps.toList < y.cps.toList then .str y u else .str x t := by
      rw [show #[Value.str x t, Value.str y u].size - 1 = 1 from rfl, argBest1] at hP
      replace hP : #[Value.str x t, Value.str y u][if decide (x.cps.toList < y.cps.toList) = true then 1 else 0]? = some v := hP
      by_cases hc : x.cps.toList < y.cps.toList
      · rw [if_pos (decide_eq_true hc)] at hP
        rw [if_pos hc]
        exact (Option.some.inj hP).symm
      · rw [if_neg (fun z => hc (of_decide_eq_true z))] at hP
        rw [if_neg hc]
        exact (Option.some.inj hP).symm
    rw [hv]; exact this
theorem min_two_str {prog : Program} {w : World} {A : Around} {E : Value → Shared → Prop} {s : Shared} {Q : Value → Shared → Prop} {x y : Str} {t u : Tok} (hh : A.handled = none)
    (h : ∀ h' tk, (∀ c o, s.heap.get? c = some o → h'.get? c = some o) → Q (if y.cps.toList < x.cps.toList then .str y u else .str x t) { s with heap := h', toks := tk }) :
    wpAny (model prog w) A (call (.builtin "min") [.str x t, .str y u]) Q E s := by
  have hT : (s.heap.push { cls := .type "tuple", data := .seq #[.str x t, .str y u] }).IsTuple s.heap.objs.size #[.str x t, .str y u] := ⟨_, Heap.get?_push_size _ rfl, rfl, 0, rfl⟩
  refine call_min_two (wpAny_pyIter_tuple hT ?_)
  have hsz : (s.heap.push { cls := .type "tuple", data := .seq #[.str x t, .str y u] }).objs.size = s.heap.objs.size + 1 := Heap.size_push ..
  refine ⟨_, [_, s.heap.objs.size], [_], _, _, _, _, rfl, Walks.tuple (A := A.in1) hh _ s.heap.objs.size (by rw [hsz]; exact Nat.ne_of_lt (Nat.lt_succ_self _)) #[.str x t, .str y u],
    ⟨⟨_, Heap.get?_push_size _ rfl, rfl, rfl⟩, hT.push _⟩, fun c hc => ?_, by simp, cmpOf_ltS x y t u, fun v h' tk hP hk => ?_⟩
  · show c < ((s.heap.push _).push _).objs.size
    rw [Heap.size_push, hsz]
    rcases List.mem_cons.mp hc with rfl | hc
    · rw [hsz]; exact Nat.lt_succ_self _
    · rcases List.mem_cons.mp hc with rfl | hc
      · exact Nat.lt_succ_of_lt (Nat.lt_succ_self _)
      · cases hc
  · have hold : ∀ c o, s.heap.get? c = some o → h'.get? c = some o := fun c o e => by
      refine hk c o (fun hm => ?_) (Heap.get?_push_of_some _ (Heap.get?_push_of_some _ e))
      rcases List.mem_cons.mp hm with e1 | hm
      · have := Heap.lt_size e; rw [e1, hsz] at this; exact Nat.lt_irrefl _ (Nat.lt_of_succ_lt this)
      · cases hm
    have := h h' tk hold
    have hv : v = if y.cps.toList < x.cps.toList then .str y u else .str x t := by
      rw [show #[Value.str x t, Value.str y u].size - 1 = 1 from rfl, argBest1] at hP
      replace hP : #[Value.str x t, Value.str y u][if decide (y.cps.toList < x.cps.toList) = true then 1 else 0]? = some v := hP
      by_cases hc : y.cps.toList < x.cps.toList
      · rw [if_pos (decide_eq_true hc)] at hP
        rw [if_pos hc]
        exact (Option.some.inj hP).symm
      · rw [if_neg (fun z => hc (of_decide_eq_true z))] at hP
        rw [if_neg hc]
        exact (Option.some.inj hP).symm
    rw [hv]; exact this
theorem call_max2S (hc : X.calm = true) : CallR X (.builtin "max") (fun xs H Q => ∃ a b : Nat, xs = [.str (ch a), .str (ch b)] ∧ Q (.str (ch (max a b))) H) := by
  intro pins s σ H xs us Q I r h
  obtain ⟨a, b, rfl, q⟩ := h
  obtain ⟨u, w', rfl, ⟨t, rfl⟩, ⟨t', rfl⟩⟩ := vals2 r
  refine max_two_str (I.ok.hd hc) fun h' tk k => ⟨_, H, I.kept k, ?_, q⟩
  have e : ((ch a).cps.toList < (ch b).cps.toList) ↔ a < b := by
    have := ch_lt a b
    simpa using this
  by_cases hj : a < b
  · rw [if_pos (e.mpr hj), Nat.max_eq_right (Nat.le_of_lt hj)]; exact ⟨_, rfl⟩
  · rw [if_neg (fun z => hj (e.mp z)), Nat.max_eq_left (by omega)]; exact ⟨_, rfl⟩
theorem call_min2S (hc : X.calm = true) : CallR X (.builtin "min") (fun xs H Q => ∃ a b : Nat, xs = [.str (ch a), .str (ch b)] ∧ Q (.str (ch (min a b))) H) := by
  intro pins s σ H xs us Q I r h
  obtain ⟨a, b, rfl, q⟩ := h
  obtain ⟨u, w', rfl, ⟨t, rfl⟩, ⟨t', rfl⟩⟩ := vals2 r
  refine min_two_str (I.ok.hd hc) fun h' tk k => ⟨_, H, I.kept k, ?_, q⟩
  have e : ((ch b).cps.toList < (ch a).cps.toList) ↔ b < a := by
    have := ch_lt b a
    simpa using this
  by_cases hj : b < a
  · rw [if_pos (e.mpr hj), Nat.min_eq_right (Nat.le_of_lt hj)]; exact ⟨_, rfl⟩
  · rw [if_neg (fun z => hj (e.mp z)), Nat.min_eq_left (by omega)]; exact ⟨_, rfl⟩
end
/-! ### the deck -/
structure Deck where
  dk : Addr
  ga : Addr
structure DeckOk (H : Hp) (D : Deck) : Prop where
  ex : ∃ (gs : List Int) (wh n : Int), H D.dk = some (.lst [.ref D.ga, .int wh, .int n]) ∧ H D.ga = some (.lst (gs.map V.int)) ∧ gs.length ≤ 63 ∧ 0 ≤ wh ∧ wh < 2 ^ 62
  ne : D.dk ≠ D.ga
/-- all stands still but the deck's two lists -/
def SameD (D : Deck) (H H' : Hp) : Prop := ∀ b o, b ≠ D.dk → b ≠ D.ga → H b = some o → H' b = some o
theorem SameD.refl (D : Deck) (H : Hp) : SameD D H H := fun _ _ _ _ h => h
theorem SameD.trans {D : Deck} {H H1 H2 : Hp} (a : SameD D H H1) (b : SameD D H1 H2) : SameD D H H2 := fun c o h1 h2 h => b c o h1 h2 (a c o h1 h2 h)
theorem SameD.of {D : Deck} {H H' : Hp} (h : Same H H') : SameD D H H' := fun b o _ _ e => h b o e
theorem DeckOk.lists {H : Hp} {D : Deck} (d : DeckOk H D) : (∃ xs, H D.dk = some (.lst xs)) ∧ (∃ xs, H D.ga = some (.lst xs)) := by
  obtain ⟨gs, wh, n, h1, h2, _⟩ := d.ex
  exact ⟨⟨_, h1⟩, ⟨_, h2⟩⟩
theorem SameD.keepT {D : Deck} {H H' : Hp} (h : SameD D H H') (d : DeckOk H D) : KeepT H H' := fun b xs e => by
  obtain ⟨⟨x1, h1⟩, ⟨x2, h2⟩⟩ := d.lists
  exact h b _ (ne_of e h1 (by intro z; cases z)) (ne_of e h2 (by intro z; cases z)) e
theorem SameD.free {D : Deck} {H H' : Hp} (h : SameD D H H') (d : DeckOk H' D) {p : Addr} (e : H' p = none) : H p = none := by
  obtain ⟨⟨x1, h1⟩, ⟨x2, h2⟩⟩ := d.lists
  have n1 : p ≠ D.dk := fun z => by rw [z, h1] at e; cases e
  have n2 : p ≠ D.ga := fun z => by rw [z, h2] at e; cases e
  cases q : H p with
  | none => rfl
  | some o =>
    rw [h p o n1 n2 q] at e
    cases e
theorem DeckOk.same {H H' : Hp} {D : Deck} (d : DeckOk H D) (h : Same H H') : DeckOk H' D := by
  obtain ⟨gs, wh, n, h1, h2, h3⟩ := d.ex
  exact ⟨⟨gs, wh, n, h _ _ h1, h _ _ h2, h3⟩, d.ne⟩
structure Off (D : Deck) (p : Addr) : Prop where
  dk : p ≠ D.dk
  ga : p ≠ D.ga
theorem DeckOk.new {H : Hp} {D : Deck} (d : DeckOk H D) {p : Addr} (e : H p = none) : Off D p := by
  obtain ⟨⟨x1, h1⟩, ⟨x2, h2⟩⟩ := d.lists
  refine ⟨fun z => ?_, fun z => ?_⟩
  · rw [z, h1] at e
    cases e
  · rw [z, h2] at e
    cases e
theorem DeckOk.put {H : Hp} {D : Deck} (d : DeckOk H D) {p : Addr} (f : Off D p) (o : HO) : DeckOk (upd H p o) D := by
  obtain ⟨gs, wh, n, h1, h2, h3⟩ := d.ex
  exact ⟨⟨gs, wh, n, by rw [upd_ne f.dk.symm]; exact h1, by rw [upd_ne f.ga.symm]; exact h2, h3⟩, d.ne⟩
theorem SameD.put {D : Deck} {H H' : Hp} {p : Addr} (s : SameD D H H') (e : H p = none) (o : HO) : SameD D H (upd H' p o) := fun b u h1 h2 h => by
  rw [upd_ne (ne_of_none h e)]
  exact s b u h1 h2 h
theorem SameD.at {D : Deck} {H H' : Hp} {p : Addr} {o : HO} (s : SameD D H H') (f : Off D p) (e : H p = some o) : H' p = some o := s p o f.dk f.ga e
theorem modP (z p : Int) (h0 : 0 < p) (h1 : p < 2 ^ 64) : -(2 ^ 64) < z % p ∧ z % p < 2 ^ 64 := by
  have a := Int.emod_nonneg z (show p ≠ 0 by omega)
  have b := Int.emod_lt_of_pos z h0
  omega
def spNext : Sp := fun vs H Q _ => ∃ (D : Deck) (m : Int), vs = [.ref D.dk, .int m] ∧ DeckOk H D ∧ 0 < m ∧ m < 1073741824 ∧ ∀ (i : Int) (H' : Hp), 0 ≤ i → i < m → DeckOk H' D → SameD D H H' → Q (.int i) H'
section
variable {P : Program} {w : World} {K : PySem.W.Frag} {mg : Str → Option Value} {base : Heap} {f : Addr} {fd : FuncData}
theorem ok_next {k : Nat} (F : Fun K "_law_next" "_law_next" s__law_next f fd) : FnOk P w K mg base CX0 (k + 1) f fd ["_law_deck", "_law_many"] spNext := by
  refine F.ok sc__law_next (fun vs H Q E h => ?_) (fun cdv A outer s H vs Q E hr h => ?_)
  · obtain ⟨D, m, rfl, _⟩ := h
    rfl
  obtain ⟨D, m, rfl, d, m0, m1, q⟩ := h
  refine ⟨_, (pss_cons (ps_while PassesOwn.never (pt_cmpR (op_neL hr.units0) (pe_ix ix_list (pv 0) pe_int (fun _ _ => rfl)) (pe_lst pa_nil) (nomark _))
      (pss_cons (ps_set (i := 2) sc__law_next.nd rfl (.inl rfl) (pe_bm0 PySem.F.plainAttrs_list PySem.F.slot_list_pop PySem.F.type_list_pop mt_pop (pe_ix ix_list (pv 0) pe_int (fun _ _ => rfl))))
    (pss_one (ps_if (pt_cmpR op_gt (pv 2) pe_int (nomark _))
      (pss_cons (ps_expr (pe_bm PySem.F.plainAttrs_list PySem.F.slot_list_append PySem.F.type_list_append mt_append (pe_ix ix_list (pv 0) pe_int (fun _ _ => rfl)) (pa_cons (pe_op op_fdiv (pv 2) (pv 1)) pa_nil)))
    (pss_one (ps_ret (pe_op op_mod (pv 2) (pv 1))))) pss_nil))))
    (pss_cons (ps_asg (pe_op op_add (pe_ix ix_list (pv 0) pe_int (fun _ _ => rfl)) pe_int) (pg_sub (pv 0) pe_int set_list))
    (pss_cons (ps_set (i := 3) sc__law_next.nd rfl (.inl rfl) (pe_op op_add (pe_op op_mul (pe_ix ix_list (pv 0) pe_int (fun _ _ => rfl)) (pe_op op_add pe_int (pe_op op_mul pe_int (pe_ix ix_list (pv 0) pe_int (fun _ _ => rfl))))) (pe_op op_mul pe_int (pe_ix ix_list (pv 0) pe_int (fun _ _ => rfl)))))
    (pss_cons (ps_set (i := 3) sc__law_next.nd rfl (.inl rfl) (pe_op op_mod (pv 3) pe_int))
    (pss_cons (ps_set (i := 3) sc__law_next.nd rfl (.inl rfl) (pe_op op_mod (pe_op op_mul (pv 3) (pv 3)) pe_int))
    (pss_one (ps_ret (pe_op op_mod (pe_op op_fdiv (pe_op op_mod (pe_op op_mul (pv 3) (pv 3)) pe_int) pe_int) (pv 1))))))))), ?_⟩
  refine while_by (fun σ H' => ∃ r, σ = [some (.ref D.dk), some (.int m), r, none] ∧ DeckOk H' D ∧ SameD D H H') (fun σ H' => match H' D.ga with | some (.lst xs) => xs.length | _ => 0) ⟨none, rfl, d, SameD.refl D H⟩ (fun σ H' hp => ?_) ?_
  · obtain ⟨r, rfl, d', s'⟩ := hp
    obtain ⟨gs, wh, n, e1, e2, gl, w0, w1⟩ := d'.ex
    have at0 : ∀ b c, atI [V.ref D.ga, b, c] 0 = some (.ref D.ga) := fun _ _ => atI_nat (j := 0) rfl
    refine ⟨_, rfl, D.dk, _, _, _, rfl, rfl, SqL.of e1, at0 _ _, (by show 0 ≤ sizeLine; decide), fun el ne => ?_⟩
    have q1 := same_new ne (.lst [])
    refine ⟨D.ga, el, _, rfl, rfl, SqL.of (q1 _ _ e2), SqL.of upd_same, _, rfl, ?_⟩
    have d1 := d'.same q1
    have s1 := s'.trans (SameD.of q1)
    have e1' := q1 _ _ e1
    have e2' := q1 _ _ e2
    generalize upd H' el (.lst []) = H1 at d1 s1 e1' e2'
    cases hg : gs with
    | nil =>
      refine iteF ?_
      subst hg
      -- the count
      refine ⟨_, rfl, D.dk, _, _, _, rfl, rfl, SqL.of e1', atI_nat (j := 2) rfl, _, _, rfl, rfl, _, rfl, D.dk, _, _, 2, rfl, rfl, e1', rfl, ?_⟩
      have x1 : (upd H1 D.dk (.lst [.ref D.ga, .int wh, .int (n + 1)])) D.dk = some (.lst [.ref D.ga, .int wh, .int (n + 1)]) := upd_same
      have x2 : (upd H1 D.dk (.lst [.ref D.ga, .int wh, .int (n + 1)])) D.ga = some (.lst []) := by rw [upd_ne d.ne.symm]; exact e2'
      have s2 : SameD D H (upd H1 D.dk (.lst [.ref D.ga, .int wh, .int (n + 1)])) := s1.trans fun b o h1 _ e => by rw [upd_ne h1]; exact e
      have y1 : atI [V.ref D.ga, .int wh, .int (n + 1)] 1 = some (.int wh) := atI_nat (j := 1) rfl
      have y2 : atI [V.ref D.ga, .int wh, .int (n + 1)] 2 = some (.int (n + 1)) := atI_nat (j := 2) rfl
      refine ⟨_, rfl, D.dk, _, _, _, rfl, rfl, SqL.of x1, y1, _, rfl, D.dk, _, _, _, rfl, rfl, SqL.of x1, y2, _, _, rfl, rfl, .inl ⟨by decide, by decide⟩, _, _, rfl, rfl, _, _, rfl, rfl, .inl ⟨by omega, by omega⟩, ?_⟩
      refine ⟨_, rfl, D.dk, _, _, _, rfl, rfl, SqL.of x1, y2, _, _, rfl, rfl, .inl ⟨by decide, by decide⟩, _, _, rfl, rfl, ?_⟩
      refine ⟨_, rfl, _, _, rfl, rfl, (show (0 : Int) < 2305843009213693951 by decide), ?_⟩
      refine ⟨_, rfl, _, rfl, _, _, rfl, rfl, .inl (modP _ _ (by decide) (by decide)), _, _, rfl, rfl, (show (0 : Int) < 2305843009213693951 by decide), ?_⟩
      refine ⟨_, rfl, _, rfl, _, _, rfl, rfl, .inl (modP _ _ (by decide) (by decide)), _, _, rfl, rfl, (show (0 : Int) < 4611686018427387847 by decide), _, _, rfl, rfl, ⟨by decide, by decide⟩, _, rfl, _, _, rfl, rfl, m0, ?_⟩
      exact q _ _ (Int.emod_nonneg _ (by omega)) (Int.emod_lt_of_pos _ m0) ⟨⟨[], wh, n + 1, x1, x2, by decide, w0, w1⟩, d.ne⟩ s2
    | cons g0 gr =>
      refine iteT ?_
      have gne : gs ≠ [] := by rw [hg]; exact List.cons_ne_nil _ _
      have gl' : gs.length - 1 < gs.length := by rw [hg]; exact Nat.lt_succ_self _
      have lst : (gs.map V.int)[(gs.map V.int).length - 1]? = some (.int gs[gs.length - 1]) := by
        rw [List.length_map, List.getElem?_map, List.getElem?_eq_getElem gl']
        rfl
      refine ⟨_, rfl, D.dk, _, _, _, rfl, rfl, SqL.of e1', at0 _ _, .inl ⟨rfl, _, SqL.of e2'⟩, D.ga, _, _, rfl, rfl, e2', lst, ?_⟩
      have z1 : (upd H1 D.ga (.lst (gs.map V.int).dropLast)) D.dk = some (.lst [.ref D.ga, .int wh, .int n]) := by rw [upd_ne d.ne]; exact e1'
      have z2 : (upd H1 D.ga (.lst (gs.map V.int).dropLast)) D.ga = some (.lst (gs.dropLast.map V.int)) := by rw [upd_same, List.map_dropLast]
      have s2 : SameD D H (upd H1 D.ga (.lst (gs.map V.int).dropLast)) := s1.trans fun b o _ h2 e => by rw [upd_ne h2]; exact e
      have dl : gs.dropLast.length < gs.length := by rw [List.length_dropLast]; exact gl'
      refine ⟨_, rfl, _, _, rfl, rfl, _, rfl, ite2 (fun _ => ?_) (fun _ => ?_)⟩
      · refine ⟨_, rfl, D.dk, _, _, _, rfl, rfl, SqL.of z1, at0 _ _, .inl ⟨rfl, _, SqL.of z2⟩, _, rfl, _, rfl, _, _, rfl, rfl, ⟨m0, m1⟩, D.ga, _, _, rfl, rfl, z2, by rw [List.length_map]; exact small1000 (by omega), ?_⟩
        refine ⟨_, rfl, _, rfl, _, _, rfl, rfl, m0, ?_⟩
        refine q _ _ (Int.emod_nonneg _ (by omega)) (Int.emod_lt_of_pos _ m0) ⟨⟨gs.dropLast ++ [gs[gs.length - 1] / m], wh, n, ?_, ?_, ?_, w0, w1⟩, d.ne⟩ ?_
        · rw [upd_ne d.ne]; exact z1
        · rw [upd_same, List.map_append]; rfl
        · rw [List.length_append, List.length_cons, List.length_nil]; omega
        · exact s2.trans fun b o _ h2 e => by rw [upd_ne h2]; exact e
      · refine ⟨⟨_, rfl, ⟨⟨gs.dropLast, wh, n, z1, z2, by omega, w0, w1⟩, d.ne⟩, s2⟩, ?_⟩
        show (match (upd H1 D.ga (.lst (gs.map V.int).dropLast)) D.ga with | some (.lst xs) => xs.length | _ => 0) < (match H' D.ga with | some (.lst xs) => xs.length | _ => 0)
        rw [z2, e2]
        show (gs.dropLast.map V.int).length < (gs.map V.int).length
        rw [List.length_map, List.length_map]
        exact dl
  · intro σ H' Q1 Q2 hQ h
    obtain ⟨v, e, p, xs, i, y, e2, e3, e4, e5, e6, h⟩ := h
    refine ⟨v, e, p, xs, i, y, e2, e3, e4, e5, e6, fun el ne => ?_⟩
    obtain ⟨a, b, zs, h1, h2, h3, h4, k, h5, h6⟩ := h el ne
    exact ⟨a, b, zs, h1, h2, h3, h4, k, h5, hQ _ _ h6⟩
end
/-! ### _law_begin -/
def spBegin (K : PySem.W.Frag) : Sp := fun vs H Q _ => ∃ (a : Addr) (ns : List Int), vs = [.ref a] ∧ SqL K H a (ns.map V.int) ∧ ns.length ≤ 63 ∧ ∀ (D : Deck) (H' : Hp), DeckOk H' D → Same H H' → Q (.ref D.dk) H'
section
variable {P : Program} {w : World} {K : PySem.W.Frag} {mg : Str → Option Value} {base : Heap} {f : Addr} {fd : FuncData}
theorem ok_begin {k : Nat} (F : Fun K "_law_begin" "_law_begin" s__law_begin f fd) (M : Mgs mg) : FnOk P w K mg base CX0 (k + 1) f fd ["_law_script"] (spBegin K) := by
  refine F.ok sc__law_begin (fun vs H Q E h => ?_) (fun cdv A outer s H vs Q E hr h => ?_)
  · obtain ⟨a, ns, rfl, _⟩ := h
    rfl
  obtain ⟨a, ns, rfl, hS, hn, q⟩ := h
  refine ⟨_, (pss_cons (ps_setLc (i := 2) (own := [("_law_cell", 1)]) (g := gName 1) (by rfl) sc__law_begin.nd rfl rfl (sw_true rfl rfl rfl (by decide +kernel)) (pi_list (pv 0)) (blkOk_by (N := ["_law_script", "_law_cell", "_law_greats", "_law_whole"]) (sc := defScope s__law_begin) (by decide +kernel)) (fun _ _ _ _ _ => (pg_name (i := 1) sc__law_begin.nd rfl (.inl rfl))) (fun _ _ _ _ _ => pts_one (pt_cmpR op_ge (pe_callB call_abs rfl M.abs (by decide +kernel) (pa_cons (pv 1) pa_nil)) (pe_op op_pow pe_int pe_int) (nomark _))) (fun _ _ _ _ _ => (pe_callB call_abs rfl M.abs (by decide +kernel) (pa_cons (pv 1) pa_nil))))
    (pss_cons (ps_set (i := 3) sc__law_begin.nd rfl (.inl rfl) (pe_op op_add pe_int (pe_callB call_len_seq rfl M.len PySem.boot_len (pa_cons (pv 0) pa_nil))))
    (pss_cons (ps_for PassesOwn.never rfl (pi_list (pv 0)) (pg_name (i := 1) sc__law_begin.nd rfl (.inl rfl))
      (pss_one (ps_set (i := 3) sc__law_begin.nd rfl (.inl rfl) (pe_op op_mod (pe_op op_add (pe_op op_add (pe_op op_mul (pv 3) pe_int) (pe_op op_mul pe_int (pe_callB call_abs rfl M.abs (by decide +kernel) (pa_cons (pv 1) pa_nil)))) (pe_callTy call_int1 rfl M.int (by decide +kernel) (pa_cons (pe_cmpR op_lt (pv 1) pe_int (nomark _)) pa_nil))) pe_int))))
    (pss_one (ps_ret (pe_lst (pa_cons (pe_revL (pv 2)) (pa_cons (pv 3) (pa_cons pe_int pa_nil))))))))), ?_⟩
  refine ⟨.ref a, rfl, a, rfl, ⟨_, hS⟩, fun d1 n1 => ?_⟩
  have s1 := same_new n1 (.lst [])
  refine lc_list (K := K) (a := a) (xs := ns.map V.int) (fun i H' => Same H H' ∧ ∃ zs : List Int, zs.length ≤ i ∧ H' d1 = some (.lst (zs.map V.int))) ⟨s1, [], Nat.le_refl _, upd_same⟩ (fun i H' _ hp => hp.1.seq hS) (fun i x H' hx hp => ?_) (fun H1 hp => ?_)
  · obtain ⟨sm, zs, hz, hd⟩ := hp
    rw [List.getElem?_map] at hx
    obtain ⟨y, hy, rfl⟩ := Option.map_eq_some_iff.mp hx
    have hi : i < 63 := by
      have := (List.getElem?_eq_some_iff.mp hy).1
      omega
    refine ⟨rfl, ?_⟩
    refine ⟨_, rfl, _, rfl, _, _, rfl, rfl, ⟨by decide, by decide, by decide⟩, _, _, rfl, rfl, _, rfl, ite2 (fun _ => ?_) (fun _ => ?_)⟩
    · refine ⟨_, rfl, _, rfl, _, hd, by rw [List.length_map]; exact small1000 (by omega), fun b o e => ?_, zs ++ [if y < 0 then -y else y], by rw [List.length_append]; show zs.length + 1 ≤ i + 1; omega, ?_⟩
      · rw [upd_ne (ne_of_none e n1)]
        exact sm _ _ e
      · rw [upd_same, List.map_append]
        rfl
    · exact ⟨sm, zs, by omega, hd⟩
  obtain ⟨sm, zs, hz, hd⟩ := hp
  rw [List.length_map] at hz
  refine ⟨.ref a, rfl, a, _, rfl, .inl (sm.seq hS), _, _, rfl, rfl, ?_⟩
  refine ⟨.ref a, rfl, a, rfl, ⟨_, sm.seq hS⟩, ?_⟩
  refine for_list (K := K) (a := a) (xs := ns.map V.int) (fun i σ H' => H' = H1 ∧ ∃ (c : Option V) (wh : Int), σ = [some (.ref a), c, some (.ref d1), some (.int wh)] ∧ 0 ≤ wh ∧ wh < 2 ^ 62) ⟨rfl, _, _, rfl, by omega, by rw [List.length_map]; omega⟩ (fun i σ H' _ hp => by rw [hp.1]; exact sm.seq hS) (fun i x σ H' hx hp => ?_) (fun σ H' hp => ?_)
  · obtain ⟨rfl, c, wh, rfl, w0, w1⟩ := hp
    rw [List.getElem?_map] at hx
    obtain ⟨y, hy, rfl⟩ := Option.map_eq_some_iff.mp hx
    refine ⟨_, rfl, _, _, rfl, rfl, .inl ⟨by omega, by omega⟩, _, rfl, _, rfl, _, _, rfl, rfl, .inl ⟨by decide, by decide⟩, _, _, rfl, rfl, _, rfl, _, _, rfl, rfl, .inr ⟨_, rfl, _, _, rfl, rfl, _, _, rfl, rfl, (show (0 : Int) < 2305843009213693951 by decide), ?_⟩⟩
    refine ⟨rfl, _, _, rfl, Int.emod_nonneg _ (by decide), ?_⟩
    exact Int.lt_trans (Int.emod_lt_of_pos _ (by decide)) (by decide)
  · obtain ⟨rfl, c, wh, rfl, w0, w1⟩ := hp
    refine ⟨_, rfl, d1, _, rfl, SqL.of hd, fun ga nga => ?_⟩
    refine ⟨_, rfl, (by show 3 ≤ sizeLine; decide), fun dk ndk => ?_⟩
    have s2 := same_new nga (.lst (zs.map V.int).reverse)
    have s3 := same_new ndk (.lst [.ref ga, .int wh, .int 0])
    have ega : (upd H' ga (.lst (zs.map V.int).reverse)) ga = some (.lst (zs.reverse.map V.int)) := by rw [upd_same, List.map_reverse]
    exact q ⟨dk, ga⟩ _ ⟨⟨zs.reverse, wh, 0, upd_same, s3 _ _ ega, by rw [List.length_reverse]; omega, w0, w1⟩, (ne_of_none ega ndk).symm⟩ (sm.trans (s2.trans s3))
end
/-! ### _law_mixed, _law_free -/
abbrev vc (c : Nat) : V := .str (ch c)
theorem erase_perm {α : Type} : ∀ {l : List α} {i : Nat} (h : i < l.length), List.Perm (l[i] :: l.eraseIdx i) l
  | x :: l, 0, _ => List.Perm.refl _
  | x :: l, i + 1, h => by
    have := erase_perm (l := l) (i := i) (Nat.lt_of_succ_lt_succ h)
    show List.Perm (l[i]'(Nat.lt_of_succ_lt_succ h) :: x :: l.eraseIdx i) (x :: l)
    exact (List.Perm.swap _ _ _).trans (this.cons x)
def spMixed : Sp := fun vs H Q _ => ∃ (D : Deck) (a : Addr) (ls : List Nat), vs = [.ref D.dk, .ref a] ∧ DeckOk H D ∧ H a = some (.lst (ls.map vc)) ∧ Off D a ∧ ls.length ≤ 60 ∧
  ∀ (p : Addr) (zs : List Nat) (H' : Hp), DeckOk H' D → SameD D H H' → H' p = some (.lst (zs.map vc)) → zs.Perm ls → Off D p → Q (.ref p) H'
section
variable {P : Program} {w : World} {K : PySem.W.Frag} {mg : Str → Option Value} {base : Heap} {f : Addr} {fd : FuncData}
theorem ok_mixed {k : Nat} (F : Fun K "_law_mixed" "_law_mixed" s__law_mixed f fd) (M : Mgs mg) (D_law_next : Df P w K mg base k "_law_next" ["_law_deck", "_law_many"] spNext) : FnOk P w K mg base CX0 (k + 1) f fd ["_law_deck", "_law_items"] spMixed := by
  refine F.ok sc__law_mixed (fun vs H Q E h => ?_) (fun cdv A outer s H vs Q E hr h => ?_)
  · obtain ⟨D, a, ls, rfl, _⟩ := h
    rfl
  obtain ⟨D, a, ls, rfl, d, ea, oa, hl, q⟩ := h
  refine ⟨_, (pss_cons (ps_par (i := 2) (j := 3) (by rfl) sc__law_mixed.nd rfl rfl (by decide) rfl rfl (pa_cons (pe_callTy call_list_of rfl M.list (by decide +kernel) (pa_cons (pv 1) pa_nil)) (pa_cons (pe_lst pa_nil) pa_nil)) (by rfl))
    (pss_cons (ps_while PassesOwn.never (pt_cmpR (op_neL hr.units0) (pv 2) (pe_lst pa_nil) (nomark _))
      (pss_one (ps_expr (pe_bm PySem.F.plainAttrs_list PySem.F.slot_list_append PySem.F.type_list_append mt_append (pv 3) (pa_cons (pe_bm PySem.F.plainAttrs_list PySem.F.slot_list_pop PySem.F.type_list_pop mt_popAt (pv 2) (pa_cons (pe_call D_law_next.ok (hr.mono (by omega)) rfl D_law_next.g D_law_next.kp D_law_next.b .nil pass0 (pa_cons (pv 0) (pa_cons (pe_callB call_len_seq rfl M.len PySem.boot_len (pa_cons (pv 2) pa_nil)) pa_nil))) pa_nil)) pa_nil)))))
    (pss_one (ps_ret (pv 3))))), ?_⟩
  refine ⟨_, rfl, a, _, rfl, .inl (SqL.of ea), fun ra nra => ⟨(by show 0 ≤ sizeLine; decide), fun fa nfa => ?_⟩⟩
  refine ⟨_, _, rfl, ?_⟩
  have q1 := same_new nra (.lst (ls.map vc))
  have q2 := same_new nfa (.lst [])
  have era := q2 _ _ (upd_same (H := H) (a := ra) (o := .lst (ls.map vc)))
  have nrf : ra ≠ fa := ne_of_none upd_same nfa
  have nfaH : H fa = none := by
    rw [upd_ne nrf.symm] at nfa
    exact nfa
  have ora := d.new nra
  have ofa := d.new nfaH
  refine while_by (fun σ H' => σ = [some (.ref D.dk), some (.ref a), some (.ref ra), some (.ref fa)] ∧ ∃ rest xs : List Nat, DeckOk H' D ∧ SameD D H H' ∧ H' ra = some (.lst (rest.map vc)) ∧ H' fa = some (.lst (xs.map vc)) ∧ (xs ++ rest).Perm ls) (fun σ H' => match H' ra with | some (.lst xs) => xs.length | _ => 0)
    ⟨rfl, ls, [], (d.same q1).same q2, SameD.of (q1.trans q2), era, upd_same, List.Perm.refl _⟩ (fun σ H' hp => ?_) ?_
  · obtain ⟨rfl, rest, xs, d', s', er, ef, pm⟩ := hp
    have hlen : xs.length + rest.length = ls.length := by rw [← List.length_append]; exact pm.length_eq
    refine ⟨_, rfl, (by show 0 ≤ sizeLine; decide), fun el ne => ?_⟩
    have q3 := same_new ne (.lst [])
    refine ⟨ra, el, _, rfl, rfl, SqL.of (q3 _ _ er), SqL.of upd_same, _, rfl, ?_⟩
    have d1 := d'.same q3
    have s1 := s'.trans (SameD.of q3)
    have er1 := q3 _ _ er
    have ef1 := q3 _ _ ef
    generalize upd H' el (.lst []) = H1 at d1 s1 er1 ef1
    cases hg : rest with
    | nil =>
      refine iteF ?_
      subst hg
      rw [List.append_nil] at pm
      exact ⟨_, rfl, q fa xs H1 d1 s1 ef1 pm ofa⟩
    | cons g0 gr =>
      refine iteT ?_
      have r0 : 0 < rest.length := by rw [hg]; exact Nat.succ_pos _
      refine ⟨_, rfl, .inl ⟨rfl, _, SqL.of ef1⟩, _, rfl, .inl ⟨rfl, _, SqL.of er1⟩, _, rfl, _, rfl, ra, _, rfl, .inl (SqL.of er1), D, _, rfl, d1, ?_, ?_, fun j H2 j0 j1 d2 s2 => ?_⟩
      · rw [List.length_map]; omega
      · rw [List.length_map]; omega
      rw [List.length_map] at j1
      have hj : j.toNat < rest.length := by omega
      have er2 := s2.at ora er1
      have ef2 := s2.at ofa ef1
      refine ⟨ra, _, j, j.toNat, vc rest[j.toNat], rfl, rfl, er2, by omega, by omega, ?_, ?_, ?_⟩
      · exact (ixN_seq (ixN_nat j0 (by rw [List.length_map]; omega))).1
      · rw [List.getElem?_map, List.getElem?_eq_getElem hj]; rfl
      have ef3 : (upd H2 ra (.lst ((rest.map vc).eraseIdx j.toNat))) fa = some (.lst (xs.map vc)) := by rw [upd_ne nrf.symm]; exact ef2
      refine ⟨fa, _, _, rfl, rfl, ef3, by rw [List.length_map]; exact small1000 (by omega), ?_⟩
      refine ⟨⟨rfl, rest.eraseIdx j.toNat, xs ++ [rest[j.toNat]], (d2.put ora _).put ofa _, ((s1.trans s2).put nra _).put nfaH _, ?_, ?_, ?_⟩, ?_⟩
      · rw [upd_ne nrf, upd_same, erase_map]
      · rw [upd_same, List.map_append]; rfl
      · rw [List.append_assoc]
        exact (List.Perm.append_left xs (erase_perm hj)).trans pm
      · show (match (upd (upd H2 ra _) fa (.lst (xs.map vc ++ [vc rest[j.toNat]]))) ra with | some (.lst xs) => xs.length | _ => 0) < (match H' ra with | some (.lst xs) => xs.length | _ => 0)
        rw [upd_ne nrf, upd_same, er]
        show ((rest.map vc).eraseIdx j.toNat).length < (rest.map vc).length
        rw [List.length_eraseIdx_of_lt (by rw [List.length_map]; exact hj), List.length_map]
        omega
  · intro σ H' Q1 Q2 hQ h
    obtain ⟨v, e, h0, h⟩ := h
    refine ⟨v, e, h0, fun el ne => ?_⟩
    obtain ⟨a, b, zs, h1, h2, h3, h4, k, h5, h6⟩ := h el ne
    exact ⟨a, b, zs, h1, h2, h3, h4, k, h5, hQ _ _ h6⟩
end
def spFree (n : Nat) : Sp := fun vs H Q _ => ∃ (D : Deck) (a : Addr) (ls : List Nat), vs = [.ref D.dk, .ref a] ∧ DeckOk H D ∧ H a = some (.lst (ls.map vc)) ∧ Off D a ∧ ls.length < n ∧ ls.length ≤ 60 ∧
  ∀ (p : Addr) (zs : List Nat) (H' : Hp), DeckOk H' D → SameD D H H' → H' p = some (.lst (zs.map vc)) → zs.Perm ls → Off D p → Q (.ref p) H'
section
variable {P : Program} {w : World} {K : PySem.W.Frag} {mg : Str → Option Value} {base : Heap} {f : Addr} {fd : FuncData}
theorem op_eqL {X : Cx} (hu : X.A.units < cLine) : OpR X (compareOp .Eq) (fun x y H Q => ∃ a b xs, x = .ref a ∧ y = .ref b ∧ SqL X.K H a xs ∧ SqL X.K H b [] ∧ Q (.bl xs.isEmpty) H) := by
  intro pins s σ H x y v u Q I rx ry h
  obtain ⟨a, b, xs, rfl, rfl, hx, hy, q⟩ := h
  cases rx
  cases ry
  obtain ⟨its, r1, t1, _⟩ := I.list hx
  obtain ⟨its2, r2, t2, _⟩ := I.list hy
  cases r2
  cases r1 with
  | nil =>
    have rc := SeqAt.RcAt.lists (A := X.A) (s := s) (items := ([] : List Value).toArray) (items2 := ([] : List Value).toArray) (e := fun _ => true) t1.isList t2.isList rfl hu (fun j h1 _ => absurd h1 (by simp))
    exact rc X.prog X.w X.xe _ ⟨.bl _, H, I, rfl, q⟩
  | cons _ _ =>
    have rc := SeqAt.RcAt.lists_lengths (A := X.A) (s := s) t1.isList t2.isList (by simp) hu
    exact rc X.prog X.w X.xe _ ⟨.bl _, H, I, rfl, q⟩
theorem ok_free (F : Fun K "_law_free" "_law_free" s__law_free f fd) (b : Binds K fd ["_law_deck", "_law_letters"] []) (g : mg "_law_free" = some (.ref f)) (M : Mgs mg) (D_law_next : Df P w K mg base 1 "_law_next" ["_law_deck", "_law_many"] spNext) :
    ∀ n : Nat, FnOk P w K mg base CX0 (n + 1) f fd ["_law_deck", "_law_letters"] (spFree n)
  | 0 => by
    have no : ∀ vs H Q E, ¬ spFree 0 vs H Q E := fun vs H Q E h => by
      obtain ⟨D, a, ls, _, _, _, _, h1, _⟩ := h
      omega
    exact ⟨fun vs H Q E h => absurd h (no vs H Q E), fun A outer s H args us vs Q E _ _ _ _ h => absurd h (no vs H Q E)⟩
  | n + 1 => by
    have Dself : Df P w K mg base (n + 1) "_law_free" ["_law_deck", "_law_letters"] (spFree n) := ⟨f, fd, ok_free F b g M D_law_next n, b, F.kp, g⟩
    refine F.ok sc__law_free (fun vs H Q E h => ?_) (fun cdv A outer s H vs Q E hr h => ?_)
    · obtain ⟨D, a, ls, rfl, _⟩ := h
      rfl
    obtain ⟨D, a, ls, rfl, d, ea, oa, hn, hl, q⟩ := h
    refine ⟨_, (pss_cons (ps_if (pt_cmpR (op_eqL hr.units0) (pv 1) (pe_lst pa_nil) (nomark _))
      (pss_one (ps_ret (pe_lst pa_nil))) pss_nil)
    (pss_cons (ps_set (i := 2) sc__law_free.nd rfl (.inl rfl) (pe_call D_law_next.ok (hr.mono (by omega)) rfl D_law_next.g D_law_next.kp D_law_next.b .nil pass0 (pa_cons (pv 0) (pa_cons (pe_callB call_len_seq rfl M.len PySem.boot_len (pa_cons (pv 1) pa_nil)) pa_nil))))
    (pss_one (ps_ret (pe_op op_cat (pe_op op_cat (pe_lst (pa_cons (pe_ix ix_list (pv 1) (pv 2) (fun _ _ => rfl)) pa_nil)) (pe_call Dself.ok (hr.mono (by omega)) rfl Dself.g Dself.kp Dself.b .nil pass0 (pa_cons (pv 0) (pa_cons (pe_slice sl_list (pv 1) po_none (po_some (pv 2))) pa_nil)))) (pe_call Dself.ok (hr.mono (by omega)) rfl Dself.g Dself.kp Dself.b .nil pass0 (pa_cons (pv 0) (pa_cons (pe_slice sl_list (pv 1) (po_some (pe_op op_add (pv 2) pe_int)) po_none) pa_nil)))))))), ?_⟩
    refine ⟨_, rfl, (by show 0 ≤ sizeLine; decide), fun el ne => ?_⟩
    have q1 := same_new ne (.lst [])
    refine ⟨a, el, _, rfl, rfl, SqL.of (q1 _ _ ea), SqL.of upd_same, _, rfl, ite2 (fun c => ?_) (fun c => ?_)⟩
    · have e0 : ls = [] := by
        have := List.isEmpty_iff.mp c
        exact List.map_eq_nil_iff.mp this
      refine ⟨(by show 0 ≤ sizeLine; decide), fun p np => ?_⟩
      have q2 := same_new np (.lst [])
      subst e0
      exact q p [] _ ((d.same q1).same q2) (SameD.of (q1.trans q2)) upd_same (List.Perm.refl _) ((d.same q1).new np)
    · have l0 : 0 < ls.length := by
        cases ls with
        | nil => exact absurd rfl c
        | cons _ _ => exact Nat.succ_pos _
      refine ⟨_, rfl, _, rfl, a, _, rfl, .inl (SqL.of (q1 _ _ ea)), D, _, rfl, d.same q1, by rw [List.length_map]; omega, by rw [List.length_map]; omega, fun j H1 j0 j1 d1 s1 => ?_⟩
      rw [List.length_map] at j1
      have hj : j.toNat < ls.length := by omega
      have ej : j = ((j.toNat : Nat) : Int) := by omega
      have sA := (SameD.of q1).trans s1
      have ea1 := sA.at oa ea
      refine ⟨_, rfl, _, rfl, a, _, _, _, rfl, rfl, SqL.of ea1, at_map j0 (List.getElem?_eq_getElem hj), (by show 1 ≤ sizeLine; decide), fun r nr => ?_⟩
      have q2 := same_new nr (.lst [vc ls[j.toNat]])
      have or_ := d1.new nr
      have er := upd_same (H := H1) (a := r) (o := .lst [vc ls[j.toNat]])
      have d2 := d1.same q2
      have s2 := sA.trans (SameD.of q2)
      have ea2 := q2 _ _ ea1
      generalize upd H1 r (.lst [vc ls[j.toNat]]) = H2 at d2 s2 ea2 er
      refine ⟨_, rfl, _, rfl, _, rfl, _, rfl, a, _, rfl, SqL.of ea2, fun p1 np1 => ?_⟩
      rw [ej, cut_to, ← List.map_take]
      have q3 := same_new np1 (.lst ((ls.take j.toNat).map vc))
      have lt : (ls.take j.toNat).length = j.toNat := by rw [List.length_take]; omega
      refine ⟨D, p1, ls.take j.toNat, rfl, d2.same q3, upd_same, d2.new np1, by omega, by omega, fun pl zl H3 d3 s3 el3 pml ol => ?_⟩
      have s23 := (SameD.of (D := D) q3).trans s3
      refine ⟨r, pl, _, _, rfl, rfl, s23.at or_ er, el3, ?_, fun r2 nr2 => ?_⟩
      · rw [List.length_map, pml.length_eq]; exact small (by show 1 + _ ≤ 1000; omega)
      have q4 := same_new nr2 (.lst ([vc ls[j.toNat]] ++ zl.map vc))
      have or2 := d3.new nr2
      have er2 := upd_same (H := H3) (a := r2) (o := .lst ([vc ls[j.toNat]] ++ zl.map vc))
      have d4 := d3.same q4
      have s4 := (s2.trans s23).trans (SameD.of q4)
      have ea4 := s4.at oa ea
      generalize upd H3 r2 (.lst ([vc ls[j.toNat]] ++ zl.map vc)) = H4 at d4 s4 ea4 er2
      refine ⟨_, rfl, _, rfl, _, rfl, _, _, rfl, rfl, _, rfl, a, _, rfl, SqL.of ea4, fun p2 np2 => ?_⟩
      rw [show cutV (ls.map vc) (some (((j.toNat : Nat) : Int) + 1)) none = (ls.drop (j.toNat + 1)).map vc by rw [show ((j.toNat : Nat) : Int) + 1 = ((j.toNat + 1 : Nat) : Int) by omega, cut_from, List.map_drop]]
      have q5 := same_new np2 (.lst ((ls.drop (j.toNat + 1)).map vc))
      have ld : (ls.drop (j.toNat + 1)).length = ls.length - 1 - j.toNat := by rw [List.length_drop]; omega
      refine ⟨D, p2, ls.drop (j.toNat + 1), rfl, d4.same q5, upd_same, d4.new np2, by omega, by omega, fun pr zr H5 d5 s5 er5 pmr or5 => ?_⟩
      have s45 := (SameD.of (D := D) q5).trans s5
      refine ⟨r2, pr, _, _, rfl, rfl, s45.at or2 er2, er5, ?_, fun r3 nr3 => ?_⟩
      · rw [List.length_append, List.length_map, List.length_map, pml.length_eq, pmr.length_eq]; exact small (by show 1 + _ + _ ≤ 1000; omega)
      have q6 := same_new nr3 (.lst (([vc ls[j.toNat]] ++ zl.map vc) ++ zr.map vc))
      refine q r3 (ls[j.toNat] :: (zl ++ zr)) _ (d5.same q6) ((s4.trans s45).trans (SameD.of q6)) ?_ ?_ (d5.new nr3)
      · rw [upd_same, List.map_cons, List.map_append]; rfl
      · have h1 : (ls[j.toNat] :: (zl ++ zr)).Perm (ls[j.toNat] :: (ls.take j.toNat ++ ls.drop (j.toNat + 1))) := (pml.append pmr).cons _
        refine h1.trans ?_
        refine List.Perm.symm (List.perm_middle.symm.trans ?_).symm
        rw [← List.drop_eq_getElem_cons hj, List.take_append_drop]
end
/-! ### _law_order -/
theorem iteI {i j : Int} {A B : Prop} (h : i = j) (a : A) : if decide (V.int i = V.int j) = true then A else B := by
  rw [if_pos (decide_eq_true (congrArg V.int h))]; exact a
theorem iteJ {i j : Int} {A B : Prop} (h : i ≠ j) (b : B) : if decide (V.int i = V.int j) = true then A else B := by
  rw [if_neg (fun z => h (V.int.inj (of_decide_eq_true z)))]; exact b
def abcN : List Nat := (Str.ofString "abcdefghijklmnopqrstuvwxyz").cps.toList
theorem abcN_len : abcN.length = 26 := by decide +kernel
theorem abcN_nodup : abcN.Nodup := by decide +kernel
theorem abcN_in : ∀ c ∈ abcN, 97 ≤ c ∧ c ≤ 122 := by decide +kernel
theorem perm_ch {ys : List Str} {l : List Nat} (h : ys.Perm (l.map ch)) : ∃ zs : List Nat, ys = zs.map ch ∧ zs.Perm l := by
  have hy : ∀ y ∈ ys, ch ((fun y : Str => y.cps.toList.headD 0) y) = y := fun y hy => by
    obtain ⟨c, _, rfl⟩ := List.mem_map.mp (h.mem_iff.mp hy)
    rfl
  refine ⟨ys.map fun y => y.cps.toList.headD 0, ?_, ?_⟩
  · rw [List.map_map]
    clear h
    induction ys with
    | nil => rfl
    | cons y r ih =>
      rw [List.map_cons, ← ih fun z hz => hy z (List.mem_cons_of_mem _ hz)]
      exact congrArg (· :: r) (hy y List.mem_cons_self).symm
  · have := h.map (fun y : Str => y.cps.toList.headD 0)
    rw [List.map_map] at this
    have e : l.map ((fun y : Str => y.cps.toList.headD 0) ∘ ch) = l := by
      clear h this
      induction l with
      | nil => rfl
      | cons c r ih => rw [List.map_cons, ih]; rfl
    rw [e] at this
    exact this
theorem map_vc (l : List Nat) : l.map vc = (l.map ch).map V.str := by rw [List.map_map]; rfl
/-- letters, each once -/
def Lts (l : List Nat) : Prop := l.Nodup ∧ ∀ c ∈ l, 97 ≤ c ∧ c ≤ 122
theorem Lts.perm {l l' : List Nat} (h : Lts l) (p : l'.Perm l) : Lts l' := ⟨p.nodup_iff.mpr h.1, fun c hc => h.2 c (p.mem_iff.mp hc)⟩
theorem Lts.sub {l l' : List Nat} (h : Lts l) (p : l'.Sublist l) : Lts l' := ⟨h.1.sublist p, fun c hc => h.2 c (p.subset hc)⟩
theorem abcN_lts : Lts abcN := ⟨abcN_nodup, abcN_in⟩
def spOrder : Sp := fun vs H Q _ => ∃ (D : Deck) (lo hi : Nat), vs = [.ref D.dk, .int (lo : Int), .int (hi : Int)] ∧ DeckOk H D ∧ lo ≤ hi ∧ hi ≤ 26 ∧
  ∀ (zs : List Nat) (H' : Hp), DeckOk H' D → SameD D H H' → Lts zs → lo ≤ zs.length → zs.length ≤ hi → Q (.str (tx zs)) H'
section
variable {P : Program} {w : World} {K : PySem.W.Frag} {mg : Str → Option Value} {base : Heap} {f : Addr} {fd : FuncData}
theorem ok_order (F : Fun K "_law_order" "_law_order" s__law_order f fd) (M : Mgs mg) (D_law_next : Df P w K mg base 1 "_law_next" ["_law_deck", "_law_many"] spNext) (D_law_mixed : Df P w K mg base 2 "_law_mixed" ["_law_deck", "_law_items"] spMixed)
    (D_law_free : Df P w K mg base 31 "_law_free" ["_law_deck", "_law_letters"] (spFree 30)) : FnOk P w K mg base CX0 32 f fd ["_law_deck", "_law_low", "_law_high"] spOrder := by
  refine F.ok sc__law_order (fun vs H Q E h => ?_) (fun cdv A outer s H vs Q E hr h => ?_)
  · obtain ⟨D, lo, hi, rfl, _⟩ := h
    rfl
  obtain ⟨D, lo, hi, rfl, d, lh, h26, q⟩ := h
  refine ⟨_, (pss_cons (ps_par (i := 3) (j := 4) (by rfl) sc__law_order.nd rfl rfl (by decide) rfl rfl (pa_cons (pe_op op_add (pv 1) (pe_call D_law_next.ok (hr.mono (by omega)) rfl D_law_next.g D_law_next.kp D_law_next.b .nil pass0 (pa_cons (pv 0) (pa_cons (pe_op op_add (pe_op op_sub (pv 2) (pv 1)) pe_int) pa_nil)))) (pa_cons (pe_call D_law_next.ok (hr.mono (by omega)) rfl D_law_next.g D_law_next.kp D_law_next.b .nil pass0 (pa_cons (pv 0) (pa_cons pe_int pa_nil))) pa_nil)) (by rfl))
    (pss_cons (ps_set (i := 5) sc__law_order.nd rfl (.inl rfl) (pe_callB cr_sortedS rfl M.sorted (by decide +kernel) (pa_cons (pe_slice sl_list (pe_call D_law_mixed.ok (hr.mono (by omega)) rfl D_law_mixed.g D_law_mixed.kp D_law_mixed.b .nil pass0 (pa_cons (pv 0) (pa_cons (pe_callTy (call_signs rfl) rfl M.list (by decide +kernel) (pa_cons pe_str pa_nil)) pa_nil))) po_none (po_some (pv 3))) pa_nil)))
    (pss_cons (ps_if (pt_cmpR op_eq (pv 4) pe_int (nomark _))
      (pss_one (ps_set (i := 5) sc__law_order.nd rfl (.inl rfl) (pe_call D_law_mixed.ok (hr.mono (by omega)) rfl D_law_mixed.g D_law_mixed.kp D_law_mixed.b .nil pass0 (pa_cons (pv 0) (pa_cons (pv 5) pa_nil))))) pss_nil)
    (pss_cons (ps_if (pt_cmpR op_eq (pv 4) pe_int (nomark _))
      (pss_one (ps_set (i := 5) sc__law_order.nd rfl (.inl rfl) (pe_revL (pv 5)))) pss_nil)
    (pss_cons (ps_if (pt_cmpR op_eq (pv 4) pe_int (nomark _))
      (pss_one (ps_set (i := 5) sc__law_order.nd rfl (.inl rfl) (pe_call D_law_free.ok (hr.mono (by omega)) rfl D_law_free.g D_law_free.kp D_law_free.b .nil pass0 (pa_cons (pv 0) (pa_cons (pv 5) pa_nil))))) pss_nil)
    (pss_one (ps_ret (pe_bm PySem.F.plainAttrs_str PySem.F.slot_str_join PySem.F.type_str_join mt_join pe_str (pa_cons (pv 5) pa_nil))))))))), ?_⟩
  refine ⟨_, rfl, _, rfl, _, rfl, _, rfl, _, _, rfl, rfl, _, _, rfl, rfl, D, _, rfl, d, by omega, by omega, fun i H1 i0 i1 d1 s1 => ?_⟩
  refine ⟨_, _, rfl, rfl, _, rfl, D, _, rfl, d1, by decide, by decide, fun wy H2 w0 w1 d2 s2 => ?_⟩
  refine ⟨_, _, rfl, ?_⟩
  have s12 := s1.trans s2
  refine ⟨_, rfl, _, rfl, by decide +kernel, fun la nla => ?_⟩
  have q1 := same_new nla (.lst (abcN.map vc))
  refine ⟨D, la, abcN, rfl, d2.same q1, upd_same, d2.new nla, by rw [abcN_len]; decide, fun pm zm H3 d3 s3 em pmm om => ?_⟩
  have s13 := s12.trans ((SameD.of q1).trans s3)
  have ei : (lo : Int) + i = ((lo + i.toNat : Nat) : Int) := by omega
  refine ⟨_, rfl, _, rfl, pm, _, rfl, SqL.of em, fun pc npc => ?_⟩
  rw [ei, cut_to, ← List.map_take]
  have q2 := same_new npc (.lst ((zm.take (lo + i.toNat)).map vc))
  have tl : (zm.take (lo + i.toNat)).length = lo + i.toNat := by rw [List.length_take, pmm.length_eq, abcN_len]; omega
  have lt0 : Lts (zm.take (lo + i.toNat)) := (abcN_lts.perm pmm).sub (List.take_sublist _ _)
  have ec : (upd H3 pc (.lst ((zm.take (lo + i.toNat)).map vc))) pc = some (.lst (((zm.take (lo + i.toNat)).map ch).map V.str)) := by rw [upd_same, map_vc]
  refine ⟨pc, (zm.take (lo + i.toNat)).map ch, rfl, SqL.of ec, by rw [List.length_map, tl]; omega, fun ys ps pms _ nps => ?_⟩
  obtain ⟨zs, rfl, pz⟩ := perm_ch pms
  rw [← map_vc]
  have q3 := same_new nps (.lst (zs.map vc))
  have ltz := lt0.perm pz
  have zl : zs.length = lo + i.toNat := pz.length_eq.trans tl
  have d5 := (d3.same q2).same q3
  have s15 := s13.trans (SameD.of (q2.trans q3))
  have ops := (d3.same q2).new nps
  have eps := upd_same (H := upd H3 pc (.lst ((zm.take (lo + i.toNat)).map vc))) (a := ps) (o := .lst (zs.map vc))
  generalize upd (upd H3 pc (.lst ((zm.take (lo + i.toNat)).map vc))) ps (.lst (zs.map vc)) = H5 at d5 s15 eps
  have fin : ∀ (p : Addr) (us : List Nat) (H' : Hp), DeckOk H' D → SameD D H H' → H' p = some (.lst (us.map vc)) → us.Perm zs → ∃ (a : Str) (p' : Addr) (ys : List Str), V.str (Str.ofString "") = .str a ∧ [V.ref p] = [.ref p'] ∧ (SqL K H' p' (ys.map V.str) ∨ SqT K H' p' (ys.map V.str)) ∧ (ys.map (·.length)).sum + ys.length * a.length ≤ 16777216 ∧ Q (.str (Txt.join a ys)) H' := fun p us H' d' s' e' pu => by
    refine ⟨_, p, us.map ch, rfl, rfl, .inl (SqL.of (by rw [← map_vc]; exact e')), tx_joinOk us (by rw [pu.length_eq]; omega), ?_⟩
    rw [tx_join]
    exact q us H' d' s' (ltz.perm pu) (by rw [pu.length_eq]; omega) (by rw [pu.length_eq]; omega)
  have hw : wy = 0 ∨ wy = 1 ∨ wy = 2 ∨ wy = 3 := by omega
  rcases hw with rfl | rfl | rfl | rfl
  · refine ⟨_, rfl, rfl, _, rfl, iteI rfl ?_⟩
    refine ⟨_, rfl, _, rfl, D, ps, zs, rfl, d5, eps, ops, by omega, fun p us H6 d6 s6 e6 p6 o6 => ?_⟩
    refine ⟨_, rfl, rfl, _, rfl, iteJ (by decide) ?_⟩
    refine ⟨_, rfl, rfl, _, rfl, iteJ (by decide) ?_⟩
    exact ⟨rfl, _, rfl, fin p us H6 d6 (s15.trans s6) e6 p6⟩
  · refine ⟨_, rfl, rfl, _, rfl, iteJ (by decide) ?_⟩
    refine ⟨_, rfl, rfl, _, rfl, iteI rfl ?_⟩
    refine ⟨_, rfl, ps, _, rfl, SqL.of eps, fun p np => ?_⟩
    refine ⟨_, rfl, rfl, _, rfl, iteJ (by decide) ?_⟩
    have q6 := same_new np (.lst (zs.map vc).reverse)
    exact ⟨rfl, _, rfl, fin p zs.reverse _ (d5.same q6) (s15.trans (SameD.of q6)) (by rw [upd_same, List.map_reverse]) (List.reverse_perm _)⟩
  · refine ⟨_, rfl, rfl, _, rfl, iteJ (by decide) ?_⟩
    refine ⟨_, rfl, rfl, _, rfl, iteJ (by decide) ?_⟩
    refine ⟨_, rfl, rfl, _, rfl, iteI rfl ?_⟩
    refine ⟨_, rfl, _, rfl, D, ps, zs, rfl, d5, eps, ops, by omega, by omega, fun p us H6 d6 s6 e6 p6 o6 => ?_⟩
    exact ⟨rfl, _, rfl, fin p us H6 d6 (s15.trans s6) e6 p6⟩
  · refine ⟨_, rfl, rfl, _, rfl, iteJ (by decide) ?_⟩
    refine ⟨_, rfl, rfl, _, rfl, iteJ (by decide) ?_⟩
    refine ⟨_, rfl, rfl, _, rfl, iteJ (by decide) ?_⟩
    exact ⟨rfl, _, rfl, fin ps zs H5 d5 s15 eps (List.Perm.refl _)⟩
end
/-! ### trees by inserting -/
def B.ins : B → Nat → B
  | .nil, c => .node .nil c .nil
  | .node l x r, c => if c < x then .node (l.ins c) x r else .node l x (r.ins c)
theorem B.ins_size (t : B) (c : Nat) : (t.ins c).size = t.size + 1 := by
  induction t with
  | nil => rfl
  | node l x r h1 h2 =>
    show (if c < x then B.node (l.ins c) x r else .node l x (r.ins c)).size = l.size + 1 + r.size + 1
    split
    · show (l.ins c).size + 1 + r.size = _
      omega
    · show l.size + 1 + (r.ins c).size = _
      omega
def gr (zs : List Nat) : B := zs.foldl B.ins .nil
theorem foldl_ins_size (zs : List Nat) : ∀ t : B, (zs.foldl B.ins t).size = t.size + zs.length := by
  induction zs with
  | nil => intro t; rfl
  | cons c r ih => intro t; rw [List.foldl_cons, ih, B.ins_size, List.length_cons]; omega
theorem gr_size (zs : List Nat) : (gr zs).size = zs.length := by
  unfold gr
  rw [foldl_ins_size]
  exact Nat.zero_add _
def spPut (n : Nat) : Sp := fun vs H Q _ => ∃ (v : V) (t : B) (c : Nat), vs = [v, .str (ch c)] ∧ BAt H v t ∧ t.size < n ∧ ∀ (v' : V) (H' : Hp), Same H H' → BAt H' v' (t.ins c) → Q v' H'
section
variable {P : Program} {w : World} {K : PySem.W.Frag} {mg : Str → Option Value} {base : Heap} {f : Addr} {fd : FuncData}
theorem ok_put (F : Fun K "_law_put" "_law_put" s__law_put f fd) (b : Binds K fd ["_law_tree", "_law_letter"] []) (g : mg "_law_put" = some (.ref f)) : ∀ n : Nat, FnOk P w K mg base CX0 n f fd ["_law_tree", "_law_letter"] (spPut n)
  | 0 => by
    have no : ∀ vs H Q E, ¬ spPut 0 vs H Q E := fun vs H Q E h => by
      obtain ⟨v, t, c, _, _, h1, _⟩ := h
      omega
    exact ⟨fun vs H Q E h => absurd h (no vs H Q E), fun A outer s H args us vs Q E _ _ _ _ h => absurd h (no vs H Q E)⟩
  | n + 1 => by
    have Dself : Df P w K mg base n "_law_put" ["_law_tree", "_law_letter"] (spPut n) := ⟨f, fd, ok_put F b g n, b, F.kp, g⟩
    refine F.ok sc__law_put (fun vs H Q E h => ?_) (fun cdv A outer s H vs Q E hr h => ?_)
    · obtain ⟨v, t, c, rfl, _⟩ := h
      rfl
    obtain ⟨v, t, c, rfl, hv, hn, q⟩ := h
    refine ⟨_, (pss_cons (ps_if (pt_cmpR op_isN (pv 0) pe_non (nomark _))
      (pss_one (ps_ret (pe_tup (pa_cons pe_non (pa_cons (pv 1) (pa_cons pe_non pa_nil)))))) pss_nil)
    (pss_cons (ps_asg (pv 0) (pg_tup rfl (pgs_cons (pg_name (i := 2) sc__law_put.nd rfl (.inl rfl)) (pgs_cons (pg_name (i := 3) sc__law_put.nd rfl (.inl rfl)) (pgs_cons (pg_name (i := 4) sc__law_put.nd rfl (.inl rfl)) pgs_nil)))))
    (pss_cons (ps_if (pt_cmpR op_lt_str (pv 1) (pv 3) (nomark _))
      (pss_one (ps_ret (pe_tup (pa_cons (pe_call Dself.ok (hr.mono (by omega)) rfl Dself.g Dself.kp Dself.b .nil pass0 (pa_cons (pv 2) (pa_cons (pv 1) pa_nil))) (pa_cons (pv 3) (pa_cons (pv 4) pa_nil)))))) pss_nil)
    (pss_one (ps_ret (pe_tup (pa_cons (pv 2) (pa_cons (pv 3) (pa_cons (pe_call Dself.ok (hr.mono (by omega)) rfl Dself.g Dself.kp Dself.b .nil pass0 (pa_cons (pv 4) (pa_cons (pv 1) pa_nil))) pa_nil))))))))), ?_⟩
    rcases hv.inv with ⟨rfl, rfl⟩ | ⟨a, l, r, x, tl, tr, rfl, rfl, ea, hl, hr'⟩
    · refine ⟨_, rfl, rfl, _, rfl, iteT ?_⟩
      refine ⟨_, rfl, (by show 3 ≤ sizeLine; decide), fun p np => ?_⟩
      exact q _ _ (same_new np _) (.node upd_same .nil .nil)
    · refine ⟨_, rfl, rfl, _, rfl, iteF ?_⟩
      refine ⟨_, rfl, a, _, rfl, SqT.of ea, rfl, _, _, rfl, _, _, rfl, _, _, rfl, rfl, ?_⟩
      have sz : tl.size + 1 + tr.size < n + 1 := hn
      refine ⟨_, rfl, _, rfl, _, _, rfl, rfl, _, rfl, ?_⟩
      rw [ch_lt]
      have ei : (B.node tl x tr).ins c = if c < x then .node (tl.ins c) x tr else .node tl x (tr.ins c) := rfl
      rw [ei] at q
      by_cases hc : c < x
      · rw [decide_eq_true hc]
        rw [if_pos hc] at q
        refine iteT ?_
        refine ⟨_, rfl, _, rfl, l, tl, c, rfl, hl, by omega, fun v' H' s' h' => ?_⟩
        refine ⟨_, rfl, _, rfl, (by show 3 ≤ sizeLine; decide), fun p np => ?_⟩
        have sn := same_new np (.tup [v', .str (ch x), r])
        exact q _ _ (s'.trans sn) (.node upd_same (h'.same sn) ((hr'.same s').same sn))
      · rw [decide_eq_false hc]
        rw [if_neg hc] at q
        refine iteF ?_
        refine ⟨_, rfl, _, rfl, _, rfl, _, rfl, r, tr, c, rfl, hr', by omega, fun v' H' s' h' => ?_⟩
        refine ⟨(by show 3 ≤ sizeLine; decide), fun p np => ?_⟩
        have sn := same_new np (.tup [l, .str (ch x), v'])
        exact q _ _ (s'.trans sn) (.node upd_same ((hl.same s').same sn) (h'.same sn))
theorem ok_size (F : Fun K "size_of" "size_of" s_size_of f fd) (b : Binds K fd ["tree"] []) (g : mg "size_of" = some (.ref f)) : ∀ n : Nat, FnOk P w K mg base CX0 n f fd ["tree"]
    (fun vs H Q _ => ∃ (v : V) (t : B), vs = [v] ∧ BAt H v t ∧ t.size < n ∧ Q (.int (t.size : Int)) H)
  | 0 => by
    have no : ∀ (vs : List V) (H : Hp) (Q : VK), ¬ (∃ (v : V) (t : B), vs = [v] ∧ BAt H v t ∧ t.size < 0 ∧ Q (.int (t.size : Int)) H) := fun vs H Q h => by
      obtain ⟨v, t, _, _, h1, _⟩ := h
      omega
    exact ⟨fun vs H Q E h => absurd h (no vs H Q), fun A outer s H args us vs Q E _ _ _ _ h => absurd h (no vs H Q)⟩
  | n + 1 => by
    have Dself : Df P w K mg base n "size_of" ["tree"] (fun vs H Q _ => ∃ (v : V) (t : B), vs = [v] ∧ BAt H v t ∧ t.size < n ∧ Q (.int (t.size : Int)) H) := ⟨f, fd, ok_size F b g n, b, F.kp, g⟩
    refine F.ok sc_size_of (fun vs H Q E h => ?_) (fun cdv A outer s H vs Q E hr h => ?_)
    · obtain ⟨v, t, rfl, _⟩ := h
      rfl
    obtain ⟨v, t, rfl, hv, hn, q⟩ := h
    refine ⟨_, (pss_cons (ps_if (pt_cmpR op_isN (pv 0) pe_non (nomark _))
      (pss_one (ps_ret pe_int)) pss_nil)
    (pss_one (ps_ret (pe_op op_add (pe_op op_add (pe_call Dself.ok (hr.mono (by omega)) rfl Dself.g Dself.kp Dself.b .nil pass0 (pa_cons (pe_ix ix_tup (pv 0) pe_int (fun _ _ => rfl)) pa_nil)) pe_int) (pe_call Dself.ok (hr.mono (by omega)) rfl Dself.g Dself.kp Dself.b .nil pass0 (pa_cons (pe_ix ix_tup (pv 0) pe_int (fun _ _ => rfl)) pa_nil)))))), ?_⟩
    rcases hv.inv with ⟨rfl, rfl⟩ | ⟨a, l, r, x, tl, tr, rfl, rfl, ea, hl, hr'⟩
    · exact ⟨_, rfl, rfl, _, rfl, iteT q⟩
    · refine ⟨_, rfl, rfl, _, rfl, iteF ?_⟩
      have sz : tl.size + 1 + tr.size < n + 1 := hn
      refine ⟨_, rfl, a, _, _, _, rfl, rfl, SqT.of ea, atI_nat (j := 0) rfl, l, tl, rfl, hl, by omega, _, _, rfl, rfl, ?_⟩
      refine ⟨_, rfl, a, _, _, _, rfl, rfl, SqT.of ea, atI_nat (j := 2) rfl, r, tr, rfl, hr', by omega, _, _, rfl, rfl, ?_⟩
      have e : ((B.node tl x tr).size : Int) = (tl.size : Int) + 1 + (tr.size : Int) := by
        show ((tl.size + 1 + tr.size : Nat) : Int) = _
        omega
      rw [e] at q
      exact q
def spGr : Sp := fun vs H Q _ => ∃ zs : List Nat, vs = [.str (tx zs)] ∧ zs.length ≤ 30 ∧ ∀ (v : V) (H' : Hp), Same H H' → BAt H' v (gr zs) → Q v H'
theorem take_next {zs : List Nat} {i c : Nat} (h : zs[i]? = some c) : zs.take (i + 1) = zs.take i ++ [c] := by
  rw [List.take_succ, h]
  rfl
theorem ok_grown (F : Fun K "_law_grown" "_law_grown" s__law_grown f fd) (D_law_put : Df P w K mg base 40 "_law_put" ["_law_tree", "_law_letter"] (spPut 40)) : FnOk P w K mg base CX0 41 f fd ["_law_order_here"] spGr := by
  refine F.ok sc__law_grown (fun vs H Q E h => ?_) (fun cdv A outer s H vs Q E hr h => ?_)
  · obtain ⟨zs, rfl, _⟩ := h
    rfl
  obtain ⟨zs, rfl, hl, q⟩ := h
  refine ⟨_, (pss_cons (ps_set (i := 1) sc__law_grown.nd rfl (.inl rfl) pe_non)
    (pss_cons (ps_for PassesOwn.never rfl (pi_str (pv 0)) (pg_name (i := 2) sc__law_grown.nd rfl (.inl rfl))
      (pss_one (ps_set (i := 1) sc__law_grown.nd rfl (.inl rfl) (pe_call D_law_put.ok (hr.mono (by omega)) rfl D_law_put.g D_law_put.kp D_law_put.b .nil pass0 (pa_cons (pv 1) (pa_cons (pv 2) pa_nil))))))
    (pss_one (ps_ret (pv 1))))), ?_⟩
  refine ⟨_, rfl, _, rfl, ?_⟩
  refine for_text (x := tx zs) (fun i σ H' => ∃ (v : V) (c : Option V), σ = [some (.str (tx zs)), some v, c] ∧ Same H H' ∧ BAt H' v (gr (zs.take i))) ⟨_, _, rfl, Same.refl H, .nil⟩ (fun i c σ H' hc hp => ?_) (fun σ H' hp => ?_)
  · obtain ⟨v, c', rfl, s', h'⟩ := hp
    rw [tx_cps] at hc
    have hi := (List.getElem?_eq_some_iff.mp hc).1
    refine ⟨_, rfl, _, rfl, v, gr (zs.take i), c, rfl, h', ?_, fun v2 H2 s2 h2 => ?_⟩
    · rw [gr_size, List.length_take]; omega
    refine ⟨v2, _, rfl, s'.trans s2, ?_⟩
    rw [take_next hc]
    unfold gr at h2 ⊢
    rw [List.foldl_append]
    exact h2
  · obtain ⟨v, c', rfl, s', h'⟩ := hp
    rw [tx_cps, List.take_length] at h'
    exact ⟨_, rfl, q v H' s' h'⟩
end
/-! ### walks -/
inductive Kd where
  | first
  | between
  | last
def Kd.str : Kd → Str
  | .first => "first"
  | .between => "between"
  | .last => "last"
def B.post : B → List Nat
  | .nil => []
  | .node l x r => l.post ++ r.post ++ [x]
def B.wk (k : Kd) (t : B) : List Nat := match k with
  | .first => t.pre
  | .between => t.mid
  | .last => t.post
def B.steps (k : Kd) : B → List Nat → List (List Nat × Nat)
  | .nil, _ => []
  | .node l x r, q => match k with
    | .first => [(q, x)] ++ l.steps k (q ++ [108]) ++ r.steps k (q ++ [114])
    | .between => l.steps k (q ++ [108]) ++ [(q, x)] ++ r.steps k (q ++ [114])
    | .last => l.steps k (q ++ [108]) ++ r.steps k (q ++ [114]) ++ [(q, x)]
theorem B.steps_wk (k : Kd) (t : B) : ∀ q : List Nat, (t.steps k q).map (·.2) = t.wk k := by
  induction t with
  | nil => intro q; cases k <;> rfl
  | node l x r h1 h2 =>
    intro q
    have a := h1 (q ++ [108])
    have b := h2 (q ++ [114])
    cases k
    · show ([(q, x)] ++ l.steps .first (q ++ [108]) ++ r.steps .first (q ++ [114])).map (·.2) = x :: (l.pre ++ r.pre)
      rw [List.map_append, List.map_append, a, b]; rfl
    · show (l.steps .between (q ++ [108]) ++ [(q, x)] ++ r.steps .between (q ++ [114])).map (·.2) = l.mid ++ x :: r.mid
      rw [List.map_append, List.map_append, a, b]
      show l.mid ++ [x] ++ r.mid = _
      rw [List.append_assoc]; rfl
    · show (l.steps .last (q ++ [108]) ++ r.steps .last (q ++ [114]) ++ [(q, x)]).map (·.2) = l.post ++ r.post ++ [x]
      rw [List.map_append, List.map_append, a, b]; rfl
theorem B.wk_len (k : Kd) (t : B) : (t.wk k).length = t.size := by
  cases k
  · exact t.pre_len
  · exact t.mid_len
  · show t.post.length = t.size
    induction t with
    | nil => rfl
    | node l x r h1 h2 =>
      show (l.post ++ r.post ++ [x]).length = l.size + 1 + r.size
      rw [List.length_append, List.length_append, h1, h2, List.length_cons, List.length_nil]
      omega
theorem B.steps_len (k : Kd) (t : B) (q : List Nat) : (t.steps k q).length = t.size := by
  rw [← t.wk_len k, ← t.steps_wk k q, List.length_map]
inductive StAt (H : Hp) : List V → List (List Nat × Nat) → Prop
  | nil : StAt H [] []
  | cons {a : Addr} {q : List Nat} {x : Nat} {vs : List V} {ss : List (List Nat × Nat)} : H a = some (.tup [.str (tx q), .str (ch x)]) → StAt H vs ss → StAt H (.ref a :: vs) ((q, x) :: ss)
theorem StAt.keep {H H' : Hp} (k : KeepT H H') {vs : List V} {ss : List (List Nat × Nat)} (h : StAt H vs ss) : StAt H' vs ss := by
  induction h with
  | nil => exact .nil
  | cons e _ ih => exact .cons (k _ _ e) ih
theorem StAt.same {H H' : Hp} (k : Same H H') {vs : List V} {ss : List (List Nat × Nat)} (h : StAt H vs ss) : StAt H' vs ss := h.keep (Tw.Same.keepT k)
theorem StAt.app {H : Hp} {vs us : List V} {ss ts : List (List Nat × Nat)} (h : StAt H vs ss) (g : StAt H us ts) : StAt H (vs ++ us) (ss ++ ts) := by
  induction h with
  | nil => exact g
  | cons e _ ih => exact .cons e ih
theorem StAt.len {H : Hp} {vs : List V} {ss : List (List Nat × Nat)} (h : StAt H vs ss) : vs.length = ss.length := by
  induction h with
  | nil => rfl
  | cons _ _ ih => rw [List.length_cons, List.length_cons, ih]
theorem StAt.get {H : Hp} {vs : List V} {ss : List (List Nat × Nat)} (h : StAt H vs ss) : ∀ {i : Nat} {v : V}, vs[i]? = some v → ∃ a q x, v = .ref a ∧ ss[i]? = some (q, x) ∧ H a = some (.tup [.str (tx q), .str (ch x)]) := by
  induction h with
  | nil => intro i v e; simp at e
  | cons e _ ih =>
    intro i v he
    cases i with
    | zero => cases he; exact ⟨_, _, _, rfl, rfl, e⟩
    | succ i => exact ih he
theorem str_l : Str.ofString "l" = tx [108] := by decide +kernel
theorem str_r : Str.ofString "r" = tx [114] := by decide +kernel
theorem str_0 : Str.ofString "" = tx [] := by decide +kernel
def spDeep (n : Nat) : Sp := fun vs H Q _ => ∃ (v : V) (t : B) (k : Kd) (q : List Nat), vs = [v, .str k.str, .str (tx q)] ∧ BAt H v t ∧ t.size < n ∧ t.size + q.length ≤ 200 ∧
  ∀ (p : Addr) (us : List V) (H' : Hp), Same H H' → H' p = some (.lst us) → StAt H' us (t.steps k q) → Q (.ref p) H'
theorem iteS {x y : Str} {A B : Prop} (h : x = y) (a : A) : if decide (V.str x = V.str y) = true then A else B := by
  rw [if_pos (decide_eq_true (congrArg V.str h))]; exact a
theorem iteR {x y : Str} {A B : Prop} (h : x ≠ y) (b : B) : if decide (V.str x = V.str y) = true then A else B := by
  rw [if_neg (fun z => h (V.str.inj (of_decide_eq_true z)))]; exact b
section
variable {P : Program} {w : World} {K : PySem.W.Frag} {mg : Str → Option Value} {base : Heap} {f : Addr} {fd : FuncData}
theorem ok_deep (F : Fun K "deep_steps" "deep_steps" s_deep_steps f fd) (b : Binds K fd ["tree", "kind", "path"] []) (g : mg "deep_steps" = some (.ref f)) : ∀ n : Nat, FnOk P w K mg base CX0 n f fd ["tree", "kind", "path"] (spDeep n)
  | 0 => by
    have no : ∀ vs H Q E, ¬ spDeep 0 vs H Q E := fun vs H Q E h => by
      obtain ⟨v, t, k, q, _, _, h1, _⟩ := h
      omega
    exact ⟨fun vs H Q E h => absurd h (no vs H Q E), fun A outer s H args us vs Q E _ _ _ _ h => absurd h (no vs H Q E)⟩
  | n + 1 => by
    have Dself : Df P w K mg base n "deep_steps" ["tree", "kind", "path"] (spDeep n) := ⟨f, fd, ok_deep F b g n, b, F.kp, g⟩
    refine F.ok sc_deep_steps (fun vs H Q E h => ?_) (fun cdv A outer s H vs Q E hr h => ?_)
    · obtain ⟨v, t, k, q, rfl, _⟩ := h
      rfl
    obtain ⟨v, t, k, pth, rfl, hv, hn, hz, q⟩ := h
    refine ⟨_, (pss_cons (ps_if (pt_cmpR op_isN (pv 0) pe_non (nomark _))
      (pss_one (ps_ret (pe_lst pa_nil))) pss_nil)
    (pss_cons (ps_asg (pv 0) (pg_tup rfl (pgs_cons (pg_name (i := 3) sc_deep_steps.nd rfl (.inl rfl)) (pgs_cons (pg_name (i := 4) sc_deep_steps.nd rfl (.inl rfl)) (pgs_cons (pg_name (i := 5) sc_deep_steps.nd rfl (.inl rfl)) pgs_nil)))))
    (pss_cons (ps_set (i := 6) sc_deep_steps.nd rfl (.inl rfl) (pe_lst (pa_cons (pe_tup (pa_cons (pv 2) (pa_cons (pv 4) pa_nil))) pa_nil)))
    (pss_cons (ps_set (i := 7) sc_deep_steps.nd rfl (.inl rfl) (pe_call Dself.ok (hr.mono (by omega)) rfl Dself.g Dself.kp Dself.b .nil pass0 (pa_cons (pv 3) (pa_cons (pv 1) (pa_cons (pe_op op_add_str (pv 2) pe_str) pa_nil)))))
    (pss_cons (ps_set (i := 8) sc_deep_steps.nd rfl (.inl rfl) (pe_call Dself.ok (hr.mono (by omega)) rfl Dself.g Dself.kp Dself.b .nil pass0 (pa_cons (pv 5) (pa_cons (pv 1) (pa_cons (pe_op op_add_str (pv 2) pe_str) pa_nil)))))
    (pss_cons (ps_if (pt_cmpR op_eq (pv 1) pe_str (nomark _))
      (pss_one (ps_ret (pe_op op_cat (pe_op op_cat (pv 6) (pv 7)) (pv 8)))) pss_nil)
    (pss_cons (ps_if (pt_cmpR op_eq (pv 1) pe_str (nomark _))
      (pss_one (ps_ret (pe_op op_cat (pe_op op_cat (pv 7) (pv 6)) (pv 8)))) pss_nil)
    (pss_one (ps_ret (pe_op op_cat (pe_op op_cat (pv 7) (pv 8)) (pv 6))))))))))), ?_⟩
    rcases hv.inv with ⟨rfl, rfl⟩ | ⟨a, l, r, x, tl, tr, rfl, rfl, ea, hl, hr'⟩
    · refine ⟨_, rfl, rfl, _, rfl, iteT ⟨(by show 0 ≤ sizeLine; decide), fun p np => ?_⟩⟩
      exact q p [] _ (same_new np _) upd_same .nil
    · refine ⟨_, rfl, rfl, _, rfl, iteF ?_⟩
      refine ⟨_, rfl, a, _, rfl, SqT.of ea, rfl, _, _, rfl, _, _, rfl, _, _, rfl, rfl, ?_⟩
      have sz : tl.size + 1 + tr.size < n + 1 := hn
      have sz2 : tl.size + 1 + tr.size + pth.length ≤ 200 := hz
      -- root
      refine ⟨_, rfl, _, rfl, (by show 2 ≤ sizeLine; decide), fun tp ntp => ⟨(by show 1 ≤ sizeLine; decide), fun ro nro => ?_⟩⟩
      have q1 := same_new ntp (.tup [.str (tx pth), .str (ch x)])
      have q2 := same_new nro (.lst [.ref tp])
      have etp := q2 _ _ (upd_same (H := H) (a := tp) (o := .tup [.str (tx pth), .str (ch x)]))
      have ero := upd_same (H := upd H tp (.tup [.str (tx pth), .str (ch x)])) (a := ro) (o := .lst [.ref tp])
      have s1 := q1.trans q2
      generalize upd (upd H tp (.tup [.str (tx pth), .str (ch x)])) ro (.lst [.ref tp]) = H1 at etp ero s1
      -- lefts
      refine ⟨_, rfl, _, rfl, _, rfl, _, _, rfl, rfl, ?_, ?_⟩
      · rw [str_l, tx_len, tx_len]; exact small (by show _ + 1 ≤ 1000; omega)
      rw [str_l, tx_app]
      refine ⟨l, tl, k, pth ++ [108], rfl, hl.same s1, by omega, by rw [List.length_append]; show _ + (_ + 1) ≤ 200; omega, fun lp ul H2 s2 elp stl => ?_⟩
      -- rights
      refine ⟨_, rfl, _, rfl, _, rfl, _, _, rfl, rfl, ?_, ?_⟩
      · rw [str_r, tx_len, tx_len]; exact small (by show _ + 1 ≤ 1000; omega)
      rw [str_r, tx_app]
      refine ⟨r, tr, k, pth ++ [114], rfl, (hr'.same s1).same s2, by omega, by rw [List.length_append]; show _ + (_ + 1) ≤ 200; omega, fun rp ur H3 s3 erp str => ?_⟩
      have ero3 := s3 _ _ (s2 _ _ ero)
      have elp3 := s3 _ _ elp
      have strt : StAt H3 [.ref tp] [(pth, x)] := .cons (s3 _ _ (s2 _ _ etp)) .nil
      have stl3 := stl.same s3
      have sA := (s1.trans s2).trans s3
      have ll := stl.len
      have lr := str.len
      rw [B.steps_len] at ll lr
      cases k
      · refine ⟨_, rfl, rfl, _, rfl, iteS rfl ?_⟩
        refine ⟨_, rfl, _, rfl, ro, lp, _, _, rfl, rfl, ero3, elp3, small (by show 1 + _ ≤ 1000; omega), fun c1 n1 => ?_⟩
        have k1 := same_new n1 (.lst ([.ref tp] ++ ul))
        refine ⟨_, rfl, c1, rp, _, _, rfl, rfl, upd_same, k1 _ _ erp, small (by rw [List.length_append]; show 1 + _ + _ ≤ 1000; omega), fun c2 n2 => ?_⟩
        have k2 := same_new n2 (.lst ([.ref tp] ++ ul ++ ur))
        exact q c2 _ _ (sA.trans (k1.trans k2)) upd_same (((strt.app stl3).app str).same (k1.trans k2))
      · refine ⟨_, rfl, rfl, _, rfl, iteR (by decide +kernel) ?_⟩
        refine ⟨_, rfl, rfl, _, rfl, iteS rfl ?_⟩
        refine ⟨_, rfl, _, rfl, lp, ro, _, _, rfl, rfl, elp3, ero3, small (by show _ + 1 ≤ 1000; omega), fun c1 n1 => ?_⟩
        have k1 := same_new n1 (.lst (ul ++ [.ref tp]))
        refine ⟨_, rfl, c1, rp, _, _, rfl, rfl, upd_same, k1 _ _ erp, small (by rw [List.length_append]; show _ + 1 + _ ≤ 1000; omega), fun c2 n2 => ?_⟩
        have k2 := same_new n2 (.lst (ul ++ [.ref tp] ++ ur))
        exact q c2 _ _ (sA.trans (k1.trans k2)) upd_same (((stl3.app strt).app str).same (k1.trans k2))
      · refine ⟨_, rfl, rfl, _, rfl, iteR (by decide +kernel) ?_⟩
        refine ⟨_, rfl, rfl, _, rfl, iteR (by decide +kernel) ?_⟩
        refine ⟨_, rfl, _, rfl, lp, rp, _, _, rfl, rfl, elp3, erp, small (by omega), fun c1 n1 => ?_⟩
        have k1 := same_new n1 (.lst (ul ++ ur))
        refine ⟨_, rfl, c1, ro, _, _, rfl, rfl, upd_same, k1 _ _ ero3, small (by rw [List.length_append]; show _ + _ + 1 ≤ 1000; omega), fun c2 n2 => ?_⟩
        have k2 := same_new n2 (.lst (ul ++ ur ++ [.ref tp]))
        exact q c2 _ _ (sA.trans (k1.trans k2)) upd_same (((stl3.app str).app strt).same (k1.trans k2))
/-- the tuple KINDS of the text -/
structure KindsT (K : PySem.W.Frag) (mg : Str → Option Value) (a : Addr) : Prop where
  mg : mg "KINDS" = some (.ref a)
  sq : ∀ H : Hp, SqT K H a [.str "first", .str "between", .str "last", .str "level"]
def spKind : Sp := fun vs H Q _ => ∃ k : Kd, vs = [.str k.str] ∧ Q (.bl true) H
theorem ok_kind {k : Nat} {aK : Addr} (F : Fun K "is_kind" "is_kind" s_is_kind f fd) (M : Mgs mg) (Kk : KindsT K mg aK) : FnOk P w K mg base CX0 (k + 1) f fd ["value"] spKind := by
  refine F.ok sc_is_kind (fun vs H Q E h => ?_) (fun cdv A outer s H vs Q E hr h => ?_)
  · obtain ⟨k, rfl, _⟩ := h
    rfl
  obtain ⟨k, rfl, q⟩ := h
  refine ⟨_, (pss_one (ps_ret (pe_and (pe_callB call_isi rfl M.isinstance (by decide +kernel) (pa_cons (pv 0) (pa_cons (pe_bltn (v := .ty "str") rfl M.str (by decide +kernel) rfl) pa_nil))) (pe_one (pe_cmpR op_in_seq (pv 0) (pe_glob (v := .ref _) rfl Kk.mg rfl) (by rfl)))))), ?_⟩
  refine ⟨_, rfl, _, _, _, _, true, rfl, .ty _, .base (.str _), kit_ty (by decide +kernel), _, rfl, iteT ?_⟩
  refine ⟨_, rfl, aK, _, rfl, .inr (Kk.sq H), rfl, ?_, ?_⟩
  · rfl
  · have e : (if false = true then !inV (.str k.str) [.str "first", .str "between", .str "last", .str "level"] else inV (.str k.str) [.str "first", .str "between", .str "last", .str "level"]) = true := by
      cases k <;> decide +kernel
    rw [e]
    exact q
def spSteps : Sp := fun vs H Q _ => ∃ (v : V) (t : B) (k : Kd), vs = [v, .str k.str] ∧ BAt H v t ∧ t.size ≤ 50 ∧
  ∀ (p : Addr) (us : List V) (H' : Hp), Same H H' → H' p = some (.lst us) → StAt H' us (t.steps k []) → Q (.ref p) H'
theorem ok_steps (F : Fun K "ordered_steps" "ordered_steps" s_ordered_steps f fd) (Dis_kind : Df P w K mg base 1 "is_kind" ["value"] spKind) (Ddeep_steps : Df P w K mg base 60 "deep_steps" ["tree", "kind", "path"] (spDeep 60)) :
    FnOk P w K mg base CX0 61 f fd ["tree", "kind"] spSteps := by
  refine F.ok sc_ordered_steps (fun vs H Q E h => ?_) (fun cdv A outer s H vs Q E hr h => ?_)
  · obtain ⟨v, t, k, rfl, _⟩ := h
    rfl
  obtain ⟨v, t, k, rfl, hv, hz, q⟩ := h
  refine ⟨_, (pss_cons (ps_if (pt_not (pt_val (pe_call Dis_kind.ok (hr.mono (by omega)) rfl Dis_kind.g Dis_kind.kp Dis_kind.b .nil pass0 (pa_cons (pv 1) pa_nil))))
      (pss_one ps_never) pss_nil)
    (pss_cons (ps_if (pt_cmpR op_eq (pv 1) pe_str (nomark _))
      (pss_one ps_never) pss_nil)
    (pss_one (ps_ret (pe_call Ddeep_steps.ok (hr.mono (by omega)) rfl Ddeep_steps.g Ddeep_steps.kp Ddeep_steps.b .nil pass0 (pa_cons (pv 0) (pa_cons (pv 1) (pa_cons pe_str pa_nil)))))))), ?_⟩
  refine ⟨_, rfl, k, rfl, _, rfl, iteF ?_⟩
  refine ⟨_, rfl, rfl, _, rfl, iteR (by cases k <;> decide +kernel) ?_⟩
  refine ⟨_, rfl, _, rfl, v, t, k, [], ?_, hv, by omega, by show t.size + 0 ≤ 200; omega, q⟩
  rw [← str_0]
  rfl
def spWalk : Sp := fun vs H Q _ => ∃ (v : V) (t : B) (k : Kd), vs = [v, .str k.str] ∧ BAt H v t ∧ t.size ≤ 50 ∧ ∀ H', Same H H' → Q (.str (tx (t.wk k))) H'
theorem ok_walk (F : Fun K "walk" "walk" s_walk f fd) (Dordered_steps : Df P w K mg base 61 "ordered_steps" ["tree", "kind"] spSteps) : FnOk P w K mg base CX0 62 f fd ["tree", "kind"] spWalk := by
  refine F.ok sc_walk (fun vs H Q E h => ?_) (fun cdv A outer s H vs Q E hr h => ?_)
  · obtain ⟨v, t, k, rfl, _⟩ := h
    rfl
  obtain ⟨v, t, k, rfl, hv, hz, q⟩ := h
  refine ⟨_, (pss_one (ps_ret (pe_bm PySem.F.plainAttrs_str PySem.F.slot_str_join PySem.F.type_str_join mt_join pe_str (pa_cons (pe_lc (own := [("path", 2), ("label", 3)]) (g := gTup K 2 (gCons (gName 2) (gCons (gName 3) gNil))) (tt := tYes) rfl sc_walk.nd (pi_list (pe_call Dordered_steps.ok (hr.mono (by omega)) rfl Dordered_steps.g Dordered_steps.kp Dordered_steps.b .nil pass0 (pa_cons (pv 0) (pa_cons (pv 1) pa_nil)))) (blkOk_by (N := ["tree", "kind", "path", "label"]) (sc := defScope s_walk) (by decide +kernel)) (fun _ _ _ _ _ => (pg_tup rfl (pgs_cons (pg_name (i := 2) sc_walk.nd rfl (.inl rfl)) (pgs_cons (pg_name (i := 3) sc_walk.nd rfl (.inl rfl)) pgs_nil)))) (fun _ _ _ _ _ => pts_nil) (fun _ _ _ _ _ => (pv 3))) pa_nil)))), ?_⟩
  refine ⟨rfl, _, rfl, _, rfl, v, t, k, rfl, hv, hz, fun p us H1 s1 ep st => ?_⟩
  refine ⟨p, rfl, ⟨_, SqL.of ep⟩, fun D nD => ?_⟩
  have q1 := same_new nD (.lst [])
  have hl := st.len
  rw [B.steps_len] at hl
  have ez := t.steps_wk k []
  refine lc_list (K := K) (a := p) (xs := us) (fun i H' => Same H1 H' ∧ H' D = some (.lst (((t.wk k).take i).map vc))) ⟨q1, upd_same⟩ (fun i H' _ hp => SqL.of (hp.1 _ _ ep)) (fun i x H' hx hp => ?_) (fun H' hp => ?_)
  · obtain ⟨sm, ed⟩ := hp
    obtain ⟨a, pq, c, rfl, es, ea⟩ := st.get hx
    have hc : (t.wk k)[i]? = some c := by rw [← ez, List.getElem?_map, es]; rfl
    have hi := (List.getElem?_eq_some_iff.mp hx).1
    refine ⟨a, _, rfl, SqT.of (sm _ _ ea), rfl, _, _, rfl, _, _, rfl, rfl, rfl, kept ?_⟩
    refine ⟨_, rfl, _, ed, ?_, fun b o e => ?_, ?_⟩
    · rw [List.length_map, List.length_take]; exact small1000 (by omega)
    · rw [upd_ne (ne_of_none e nD)]; exact sm _ _ e
    · rw [upd_same, take_next hc, List.map_append]; rfl
  · obtain ⟨sm, ed⟩ := hp
    have tk : (t.wk k).take us.length = t.wk k := List.take_of_length_le (by rw [t.wk_len k]; omega)
    rw [tk, map_vc] at ed
    refine ⟨_, D, (t.wk k).map ch, rfl, rfl, .inl (SqL.of ed), tx_joinOk _ (by rw [t.wk_len k]; omega), ?_⟩
    rw [tx_join]
    exact q H' (s1.trans sm)
theorem B.ins_mem (t : B) (c d : Nat) : d ∈ (t.ins c).pre ↔ d = c ∨ d ∈ t.pre := by
  induction t with
  | nil =>
    show d ∈ [c] ↔ d = c ∨ d ∈ []
    simp
  | node l x r h1 h2 =>
    show d ∈ (if c < x then B.node (l.ins c) x r else .node l x (r.ins c)).pre ↔ _
    split
    · show d ∈ x :: ((l.ins c).pre ++ r.pre) ↔ d = c ∨ d ∈ x :: (l.pre ++ r.pre)
      simp only [List.mem_cons, List.mem_append, h1]
      constructor
      · rintro (h | (h | h) | h)
        · exact .inr (.inl h)
        · exact .inl h
        · exact .inr (.inr (.inl h))
        · exact .inr (.inr (.inr h))
      · rintro (h | h | h | h)
        · exact .inr (.inl (.inl h))
        · exact .inl h
        · exact .inr (.inl (.inr h))
        · exact .inr (.inr h)
    · show d ∈ x :: (l.pre ++ (r.ins c).pre) ↔ d = c ∨ d ∈ x :: (l.pre ++ r.pre)
      simp only [List.mem_cons, List.mem_append, h2]
      constructor
      · rintro (h | h | h | h)
        · exact .inr (.inl h)
        · exact .inr (.inr (.inl h))
        · exact .inl h
        · exact .inr (.inr (.inr h))
      · rintro (h | h | h | h)
        · exact .inr (.inr (.inl h))
        · exact .inl h
        · exact .inr (.inl h)
        · exact .inr (.inr (.inr h))
theorem foldl_ins_mem (zs : List Nat) (d : Nat) : ∀ t : B, d ∈ (zs.foldl B.ins t).pre ↔ d ∈ zs ∨ d ∈ t.pre := by
  induction zs with
  | nil => intro t; simp
  | cons c r ih =>
    intro t
    rw [List.foldl_cons, ih, B.ins_mem, List.mem_cons]
    constructor
    · rintro (h | h | h)
      · exact .inl (.inr h)
      · exact .inl (.inl h)
      · exact .inr h
    · rintro ((h | h) | h)
      · exact .inr (.inl h)
      · exact .inl h
      · exact .inr (.inr h)
theorem gr_mem (zs : List Nat) (d : Nat) : d ∈ (gr zs).pre ↔ d ∈ zs := by
  unfold gr
  rw [foldl_ins_mem]
  show d ∈ zs ∨ d ∈ [] ↔ _
  simp
end
/-! ### grown trees -/
theorem B.ins_perm (t : B) (c : Nat) : (t.ins c).pre.Perm (c :: t.pre) := by
  induction t with
  | nil => exact List.Perm.refl _
  | node l x r h1 h2 =>
    show (if c < x then B.node (l.ins c) x r else .node l x (r.ins c)).pre.Perm _
    split
    · show (x :: ((l.ins c).pre ++ r.pre)).Perm (c :: x :: (l.pre ++ r.pre))
      exact ((h1.append_right r.pre).cons x).trans (List.Perm.swap _ _ _)
    · show (x :: (l.pre ++ (r.ins c).pre)).Perm (c :: x :: (l.pre ++ r.pre))
      exact (((h2.append_left l.pre).trans List.perm_middle).cons x).trans (List.Perm.swap _ _ _)
theorem foldl_ins_perm (zs : List Nat) : ∀ t : B, (zs.foldl B.ins t).pre.Perm (zs ++ t.pre) := by
  induction zs with
  | nil => intro t; exact List.Perm.refl _
  | cons c r ih =>
    intro t
    rw [List.foldl_cons]
    exact (ih _).trans (((B.ins_perm t c).append_left r).trans List.perm_middle)
theorem gr_perm (zs : List Nat) : (gr zs).pre.Perm zs := by
  have := foldl_ins_perm zs .nil
  rw [show B.nil.pre = [] from rfl, List.append_nil] at this
  exact this
theorem B.data_depth : ∀ t : B, t.data.depth = t.deep
  | .nil => by simp only [B.data, PyData.depth, B.deep]
  | .node l x r => by
    simp only [B.data, PyData.depth, PyData.depthAll, B.deep, l.data_depth, r.data_depth]
    omega
/-! ### numbers of orders -/
def facN : Nat → Nat
  | 0 => 1
  | n + 1 => facN n * (n + 1)
theorem facN_pos : ∀ n, 0 < facN n
  | 0 => Nat.one_pos
  | n + 1 => Nat.mul_pos (facN_pos n) (Nat.succ_pos n)
def prodN : List Nat → Nat
  | [] => 1
  | h :: t => h * prodN t
theorem prodN_app : ∀ a b : List Nat, prodN (a ++ b) = prodN a * prodN b
  | [], b => (Nat.one_mul _).symm
  | h :: a, b => by
    show h * prodN (a ++ b) = h * prodN a * prodN b
    rw [prodN_app a b, Nat.mul_assoc]
def cho : Nat → Nat → Nat
  | _, 0 => 1
  | 0, _ + 1 => 0
  | n + 1, k + 1 => cho n k + cho n (k + 1)
theorem cho_over : ∀ n k, n < k → cho n k = 0
  | 0, 0, h => absurd h (by omega)
  | 0, k + 1, _ => rfl
  | n + 1, 0, h => absurd h (by omega)
  | n + 1, k + 1, h => by
    show cho n k + cho n (k + 1) = 0
    rw [cho_over n k (by omega), cho_over n (k + 1) (by omega)]
theorem cho_self : ∀ n, cho n n = 1
  | 0 => rfl
  | n + 1 => by
    show cho n n + cho n (n + 1) = 1
    rw [cho_self n, cho_over n (n + 1) (by omega)]
theorem cho_0 (n : Nat) : cho n 0 = 1 := by cases n <;> rfl
theorem cho_fac : ∀ n a b : Nat, a + b = n → cho (a + b) a * (facN a * facN b) = facN (a + b) := by
  intro n
  induction n with
  | zero =>
    intro a b h
    have ha : a = 0 := by omega
    have hb : b = 0 := by omega
    subst ha hb
    rfl
  | succ n ih =>
    intro a b h
    cases a with
    | zero => rw [Nat.zero_add, cho_0, Nat.one_mul]; exact Nat.one_mul _
    | succ a =>
      cases b with
      | zero => rw [Nat.add_zero, cho_self, Nat.one_mul]; exact Nat.mul_one _
      | succ b =>
        have e1 := ih a (b + 1) (by omega)
        have e2 := ih (a + 1) b (by omega)
        have es : a + 1 + (b + 1) = (a + (b + 1)) + 1 := by omega
        rw [es]
        show (cho (a + (b + 1)) a + cho (a + (b + 1)) (a + 1)) * (facN a * (a + 1) * facN (b + 1)) = facN (a + (b + 1)) * (a + (b + 1) + 1)
        have e3 : a + (b + 1) = a + 1 + b := by omega
        rw [Nat.add_mul]
        have f1 : cho (a + (b + 1)) a * (facN a * (a + 1) * facN (b + 1)) = (a + 1) * facN (a + (b + 1)) := by
          rw [← e1]
          ac_rfl
        have f2 : cho (a + (b + 1)) (a + 1) * (facN a * (a + 1) * facN (b + 1)) = (b + 1) * facN (a + (b + 1)) := by
          rw [e3, ← e2]
          show cho (a + 1 + b) (a + 1) * (facN a * (a + 1) * (facN b * (b + 1))) = (b + 1) * (cho (a + 1 + b) (a + 1) * (facN a * (a + 1) * facN b))
          ac_rfl
        rw [f1, f2, ← Nat.add_mul, Nat.mul_comm]
        refine congrArg (facN (a + (b + 1)) * ·) ?_
        omega
def B.hooks : B → List Nat
  | .nil => []
  | .node l _ r => (l.size + r.size + 1) :: (l.hooks ++ r.hooks)
theorem B.hooks_len : ∀ t : B, t.hooks.length = t.size
  | .nil => rfl
  | .node l x r => by
    show (l.hooks ++ r.hooks).length + 1 = l.size + 1 + r.size
    rw [List.length_append, l.hooks_len, r.hooks_len]
    omega
theorem B.hooks_pos : ∀ (t : B), ∀ h ∈ t.hooks, 0 < h ∧ h ≤ t.size
  | .nil, h, hh => by cases hh
  | .node l x r, h, hh => by
    show 0 < h ∧ h ≤ l.size + 1 + r.size
    rcases List.mem_cons.mp hh with rfl | hh
    · omega
    · rcases List.mem_append.mp hh with hh | hh
      · have := l.hooks_pos h hh; omega
      · have := r.hooks_pos h hh; omega
def B.num : B → Nat
  | .nil => 1
  | .node l _ r => l.num * r.num * cho (l.size + r.size) l.size
theorem B.num_hooks : ∀ t : B, t.num * prodN t.hooks = facN t.size
  | .nil => rfl
  | .node l x r => by
    have h1 := l.num_hooks
    have h2 := r.num_hooks
    have h3 := cho_fac _ l.size r.size rfl
    show l.num * r.num * cho (l.size + r.size) l.size * ((l.size + r.size + 1) * prodN (l.hooks ++ r.hooks)) = facN (l.size + 1 + r.size)
    rw [prodN_app, show l.size + 1 + r.size = (l.size + r.size) + 1 by omega]
    show _ = facN (l.size + r.size) * (l.size + r.size + 1)
    rw [← h3, ← h1, ← h2]
    ac_rfl
theorem prodN_pos : ∀ l : List Nat, (∀ h ∈ l, 0 < h) → 0 < prodN l
  | [], _ => Nat.one_pos
  | h :: l, hh => Nat.mul_pos (hh h List.mem_cons_self) (prodN_pos l fun k hk => hh k (List.mem_cons_of_mem _ hk))
theorem B.num_le (t : B) : t.num ≤ facN t.size := by
  rw [← t.num_hooks]
  exact Nat.le_mul_of_pos_right _ (prodN_pos _ fun h hh => (t.hooks_pos h hh).1)
theorem foldl_div : ∀ (l : List Nat) (m : Nat), l.foldl (· / ·) m = m / prodN l
  | [], m => (Nat.div_one m).symm
  | h :: l, m => by
    rw [List.foldl_cons, foldl_div l]
    show m / h / prodN l = m / (h * prodN l)
    rw [Nat.div_div_eq_div_mul]
theorem B.num_div (t : B) : t.hooks.foldl (· / ·) (facN t.size) = t.num := by
  rw [foldl_div, ← t.num_hooks]
  exact Nat.mul_div_cancel _ (prodN_pos _ fun h hh => (t.hooks_pos h hh).1)
theorem facN_mono : ∀ {a b : Nat}, a ≤ b → facN a ≤ facN b := by
  intro a b h
  induction h with
  | refl => exact Nat.le_refl _
  | step _ ih => exact Nat.le_trans ih (Nat.le_mul_of_pos_right _ (Nat.succ_pos _))
/-- s (s - 1) .., k of them -/
def desc (s : Nat) : Nat → Nat
  | 0 => 1
  | k + 1 => desc s k * (s - k)
theorem desc_fac (s : Nat) : ∀ k, k ≤ s → desc s k * facN (s - k) = facN s
  | 0, _ => Nat.one_mul _
  | k + 1, h => by
    rw [← desc_fac s k (by omega)]
    show desc s k * (s - k) * facN (s - (k + 1)) = desc s k * facN (s - k)
    rw [show s - k = (s - (k + 1)) + 1 by omega]
    show _ = desc s k * (facN (s - (k + 1)) * (s - (k + 1) + 1))
    ac_rfl
theorem desc_cho (a b : Nat) : desc (a + b) a = cho (a + b) a * facN a := by
  have h1 := desc_fac (a + b) a (by omega)
  rw [show a + b - a = b by omega, ← cho_fac _ a b rfl, ← Nat.mul_assoc] at h1
  exact Nat.eq_of_mul_eq_mul_right (facN_pos b) h1
def divs (m : Nat) : Nat → Nat
  | 0 => m
  | k + 1 => divs m k / (k + 1)
theorem divs_fac (m : Nat) : ∀ k, divs m k = m / facN k
  | 0 => (Nat.div_one m).symm
  | k + 1 => by
    show divs m k / (k + 1) = m / (facN k * (k + 1))
    rw [divs_fac m k, Nat.div_div_eq_div_mul]
theorem num_node (l : B) (x : Nat) (r : B) : divs (l.num * r.num * desc (l.size + r.size) l.size) l.size = (B.node l x r).num := by
  rw [divs_fac, desc_cho, ← Nat.mul_assoc]
  exact Nat.mul_div_cancel _ (facN_pos _)
theorem desc_le (s : Nat) : ∀ k, k ≤ s → desc s k ≤ facN s := fun k h => by
  rw [← desc_fac s k h]
  exact Nat.le_mul_of_pos_right _ (facN_pos _)
/-! all orders -/
/-! ### sizes_in, count_together, count_orders -/
theorem lc2_it {J : It} {n : Nat} {G : Hp → Prop} {Y : Nat → Hp → V → Hp → Prop} (w : Walk J n G Y) {g : TG} {tt : TT} {wi1 : TI} {g1 : TG} {tt1 : TT} {te : TE} {vs vs1 : List Nat} {σ : L2.St} {H1 : Hp} {D : Addr} {Qd : Hp → Prop} (Pv : Nat → Hp → Prop) (h0 : Pv 0 (upd H1 D (.lst []))) (hG : ∀ i H, i ≤ n → Pv i H → G H)
    (hs : ∀ i x H H', i < n → Pv i H → Y i H x H' → g x (wipe σ vs) H' fun σ2 H2 => wipe σ2 vs = wipe σ vs ∧ tt σ2 H2 fun b H3 =>
      if b = true then wi1 σ2 H3 fun J1 H4 => ∃ W1 : Nat → Nat → Hp → Prop, (∃ m, W1 0 m H4) ∧ ∀ j k H, W1 j k H →
        (J1.stop j H ∧ Pv (i + 1) H) ∨ (J1.go j H ∧ ∃ Nx1 : Hp → Prop, (∀ H', Nx1 H' → ∃ k', k' < k ∧ W1 (j + 1) k' H') ∧ ∀ x H', J1.yld j H x H' → g1 x (wipe σ2 vs1) H' fun σ3 H5 => wipe σ3 vs1 = wipe σ2 vs1 ∧ tt1 σ3 H5 fun b H6 =>
          if b = true then te σ3 H6 fun y H7 => ∃ acc, H7 D = some (.lst acc) ∧ acc.length < sizeLine ∧ Nx1 (upd H7 D (.lst (acc ++ [y]))) else Nx1 H6)
      else Pv (i + 1) H3) (hd : ∀ H, Pv n H → Qd H) :
    ∃ W : Nat → Nat → Hp → Prop, (∃ m, W 0 m (upd H1 D (.lst []))) ∧ ∀ i m H, W i m H →
      (J.stop i H ∧ Qd H) ∨ (J.go i H ∧ ∃ Nx : Hp → Prop, (∀ H', Nx H' → ∃ m', m' < m ∧ W (i + 1) m' H') ∧ ∀ x H', J.yld i H x H' → g x (wipe σ vs) H' fun σ2 H2 => wipe σ2 vs = wipe σ vs ∧ tt σ2 H2 fun b H3 =>
        if b = true then wi1 σ2 H3 fun J1 H4 => ∃ W1 : Nat → Nat → Hp → Prop, (∃ m, W1 0 m H4) ∧ ∀ j k H, W1 j k H →
          (J1.stop j H ∧ Nx H) ∨ (J1.go j H ∧ ∃ Nx1 : Hp → Prop, (∀ H', Nx1 H' → ∃ k', k' < k ∧ W1 (j + 1) k' H') ∧ ∀ x H', J1.yld j H x H' → g1 x (wipe σ2 vs1) H' fun σ3 H5 => wipe σ3 vs1 = wipe σ2 vs1 ∧ tt1 σ3 H5 fun b H6 =>
            if b = true then te σ3 H6 fun y H7 => ∃ acc, H7 D = some (.lst acc) ∧ acc.length < sizeLine ∧ Nx1 (upd H7 D (.lst (acc ++ [y]))) else Nx1 H6)
        else Nx H3) := by
  refine ⟨fun i m H => m = n - i ∧ i ≤ n ∧ Pv i H, ⟨n, by simp, Nat.zero_le _, h0⟩, ?_⟩
  rintro i m H ⟨rfl, hi, p⟩
  have q := hG i H hi p
  by_cases hlt : i < n
  · exact .inr ⟨w.goes i H hlt q, Pv (i + 1), fun H' p' => ⟨n - (i + 1), by omega, rfl, hlt, p'⟩, fun x H' y => hs i x H H' hlt p (w.yields i H x H' hlt q y)⟩
  · have e : i = n := by omega
    subst e
    exact .inl ⟨w.stops H q, hd H p⟩
theorem in_it {J : It} {n : Nat} {G : Hp → Prop} {Y : Nat → Hp → V → Hp → Prop} (w : Walk J n G Y) {g : TG} {tt : TT} {te : TE} {vs : List Nat} {σ : L2.St} {H4 : Hp} {D : Addr} {Nx : Hp → Prop} (Pv : Nat → Hp → Prop) (h0 : Pv 0 H4) (hG : ∀ i H, i ≤ n → Pv i H → G H)
    (hs : ∀ i x H H', i < n → Pv i H → Y i H x H' → g x (wipe σ vs) H' fun σ2 H2 => wipe σ2 vs = wipe σ vs ∧ tt σ2 H2 fun b H3 =>
      if b = true then te σ2 H3 fun y H4 => ∃ acc, H4 D = some (.lst acc) ∧ acc.length < sizeLine ∧ Pv (i + 1) (upd H4 D (.lst (acc ++ [y]))) else Pv (i + 1) H3) (hd : ∀ H, Pv n H → Nx H) :
    ∃ W : Nat → Nat → Hp → Prop, (∃ m, W 0 m H4) ∧ ∀ i m H, W i m H →
      (J.stop i H ∧ Nx H) ∨ (J.go i H ∧ ∃ Nx1 : Hp → Prop, (∀ H', Nx1 H' → ∃ m', m' < m ∧ W (i + 1) m' H') ∧ ∀ x H', J.yld i H x H' → g x (wipe σ vs) H' fun σ2 H2 => wipe σ2 vs = wipe σ vs ∧ tt σ2 H2 fun b H3 =>
        if b = true then te σ2 H3 fun y H4 => ∃ acc, H4 D = some (.lst acc) ∧ acc.length < sizeLine ∧ Nx1 (upd H4 D (.lst (acc ++ [y]))) else Nx1 H3) := by
  refine ⟨fun i m H => m = n - i ∧ i ≤ n ∧ Pv i H, ⟨n, by simp, Nat.zero_le _, h0⟩, ?_⟩
  rintro i m H ⟨rfl, hi, p⟩
  have q := hG i H hi p
  by_cases hlt : i < n
  · exact .inr ⟨w.goes i H hlt q, Pv (i + 1), fun H' p' => ⟨n - (i + 1), by omega, rfl, hlt, p'⟩, fun x H' y => hs i x H H' hlt p (w.yields i H x H' hlt q y)⟩
  · have e : i = n := by omega
    subst e
    exact .inl ⟨w.stops H q, hd H p⟩
abbrev vn (n : Nat) : V := .int (n : Int)
/-- trees at vs -/
inductive TsAt (H : Hp) : List V → List B → Prop
  | nil : TsAt H [] []
  | cons {v : V} {t : B} {vs : List V} {ts : List B} : BAt H v t → TsAt H vs ts → TsAt H (v :: vs) (t :: ts)
theorem TsAt.same {H H' : Hp} (k : Same H H') {vs : List V} {ts : List B} (h : TsAt H vs ts) : TsAt H' vs ts := by
  induction h with
  | nil => exact .nil
  | cons a _ ih => exact .cons (a.same k) ih
theorem TsAt.len {H : Hp} {vs : List V} {ts : List B} (h : TsAt H vs ts) : vs.length = ts.length := by
  induction h with
  | nil => rfl
  | cons _ _ ih => rw [List.length_cons, List.length_cons, ih]
theorem TsAt.get {H : Hp} {vs : List V} {ts : List B} (h : TsAt H vs ts) : ∀ {i : Nat} {v : V}, vs[i]? = some v → ∃ t, ts[i]? = some t ∧ BAt H v t := by
  induction h with
  | nil => intro i v e; simp at e
  | cons a _ ih =>
    intro i v e
    cases i with
    | zero => cases e; exact ⟨_, rfl, a⟩
    | succ i => exact ih e
def hooksL (ts : List B) : List Nat := ts.flatMap B.hooks
def together (ts : List B) : Nat := (hooksL ts).foldl (· / ·) (facN (hooksL ts).length)
theorem together_one (t : B) : together [t] = t.num := by
  unfold together hooksL
  rw [List.flatMap_cons, List.flatMap_nil, List.append_nil, B.hooks_len, B.num_div]
def spSizesIn (N : Nat) : Sp := fun vs H Q _ => ∃ (v : V) (t : B), vs = [v] ∧ BAt H v t ∧ t.size < N ∧ t.size ≤ 500 ∧ ∀ (p : Addr) (H' : Hp), Same H H' → H p = none → H' p = some (.lst (t.hooks.map vn)) → Q (.ref p) H'
def spTogether (K : PySem.W.Frag) : Sp := fun vs H Q _ => ∃ (a : Addr) (us : List V) (ts : List B), vs = [.ref a] ∧ SqL K H a us ∧ TsAt H us ts ∧ (hooksL ts).length ≤ 15 ∧ ∀ (H' : Hp), Same H H' → Q (vn (together ts)) H'
theorem hooksL_pos (ts : List B) : ∀ h ∈ hooksL ts, 0 < h := fun h hh => by
  obtain ⟨t, _, h2⟩ := List.mem_flatMap.mp hh
  exact (t.hooks_pos h h2).1
theorem hooksL_snoc (ts : List B) (t : B) : hooksL (ts ++ [t]) = hooksL ts ++ t.hooks := by
  unfold hooksL
  rw [List.flatMap_append, List.flatMap_cons, List.flatMap_nil, List.append_nil]
theorem hooksL_take {ts : List B} (k : Nat) : (hooksL (ts.take k)).length ≤ (hooksL ts).length := by
  have h : hooksL ts = hooksL (ts.take k) ++ hooksL (ts.drop k) := by
    unfold hooksL
    rw [← List.flatMap_append, List.take_append_drop]
  rw [h, List.length_append]
  omega
theorem hook_le {ts : List B} {h : Nat} (hh : h ∈ hooksL ts) : h ≤ (hooksL ts).length := by
  obtain ⟨t, h1, h2⟩ := List.mem_flatMap.mp hh
  have := (t.hooks_pos h h2).2
  have l : t.hooks.length ≤ (hooksL ts).length := by
    obtain ⟨a, b, e⟩ := List.append_of_mem h1
    rw [e]
    unfold hooksL
    rw [List.flatMap_append, List.flatMap_cons, List.length_append, List.length_append]
    omega
  rw [B.hooks_len] at l
  omega
theorem fac15 {n : Nat} (h : n ≤ 15) : facN n ≤ 1307674368000 := Nat.le_trans (facN_mono h) (by decide)
theorem foldl_div_le : ∀ (l : List Nat) (m : Nat), l.foldl (· / ·) m ≤ m
  | [], m => Nat.le_refl _
  | h :: l, m => Nat.le_trans (foldl_div_le l (m / h)) (Nat.div_le_self _ _)
theorem take_nextG {α : Type} {zs : List α} {i : Nat} {c : α} (h : zs[i]? = some c) : zs.take (i + 1) = zs.take i ++ [c] := by
  rw [List.take_add_one, h]
  rfl
section
variable {P : Program} {w : World} {K : PySem.W.Frag} {mg : Str → Option Value} {base : Heap} {f : Addr} {fd : FuncData}
theorem ok_sizesIn (F : Fun K "sizes_in" "sizes_in" s_sizes_in f fd) (M : Mgs mg) (b : Binds K fd ["tree"] []) (g : mg "sizes_in" = some (.ref f)) : ∀ N : Nat, FnOk P w K mg base CX0 N f fd ["tree"] (spSizesIn N)
  | 0 => by
    have no : ∀ vs H Q E, ¬ spSizesIn 0 vs H Q E := fun vs H Q E h => by
      obtain ⟨v, t, _, _, h1, _⟩ := h
      omega
    exact ⟨fun vs H Q E h => absurd h (no vs H Q E), fun A outer s H args us vs Q E _ _ _ _ h => absurd h (no vs H Q E)⟩
  | N + 1 => by
    have Dself : Df P w K mg base N "sizes_in" ["tree"] (spSizesIn N) := ⟨f, fd, ok_sizesIn F M b g N, b, F.kp, g⟩
    refine F.ok sc_sizes_in (fun vs H Q E h => ?_) (fun cdv A outer s H vs Q E hr h => ?_)
    · obtain ⟨v, t, rfl, _⟩ := h
      rfl
    obtain ⟨v, t, rfl, hv, hn, hz, q⟩ := h
    refine ⟨_, (pss_cons (ps_if (pt_cmpR op_isN (pv 0) pe_non (nomark _))
      (pss_one (ps_ret (pe_lst pa_nil))) pss_nil)
    (pss_cons (ps_asg (pv 0) (pg_tup rfl (pgs_cons (pg_name (i := 1) sc_sizes_in.nd rfl (.inl rfl)) (pgs_cons (pg_name (i := 2) sc_sizes_in.nd rfl (.inl rfl)) (pgs_cons (pg_name (i := 3) sc_sizes_in.nd rfl (.inl rfl)) pgs_nil)))))
    (pss_cons (ps_set (i := 4) sc_sizes_in.nd rfl (.inl rfl) (pe_op op_cat (pe_call Dself.ok (hr.mono (by omega)) rfl Dself.g Dself.kp Dself.b .nil pass0 (pa_cons (pv 1) pa_nil)) (pe_call Dself.ok (hr.mono (by omega)) rfl Dself.g Dself.kp Dself.b .nil pass0 (pa_cons (pv 3) pa_nil))))
    (pss_one (ps_ret (pe_lst (pa_cons (pe_op op_add (pe_callB call_len_seq rfl M.len PySem.boot_len (pa_cons (pv 4) pa_nil)) pe_int) (StX.pa_star (pv 4) pa_nil)))))))), ?_⟩
    rcases hv.inv with ⟨rfl, rfl⟩ | ⟨a, l, r, x, tl, tr, rfl, rfl, ea, hl, hr'⟩
    · refine ⟨_, rfl, rfl, _, rfl, iteT ⟨(by show 0 ≤ sizeLine; decide), fun p np => ?_⟩⟩
      exact q p _ (same_new np _) np upd_same
    · have sz : tl.size + 1 + tr.size < N + 1 := hn
      have sz2 : tl.size + 1 + tr.size ≤ 500 := hz
      refine ⟨_, rfl, rfl, _, rfl, iteF ?_⟩
      refine ⟨_, rfl, a, _, rfl, SqT.of ea, rfl, _, _, rfl, _, _, rfl, _, _, rfl, rfl, ?_⟩
      refine ⟨_, rfl, l, tl, rfl, hl, by omega, by omega, fun p1 H1 s1 n1 e1 => ?_⟩
      refine ⟨_, rfl, r, tr, rfl, hr'.same s1, by omega, by omega, fun p2 H2 s2 n2 e2 => ?_⟩
      have h1 := tl.hooks_len
      have h2 := tr.hooks_len
      refine ⟨p1, p2, _, _, rfl, rfl, s2 _ _ e1, e2, small (by rw [List.length_map, List.length_map]; omega), fun p3 n3 => ?_⟩
      have k3 := same_new n3 (.lst (tl.hooks.map vn ++ tr.hooks.map vn))
      have e3 := upd_same (H := H2) (a := p3) (o := .lst (tl.hooks.map vn ++ tr.hooks.map vn))
      have s3 := (s1.trans s2).trans k3
      generalize upd H2 p3 (.lst (tl.hooks.map vn ++ tr.hooks.map vn)) = H3 at e3 s3 ⊢
      refine ⟨_, rfl, p3, _, rfl, .inl (SqL.of e3), _, _, rfl, rfl, _, rfl, p3, _, rfl, .inr (SqL.of e3), ?_⟩
      refine ⟨small ?_, fun p4 n4 => ?_⟩
      · rw [List.length_cons, List.length_append, List.length_append, List.length_map, List.length_map, List.length_nil]; omega
      have e5 : (fun i j : Int => V.int (i + j)) (((tl.hooks.map vn ++ tr.hooks.map vn).length : Nat) : Int) 1 :: ((tl.hooks.map vn ++ tr.hooks.map vn) ++ []) = (B.node tl x tr).hooks.map vn := by
        show _ = ((tl.size + tr.size + 1) :: (tl.hooks ++ tr.hooks)).map vn
        rw [List.append_nil, List.map_cons, List.map_append]
        refine congrArg (fun z => V.int z :: (tl.hooks.map vn ++ tr.hooks.map vn)) ?_
        rw [List.length_append, List.length_map, List.length_map, h1, h2]
        omega
      have k4 := same_new n4 (.lst ((fun i j : Int => V.int (i + j)) (((tl.hooks.map vn ++ tr.hooks.map vn).length : Nat) : Int) 1 :: ((tl.hooks.map vn ++ tr.hooks.map vn) ++ [])))
      exact q p4 _ (s3.trans k4) (s3.free n4) (upd_same.trans (congrArg (fun z => some (HO.lst z)) e5))
theorem ok_together (F : Fun K "count_together" "count_together" s_count_together f fd) (M : Mgs mg) (Dsizes_in : Df P w K mg base 20 "sizes_in" ["tree"] (spSizesIn 20)) : FnOk P w K mg base CX0 21 f fd ["parts"] (spTogether K) := by
  refine F.ok sc_count_together (fun vs H Q E h => ?_) (fun cdv A outer s H vs Q E hr h => ?_)
  · obtain ⟨a, us, ts, rfl, _⟩ := h
    rfl
  obtain ⟨a, us, ts, rfl, ea, ta, h15, q⟩ := h
  refine ⟨_, (pss_cons (ps_setLc2 (i := 3) (own := [("part", 1), ("size", 2)]) (vs1 := [2]) (g := gName 1) (tt := tYes) (g1 := gName 2) (tt1 := tYes) (by rfl) sc_count_together.nd rfl rfl (sw_true rfl rfl rfl (by decide +kernel)) (pi_list (pv 0)) (blkOk_by (N := ["parts", "part", "size", "sizes", "orders", "at"]) (sc := defScope s_count_together) (by decide +kernel)) (by decide) (fun _ _ _ _ _ => (pg_name (i := 1) sc_count_together.nd rfl (.inl rfl))) (fun _ _ _ _ _ => pts_nil) (fun _ _ _ _ _ => (show PI _ _ _ (iList K _) from pi_list (pe_call Dsizes_in.ok (hr.mono (by omega)) rfl Dsizes_in.g Dsizes_in.kp Dsizes_in.b .nil pass0 (pa_cons (pv 1) pa_nil)))) (fun _ _ _ _ _ => (pg_name (i := 2) sc_count_together.nd rfl (.inl rfl))) (fun _ _ _ _ _ => pts_nil) (fun _ _ _ _ _ => (pv 2)))
    (pss_cons (ps_set (i := 4) sc_count_together.nd rfl (.inl rfl) pe_int)
    (pss_cons (ps_for PassesOwn.never rfl (pi_range1 rfl M.range (pa_cons (pe_callB call_len_seq rfl M.len PySem.boot_len (pa_cons (pv 3) pa_nil)) pa_nil)) (pg_name (i := 5) sc_count_together.nd rfl (.inl rfl))
      (pss_one (ps_aug (i := 4) sc_count_together.nd rfl (.inl rfl) (pe_op op_add (pv 5) pe_int) (show PIp _ .Mult _ from iop_mul))))
    (pss_cons (ps_for PassesOwn.never rfl (pi_list (pv 3)) (pg_name (i := 2) sc_count_together.nd rfl (.inl rfl))
      (pss_one (ps_aug (i := 4) sc_count_together.nd rfl (.inl rfl) (pv 2) (show PIp _ .FloorDiv _ from iop_fdiv))))
    (pss_one (ps_ret (pv 4))))))), ?_⟩
  refine ⟨_, rfl, a, rfl, ⟨_, ea⟩, fun D nD => ?_⟩
  have kD := same_new nD (.lst [])
  have tl := ta.len
  refine lc2_it (walk_list (K := K) (a := a) (xs := us)) (fun i H' => Same H H' ∧ H' D = some (.lst ((hooksL (ts.take i)).map vn))) ⟨kD, upd_same⟩ (fun i H' _ hp => hp.1.seq ea) (fun i x H1 H1' hi hp hy => ?_) (fun H1 hp => ?_)
  · obtain ⟨s1, eD⟩ := hp
    obtain ⟨rfl, hx⟩ := hy
    obtain ⟨t, ht, hat⟩ := ta.get hx
    have tz : t.size ≤ 15 := by
      have := hooksL_take (ts := ts) (i + 1)
      rw [take_nextG ht, hooksL_snoc, List.length_append, B.hooks_len] at this
      omega
    refine ⟨rfl, kept ?_⟩
    refine ⟨_, rfl, x, t, rfl, hat.same s1, by omega, by omega, fun p H2 s2 np e2 => ⟨p, rfl, ⟨_, SqL.of e2⟩, ?_⟩⟩
    have npD : p ≠ D := Ne.symm (ne_of_none eD np)
    refine in_it (walk_list (K := K) (a := p) (xs := t.hooks.map vn)) (fun j H' => Same H H' ∧ H' p = some (.lst (t.hooks.map vn)) ∧ H' D = some (.lst ((hooksL (ts.take i)).map vn ++ (t.hooks.map vn).take j))) ⟨s1.trans s2, e2, by rw [List.take_zero, List.append_nil]; exact s2 _ _ eD⟩ (fun j H' _ hp => SqL.of hp.2.1) (fun j y H3 H3' hj hp hy => ?_) (fun H3 hp => ?_)
    · obtain ⟨s3, e3, eD3⟩ := hp
      obtain ⟨rfl, hy⟩ := hy
      have hl1 := hooksL_take (ts := ts) i
      have hl2 := t.hooks_len
      refine ⟨rfl, kept ⟨_, rfl, _, eD3, ?_, fun b o e => ?_, ?_, ?_⟩⟩
      · rw [List.length_append, List.length_map, List.length_take, List.length_map]; exact small1000 (by omega)
      · rw [upd_ne (ne_of_none e nD)]; exact s3 _ _ e
      · rw [upd_ne npD]; exact e3
      · rw [upd_same, take_nextG hy, List.append_assoc]
    · obtain ⟨s3, e3, eD3⟩ := hp
      rw [List.take_of_length_le (Nat.le_refl _), ← List.map_append, ← hooksL_snoc, ← take_nextG ht] at eD3
      exact ⟨s3, eD3⟩
  obtain ⟨s1, eD⟩ := hp
  rw [tl, List.take_length] at eD
  refine ⟨_, rfl, D, _, rfl, .inl (SqL.of eD), ?_⟩
  refine ⟨(((hooksL ts).map vn).length : Int), rfl, by rw [List.length_map]; omega, by rw [List.length_map]; omega, ?_⟩
  rw [Int.toNat_natCast]
  refine for_range (lo := 0) (n := ((hooksL ts).map vn).length) (fun i σ H' => ∃ (o5 : Option V), σ = [some (.ref a), none, none, some (.ref D), some (vn (facN i)), o5] ∧ Same H1 H') ⟨_, rfl, Same.refl _⟩ (fun i σ H2 hi hp => ?_) (fun σ H2 hp => ?_)
  · obtain ⟨o5, rfl, s2⟩ := hp
    rw [List.length_map] at hi
    have := fac15 (show i ≤ 15 by omega)
    refine ⟨_, rfl, _, rfl, _, _, rfl, rfl, _, _, rfl, rfl, .inl ⟨by omega, by omega⟩, ?_⟩
    refine ⟨some (.int (0 + i)), ?_, s2⟩
    have e : vn (facN (i + 1)) = V.int ((facN i : Int) * ((0 : Int) + (i : Int) + 1)) := congrArg V.int (by rw [Int.zero_add]; exact Int.natCast_mul _ _)
    rw [e]
    rfl
  obtain ⟨o5, rfl, s2⟩ := hp
  rw [List.length_map] at *
  have eD2 := s2 _ _ eD
  refine ⟨_, rfl, D, rfl, ⟨_, SqL.of eD2⟩, ?_⟩
  refine for_list (K := K) (a := D) (xs := (hooksL ts).map vn) (fun i σ H' => ∃ (o2 : Option V), σ = [some (.ref a), none, o2, some (.ref D), some (vn (((hooksL ts).take i).foldl (· / ·) (facN (hooksL ts).length))), o5] ∧ Same H2 H') ⟨_, rfl, Same.refl _⟩ (fun i σ H' _ hp => by obtain ⟨_, _, sm⟩ := hp; exact SqL.of (sm _ _ eD2)) (fun i x σ H3 hx hp => ?_) (fun σ H3 hp => ?_)
  · obtain ⟨o2, rfl, s3⟩ := hp
    rw [List.getElem?_map] at hx
    obtain ⟨h, hh, rfl⟩ := Option.map_eq_some_iff.mp hx
    have hm := List.mem_of_getElem? hh
    have hpos := hooksL_pos ts h hm
    have hle := hook_le hm
    have fb := foldl_div_le ((hooksL ts).take i) (facN (hooksL ts).length)
    have := fac15 h15
    refine ⟨_, rfl, _, rfl, _, _, rfl, rfl, ⟨by omega, by omega⟩, ?_⟩
    refine ⟨some (vn h), ?_, s3⟩
    have e : vn (((hooksL ts).take (i + 1)).foldl (· / ·) (facN (hooksL ts).length)) = V.int (((((hooksL ts).take i).foldl (· / ·) (facN (hooksL ts).length) : Nat) : Int) / (h : Int)) := by
      rw [take_nextG hh, List.foldl_append]
      rfl
    rw [e]
    rfl
  · obtain ⟨o2, rfl, s3⟩ := hp
    rw [List.length_map, List.take_length]
    exact ⟨_, rfl, q H3 (s1.trans (s2.trans s3))⟩
def spCountO : Sp := fun vs H Q _ => ∃ (v : V) (t : B), vs = [v] ∧ BAt H v t ∧ t.size ≤ 15 ∧ ∀ (H' : Hp), Same H H' → Q (vn t.num) H'
theorem ok_countO (F : Fun K "count_orders" "count_orders" s_count_orders f fd) (Dcount_together : Df P w K mg base 21 "count_together" ["parts"] (spTogether K)) : FnOk P w K mg base CX0 22 f fd ["tree"] spCountO := by
  refine F.ok sc_count_orders (fun vs H Q E h => ?_) (fun cdv A outer s H vs Q E hr h => ?_)
  · obtain ⟨v, t, rfl, _⟩ := h
    rfl
  obtain ⟨v, t, rfl, hv, hz, q⟩ := h
  refine ⟨_, (pss_one (ps_ret (pe_call Dcount_together.ok (hr.mono (by omega)) rfl Dcount_together.g Dcount_together.kp Dcount_together.b .nil pass0 (pa_cons (pe_lst (pa_cons (pv 0) pa_nil)) pa_nil)))), ?_⟩
  refine ⟨_, rfl, (by show 1 ≤ sizeLine; decide), fun p np => ?_⟩
  have k1 := same_new np (.lst [v])
  refine ⟨p, [v], [t], rfl, SqL.of upd_same, .cons (hv.same k1) .nil, ?_, fun H' s' => ?_⟩
  · unfold hooksL
    rw [List.flatMap_cons, List.flatMap_nil, List.append_nil, B.hooks_len]
    exact hz
  · rw [together_one]
    exact q H' (k1.trans s')
end
/-! ### sorted(xs, key=lambda x: x[0]), sorted(xs, key=lambda x: len(x[0])) -/
section
variable {prog : Program} {w : World} {A : Around} {s : Shared}
/-- a lambda of one name, called; its body told from the new frame -/
theorem lam_one {f c' : Addr} {q x : Str} {params : Arguments} {body : Expr} {scope : Scope} {cl : List (Str × Addr)} {pm ctv v : Value} {Q : Value → Shared → Prop}
    (room : A.depth < recursionLimit) (hf : s.heap.get? f = some (PySem.W.kla_obj "<lambda>" q params body scope cl pm c' ctv)) (hrec : s.heap.CodeRec (.ref c') q) (lim : s.heap.NoLimit)
    (hco : scope.isCoroutine = false) (hgen : scope.isGenerator = false) (hk : scope.kind = .function) (hc : ∀ y ∈ scope.names, y.2 ≠ .cell) (hx : scope.names.lookup x = some .local)
    (hbind : bindArgs (PySem.W.kla_fn "<lambda>" q params body scope cl pm (.ref c') ctv) ⟨[v], []⟩ = pure [(x, v)])
    (hbody : ∀ (h₁ : Heap) (env : Env), (∀ b o, s.heap.get? b = some o → h₁.get? b = some o) → env.scope = scope → env.globals = mainGlobals → env.builtins = builtinsNs → env.kindOf x = some .local → h₁.Ns env.locals (fun y => [(x, v)].reverse.lookup y) →
      wpAny (model prog w) (A.deeper env) (eval body env) Q (fun _ _ => False) { s with heap := h₁, toks := s.toks + 1 }) :
    wpAny (model prog w) A (call (.ref f) [v]) Q (fun _ _ => False) s := by
  refine wpAny_call (PySem.W.kla_callFunE room hf rfl hco hgen rfl hrec ?_)
  rw [hbind]
  refine wpAny_pure (wpAny_newFunctionEnv hc (fun y hy => by rw [List.mem_singleton.mp hy]; exact hx) (fun h₁ hns hsb => ⟨lim.fresh _ hsb, ?_⟩) hk)
  refine PySem.W.kla_codeExpr (wpAny_mono (hbody h₁ _ (fun b o e => hsb.extBut b o (Nat.ne_of_lt (Heap.lt_size e)) (Heap.get?_push_of_some _ e)) rfl rfl rfl hx hns) (fun v s' h => h) fun _ _ h => h.elim)
/-- its body x[0], x a pair that begins with a text -/
theorem lam_item {env : Env} {x : Str} {t : Addr} {items : Array Value} {z : Str} {tz : Tok} {m : Str → Option Value} {j : Nat} {p1 cp pos : Pos} {Q : Value → Shared → Prop} (hk : env.scope.kind = .function) (hx : env.kindOf x = some .local) (hn : s.heap.Ns env.locals m)
    (hm : m x = some (.ref t)) (ht : IsTup s.heap t items) (h0 : items[0]? = some (.str z tz)) (hd : (x == ("__debug__" : Str)) = false) (hq : ∀ tk, Q (.str z tz) { s with toks := tk }) :
    wpAny (model prog w) A (eval (.Subscript (.Name x p1) (.Constant (.int 0) j cp) pos) env) Q (fun _ _ => False) s := by
  refine Subscript_ (wpAny_Name (wpAny_loadName_local hk hx hn hm ?_) hd)
  refine wpAny_Constant_int ?_
  have hsz : 0 < items.size := (Array.getElem?_eq_some_iff.mp h0).1
  exact item_tuple (j := 0) ht (by decide) (by decide) (seqIndex_of (Int.le_refl 0) (by omega)) h0 (hq _)
/-- its body len(x[0]) -/
theorem lam_len {env : Env} {x : Str} {t : Addr} {items : Array Value} {z : Str} {tz : Tok} {m mg mb : Str → Option Value} {j : Nat} {p0 p1 cp pos pos2 : Pos} {Q : Value → Shared → Prop} (hk : env.scope.kind = .function) (hx : env.kindOf x = some .local) (hn : s.heap.Ns env.locals m)
    (hl : env.kindOf "len" = some .globalImplicit) (hg : env.globals = mainGlobals) (hbn : env.builtins = builtinsNs) (hmg : s.heap.Ns mainGlobals mg) (hmb : s.heap.Ns builtinsNs mb) (hml : mg "len" = none) (hbl : mb "len" = bootBuiltins "len")
    (hm : m x = some (.ref t)) (ht : IsTup s.heap t items) (h0 : items[0]? = some (.str z tz)) (hd : (x == ("__debug__" : Str)) = false) (hz : z.length ≤ 1000000) (hq : ∀ tu tk, Q (.int (z.length : Int) tu) { s with toks := tk }) :
    wpAny (model prog w) A (eval (.Call (.Name "len" p0) [.Subscript (.Name x p1) (.Constant (.int 0) j cp) pos] [] pos2) env) Q (fun _ _ => False) s := by
  refine Call_ (Calls.Name_function_global hk hl (Calls.loadGlobal_builtin (by rw [hg]; exact hmg) hml (by rw [hbn]; exact hmb) (hbl.trans (show bootBuiltins "len" = some (.builtin "len") by decide +kernel)) ?_) (by decide))
  refine PyProof.Rows.callWith_builtin1 ?_
  refine Calls.spliced_cons (lam_item hk hx hn hm ht h0 hd fun tk => Calls.spliced_nil ?_)
  exact PySem.P.len_str (by omega) (hq _ _)
end
theorem each_vals {vs : List V} {us : List Value} (h : Vals vs us) : PySem.W.EachIs (fun u v => RelV v u) us vs := by
  induction h with
  | nil => exact .nil
  | cons r _ ih => exact .cons r ih
theorem vals_each {vs : List V} {us : List Value} (h : PySem.W.EachIs (fun u v => RelV v u) us vs) : Vals vs us := by
  induction h with
  | nil => exact .nil
  | cons r _ ih => exact .cons r ih
theorem seqL_ext {K : PySem.W.Frag} {H H' : Hp} (e : LamX.ExtN H H') {a : Addr} {xs : List V} (h : SqL K H a xs) : SqL K H' a xs := by
  rcases h with h | h
  · rcases h with h | ⟨o, h⟩
    · exact .inl (.inl (e _ _ h (fun ps z => by cases z)))
    · exact .inl (.inr ⟨o, e _ _ h (fun ps z => by cases z)⟩)
  · exact .inr h
/-- a lambda of one name whose value at a pair that begins with the text z is g z -/
def KeyLam (x : Str) (mg : Str → Option Value) (params : Arguments) (body : Expr) (scope : Scope) (g : Str → PyData) : Prop :=
  scope.isCoroutine = false ∧ scope.isGenerator = false ∧ scope.kind = .function ∧ (∀ y ∈ scope.names, y.2 ≠ .cell ∧ y.2 ≠ .free) ∧ scope.names.lookup x = some .local ∧
  (∀ (q : Str) (pm cv ctv v : Value) (cl : List (Str × Addr)), bindArgs (PySem.W.kla_fn "<lambda>" q params body scope cl pm cv ctv) ⟨[v], []⟩ = pure [(x, v)]) ∧
  ∀ {prog : Program} {w : World} {A : Around} {s : Shared} {env : Env} {t : Addr} {items : Array Value} {z : Str} {tz : Tok} {mb : Str → Option Value} {m : Str → Option Value} {Q : Value → Shared → Prop}, env.scope = scope → env.globals = mainGlobals → env.builtins = builtinsNs → env.kindOf x = some .local → s.heap.Ns env.locals m → m x = some (.ref t) →
    s.heap.Ns mainGlobals mg → s.heap.Ns builtinsNs mb → (∀ y : Str, y ≠ "__name__" → mb y = bootBuiltins y) → IsTup s.heap t items → items[0]? = some (.str z tz) → z.length ≤ 1000000 → (∀ v tk, Reads s.heap v (g z) [] → Q v { s with toks := tk }) →
    wpAny (model prog w) A (eval body env) Q (fun _ _ => False) s
def KeyG (g : Str → PyData) : Prop := (∀ z z', PySem.W.alike (g z) (g z') = true) ∧ (∀ z, g z ≠ .none ∧ ∀ xs, g z ≠ .tuple xs) ∧ ∀ z, (g z).depth = 0
def tSortK (K : PySem.W.Frag) (T : List (Addr × Str)) (g : Str → PyData) (te : TE) : TE := fun σ H Q => te σ H fun v H1 => ∃ (a : Addr) (xs : List V) (kf : V → PyData), v = .ref a ∧ SqL K H1 a xs ∧ LamX.Tabs T H1 ∧
  (∀ x ∈ xs, ∃ (t : Addr) (z : Str) (u : V), x = .ref t ∧ H1 t = some (.tup [.str z, u]) ∧ kf x = g z ∧ z.length ≤ 1000000) ∧
  ∀ (p : Addr) (H2 : Hp), LamX.ExtN H1 H2 → LamX.Tabs T H2 → H2 p = none → Q (.ref p) (upd H2 p (.lst (xs.mergeSort (PySem.W.dataLe false kf))))
section
variable {X : Cx}
theorem pe_sortKey {T : List (Addr × Str)} {c P : Addr} {k : Nat} {g : Str → PyData} {te : TE} {e : Expr} {x : Str} {params : Arguments} {body : Expr} {scope : Scope} {p lpos kpos pos : Pos} (he : PE X e te) (hg : Gl X "sorted") (hm : X.mg "sorted" = none) (hr : Room (k + 1) X.A)
    (TB : LamX.TabB X.base X.mg c P) (hcode : X.env.code = .ref c) (hmT : (P, X.env.qual ++ "<lambda>") ∈ T) (hu : ∀ p ∈ T, p.1 = P → p.2 = X.env.qual ++ "<lambda>") (hdef : defaultsOf params X.env = ([], []))
    (KL : KeyLam x X.mg params body scope g) (KG : KeyG g) (hst : backTo pos (starEach [e] X.env) = (false, eval e X.env) :: backTo pos (starEach [] X.env) := by rfl) :
    PE X (.Call (.Name "sorted" p) [e] [⟨some "key", .Lambda params body scope lpos, kpos⟩] pos) (tSortK X.K T g te) := by
  obtain ⟨k1, k2, k3, k4, k5, k6, k7⟩ := KL
  obtain ⟨g1, g2, g3⟩ := KG
  refine ⟨fun pins s σ H Q I h => ?_⟩
  refine wpAny_Call_Name_kw (ld_blt I hg hm (show bootBuiltins "sorted" = some (.builtin "sorted") by decide +kernel) ?_)
  refine PyProof.Rows.callWith_kw ?_ hst (by rw [hst]; rfl) (by rfl) (by rfl)
  rw [hst]
  refine Calls.spliced_cons (thn (he.run pins s σ H _ I h) fun u s1 ⟨v, H1, I1, r1, a, xs, kf, ev, hs, hT, hx, q⟩ => ?_)
  subst ev
  obtain rfl : u = Value.ref a := r1
  refine Calls.spliced_nil ?_
  refine PyProof.Rows.evalAll_cons ?_
  show wpAny _ _ (eval (.Lambda params body scope lpos) X.env >>= fun v => standAt pos >>= fun _ => pure v) _ _ _
  refine wpAny_bind (LamX.lam_make2 I1 TB hcode hmT hu hT hdef (fun y hy e => absurd e (k4 y hy).2) fun f c' pm ctv H2 s2 I2 eN T2 hf hfn hfr hco => wpAny_bind (wpAny_standAt (wpAny_pure (PyProof.Rows.evalAll_nil ?_))))
  show wpAny _ _ (call (.builtin "sorted") [.ref a] [("key", .ref f)]) _ _ s2
  have hs2 := seqL_ext eN hs
  obtain ⟨its, rv, hl, hz⟩ := I2.list hs2
  have ex : ∀ z, z ∈ xs.map kf → ∃ y, z = g y := fun z hm => by
    obtain ⟨v, hv, rfl⟩ := List.mem_map.mp hm
    obtain ⟨_, y, _, _, _, e, _⟩ := hx v hv
    exact ⟨y, e⟩
  have room := hr.dp
  have units := hr.un
  refine PySem.W.sorted_key_data (b := false) (β := V) (bs := xs) (R := fun u v => RelV v u) kf hl.isList (each_vals rv) (fun d hd d' hd' => ?_) (.inr fun d hd => ?_) hz (fun v hv => ?_) (PyProof.Rows.ksk_s1 _ _) (fun _ => PyProof.Rows.ksk_l1 _ _) (fun _ => PyProof.Rows.ksk_t1 _ _) (fun v y r hy h tk kp => ?_) fun out c2 h' tk kp fresh ho hlen eo => ?_
  · obtain ⟨y, rfl⟩ := ex d hd
    obtain ⟨y', rfl⟩ := ex d' hd'
    exact g1 y y'
  · obtain ⟨y, rfl⟩ := ex d hd
    exact g2 y
  · obtain ⟨y, e⟩ := ex (kf v) (List.mem_map.mpr ⟨v, hv, rfl⟩)
    rw [e, g3]
    omega
  · obtain ⟨t, z, u2, rfl, ht, ek, hzl⟩ := hx y hy
    obtain rfl : v = Value.ref t := r
    obtain ⟨_, its2, r2, o, hot, hct, n, hdt⟩ := I2.hok t _ (eN _ _ ht (fun ps z => by cases z))
    obtain ⟨w1, w2, rfl, rw1, _⟩ := vals2 r2
    obtain ⟨tz, rfl⟩ := rw1
    obtain ⟨⟨oc, vs, tc, hoc, hdc, hvc⟩, _, _⟩ := I2.hok c' _ hco
    obtain ⟨mb, b1, b2⟩ := I2.mod.blt
    have glob : s2.heap.Ns mainGlobals X.mg := I2.mod.glob.keeps I2.bk
    have blt : s2.heap.Ns builtinsNs mb := b1.keeps I2.bk
    refine lam_one (s := { s2 with heap := h, toks := tk }) (by show X.A.depth < recursionLimit; omega) (kp _ _ hf) ⟨c', oc, vs, tc, rfl, kp _ _ hoc, hdc, hvc⟩ (I2.nolimit.keeps kp) k1 k2 k3 (fun y hy => (k4 y hy).1) k5 (k6 _ _ _ _ _ _) fun h₁ env kp2 e1 e2 e3 e4 hns => ?_
    have kk : ∀ b o, s2.heap.get? b = some o → h₁.get? b = some o := fun b o e => kp2 b o (kp b o e)
    refine k7 e1 e2 e3 e4 hns (by simp) (glob.keeps kk) (blt.keeps kk) b2 (⟨o, kk _ _ hot, hct, n, hdt⟩ : IsTup h₁ t _) rfl hzl fun v' tk' hrd => ?_
    rw [ek]
    exact ⟨h₁, tk', rfl, kp2, hrd⟩
  · have hp : H2 (s2.heap.objs.size + 1) = none := I2.hok.fresh (Nat.le_succ _)
    refine ⟨.ref _, _, I2.laid (t' := tk) kp (Nat.le_succ _) (o := .lst (xs.mergeSort (PySem.W.dataLe false kf))) ⟨by rw [List.length_mergeSort]; exact hz, out, c2, vals_each eo, ho⟩, rfl, q _ _ eN T2 hp⟩
end
theorem keyG_str : KeyG PyData.str := ⟨fun _ _ => by simp [PySem.W.alike], fun _ => ⟨by simp, by simp⟩, fun _ => by simp [PyData.depth]⟩
theorem keyG_len : KeyG fun z : Str => .int (z.length : Int) := ⟨fun _ _ => by simp [PySem.W.alike], fun _ => ⟨by simp, by simp⟩, fun _ => by simp [PyData.depth]⟩
theorem keyLam_item {mg : Str → Option Value} {x : Str} {params : Arguments} {scope : Scope} {j : Nat} {p1 cp pos : Pos} (h1 : scope.isCoroutine = false) (h2 : scope.isGenerator = false) (h3 : scope.kind = .function) (h4 : ∀ y ∈ scope.names, y.2 ≠ .cell ∧ y.2 ≠ .free) (h5 : scope.names.lookup x = some .local)
    (h6 : ∀ (q : Str) (pm cv ctv v : Value) (cl : List (Str × Addr)), bindArgs (PySem.W.kla_fn "<lambda>" q params (.Subscript (.Name x p1) (.Constant (.int 0) j cp) pos) scope cl pm cv ctv) ⟨[v], []⟩ = pure [(x, v)]) (hd : (x == ("__debug__" : Str)) = false) :
    KeyLam x mg params (.Subscript (.Name x p1) (.Constant (.int 0) j cp) pos) scope PyData.str :=
  ⟨h1, h2, h3, h4, h5, h6, fun e1 e2 e3 e4 hn hm g b b2 ht h0 hz hq => lam_item (by rw [e1]; exact h3) e4 hn hm ht h0 hd fun tk => hq _ tk (Reads.str _ _)⟩
theorem keyLam_len {mg : Str → Option Value} {x : Str} {params : Arguments} {scope : Scope} {j : Nat} {p0 p1 cp pos pos2 : Pos} (h1 : scope.isCoroutine = false) (h2 : scope.isGenerator = false) (h3 : scope.kind = .function) (h4 : ∀ y ∈ scope.names, y.2 ≠ .cell ∧ y.2 ≠ .free) (h5 : scope.names.lookup x = some .local)
    (h6 : ∀ (q : Str) (pm cv ctv v : Value) (cl : List (Str × Addr)), bindArgs (PySem.W.kla_fn "<lambda>" q params (.Call (.Name "len" p0) [.Subscript (.Name x p1) (.Constant (.int 0) j cp) pos] [] pos2) scope cl pm cv ctv) ⟨[v], []⟩ = pure [(x, v)]) (hd : (x == ("__debug__" : Str)) = false)
    (h7 : scope.names.lookup ("len" : Str) = some NameKind.globalImplicit) (h8 : mg "len" = none) :
    KeyLam x mg params (.Call (.Name "len" p0) [.Subscript (.Name x p1) (.Constant (.int 0) j cp) pos] [] pos2) scope fun z => .int (z.length : Int) :=
  ⟨h1, h2, h3, h4, h5, h6, fun e1 e2 e3 e4 hn hm g b b2 ht h0 hz hq => lam_len (by rw [e1]; exact h3) e4 hn (by rw [← e1] at h7; exact h7) e2 e3 g b h8 (b2 _ (by decide)) hm ht h0 hd hz fun tu tk => hq _ tk (Reads.int _ _)⟩
/-! ### sorted(text) -/
section
variable {X : Cx}
def rSortedTx : List V → Hp → VK → Prop := fun vs H Q => ∃ x : Str, vs = [.str x] ∧ x.length ≤ 1000 ∧
  ∀ (ys : List Str) (p : Addr), ys.Perm (x.cps.toList.map fun c => (⟨#[c]⟩ : Str)) → sortedS ys = true → H p = none → Q (.ref p) (upd H p (.lst (ys.map V.str)))
theorem cr_sortedTx (hc : X.calm = true) : CallR X (.builtin "sorted") rSortedTx := by
  intro pins s σ H vs us Q I r h
  obtain ⟨x, rfl, hx, q⟩ := h
  obtain ⟨u, rfl, t, rfl⟩ := vals1 r
  refine Calls.call_function_entry kind_sorted plain_sorted entry_sorted (args_sorted1 _) ?_
  unfold Builtin.«sorted»
  refine wpAny_bind (m := checkCount "sorted" 1 1 _) (wpAny_pure ?_)
  refine wpAny_bind (wpAny_collect_str (show X.A.in1.handled = none from I.ok.hd hc) x t (fun s' acc hk hg hd ho hacc => ?_) (show x.cps.size ≤ sizeLine from Nat.le_trans hx (by decide)))
  have e0 : s' = { s with heap := s'.heap, toks := s'.toks } := by
    cases s'
    cases s
    simp_all
  have I2 : Inv X pins σ H s' := by
    rw [e0]
    exact I.kept hk
  have hl : acc.toList.length = x.cps.toList.length := by rw [Array.length_toList, Array.length_toList]; exact hacc.1
  have hz : acc.toList.length ≤ sizeLine := by rw [hl]; exact Nat.le_trans (by rw [Array.length_toList]; exact hx) (by decide : 1000 ≤ sizeLine)
  have rv : Vals (x.cps.toList.map fun c => V.str ⟨#[c]⟩) acc.toList := vals_signs _ _ hl fun j v e => by
    obtain ⟨c, u, e1, e2⟩ := hacc.2 j v (by simpa using e)
    exact ⟨c, u, by simpa using e1, e2⟩
  have rv2 : Vals ((x.cps.toList.map fun c => (⟨#[c]⟩ : Str)).map V.str) acc.toList := by rw [List.map_map]; exact rv
  have hS := rv2.strs
  refine wpAny_bind (wpAny_newList ?_ hz)
  have hoL : (s'.heap.push (seqObj "list" acc.toList.toArray 0)).get? s'.heap.objs.size = some (seqObj "list" acc.toList.toArray 0) := Heap.get?_push_size _ rfl
  refine wpAny_bind (wpAny_holding (wpAny_call_entry slot_list_sort ⟨_, hoL, rfl⟩ entry_list_sort (list_sort_treeKAny (κ := strKind) strKind_oneLt hoL hS.keysOf (fun v₁ v₂ rest e => keyKind_strs (by rw [← e]; exact hS)) hz fun st' hp hs => ⟨_, rfl, ?_⟩) (args_list_sort _)))
  obtain ⟨ys, h1, h2, h3⟩ := sorted_out_str hS hp hs
  refine wpAny_pure ⟨_, rfl, ?_⟩
  obtain ⟨ep, he'⟩ := sortedHeap_at (out := (arrOf st').map (·.2)) hoL
  have hlen : (ys.map V.str).length ≤ sizeLine := by rw [List.length_map, h2.length_eq, List.length_map, ← hl]; exact hz
  refine ⟨.ref _, upd H s'.heap.objs.size (.lst (ys.map V.str)), I2.laid (t' := s'.toks) (fun b o e' => ?_) (Nat.le_refl _) ⟨hlen, _, ep, vals_of_strs h1, he'⟩, rfl, q ys _ h2 h3 (I2.hok.fresh (Nat.le_refl _))⟩
  have lt := Heap.lt_size e'
  rw [sortedHeap_old (Nat.ne_of_lt lt) (by rw [size_push']; exact Nat.lt_succ_of_lt lt)]
  exact Heap.get?_push_of_some _ e'
end
/-! ### next_steps -/
def kids (l r : B) : List B := [l, r].filter fun t => decide (t ≠ .nil)
def kidsV (l r : V) : List V := [l, r].filter fun v => !decide (v = .non)
/-- the steps from ts, the i-th root taken -/
def stepAt (ts : List B) (i : Nat) : Nat × List B := match ts[i]? with
  | some (.node l x r) => (x, ts.take i ++ kids l r ++ ts.drop (i + 1))
  | _ => (0, [])
def stepsL (ts : List B) : List (Nat × List B) := (List.range ts.length).map (stepAt ts)
theorem TsAt.app {H : Hp} {vs us : List V} {ts ws : List B} (h : TsAt H vs ts) (g : TsAt H us ws) : TsAt H (vs ++ us) (ts ++ ws) := by
  induction h with
  | nil => exact g
  | cons a _ ih => exact .cons a ih
theorem TsAt.take {H : Hp} {vs : List V} {ts : List B} (h : TsAt H vs ts) : ∀ n : Nat, TsAt H (vs.take n) (ts.take n) := by
  induction h with
  | nil => intro n; rw [List.take_nil, List.take_nil]; exact .nil
  | cons a _ ih =>
    intro n
    cases n with
    | zero => exact .nil
    | succ n => exact .cons a (ih n)
theorem TsAt.drop {H : Hp} {vs : List V} {ts : List B} (h : TsAt H vs ts) : ∀ n : Nat, TsAt H (vs.drop n) (ts.drop n) := by
  induction h with
  | nil => intro n; rw [List.drop_nil, List.drop_nil]; exact .nil
  | cons a h ih =>
    intro n
    cases n with
    | zero => exact .cons a h
    | succ n => exact ih n
theorem TsAt.keep {H H' : Hp} (k : KeepT H H') {vs : List V} {ts : List B} (h : TsAt H vs ts) : TsAt H' vs ts := by
  induction h with
  | nil => exact .nil
  | cons a _ ih => exact .cons (a.keep k) ih
theorem kids_at {H : Hp} {l r : V} {tl tr : B} (hl : BAt H l tl) (hr : BAt H r tr) : TsAt H (kidsV l r) (kids tl tr) := by
  unfold kids kidsV
  rcases hl.inv with ⟨rfl, rfl⟩ | ⟨a, l1, r1, x, t1, t2, rfl, rfl, e, h1, h2⟩ <;> rcases hr.inv with ⟨rfl, rfl⟩ | ⟨a', l1', r1', x', t1', t2', rfl, rfl, e', h1', h2'⟩
  · exact .nil
  · exact .cons hr .nil
  · exact .cons hl .nil
  · exact .cons hl (.cons hr .nil)
/-- the steps SS lie at us: pairs of a letter and a new list of trees, none of the lists at N -/
inductive SAt (N : Addr) (H : Hp) : List V → List (Nat × List B) → Prop
  | nil : SAt N H [] []
  | cons {a q : Addr} {c : Nat} {ws : List V} {ts : List B} {us : List V} {ss : List (Nat × List B)} : H a = some (.tup [.str (ch c), .ref q]) → q ≠ N → H q = some (.lst ws) → TsAt H ws ts → SAt N H us ss → SAt N H (.ref a :: us) ((c, ts) :: ss)
theorem SAt.keep {N : Addr} {H H' : Hp} (k : KeepT H H') (kl : ∀ b o, b ≠ N → H b = some o → (∀ ps, o ≠ .tbl ps) → H' b = some o) {us : List V} {ss : List (Nat × List B)} (h : SAt N H us ss) : SAt N H' us ss := by
  induction h with
  | nil => exact .nil
  | cons e1 e2 e3 e4 _ ih => exact .cons (k _ _ e1) e2 (kl _ _ e2 e3 (fun ps z => by cases z)) (e4.keep k) ih
theorem SAt.snoc {N : Addr} {H : Hp} {us : List V} {ss : List (Nat × List B)} (h : SAt N H us ss) {a q : Addr} {c : Nat} {ws : List V} {ts : List B} (e1 : H a = some (.tup [.str (ch c), .ref q])) (e2 : q ≠ N) (e3 : H q = some (.lst ws)) (e4 : TsAt H ws ts) : SAt N H (us ++ [.ref a]) (ss ++ [(c, ts)]) := by
  induction h with
  | nil => exact .cons e1 e2 e3 e4 .nil
  | cons f1 f2 f3 f4 _ ih => exact .cons f1 f2 f3 f4 ih
theorem SAt.len {N : Addr} {H : Hp} {us : List V} {ss : List (Nat × List B)} (h : SAt N H us ss) : us.length = ss.length := by
  induction h with
  | nil => rfl
  | cons _ _ _ _ _ ih => rw [List.length_cons, List.length_cons, ih]
theorem SAt.get {N : Addr} {H : Hp} {us : List V} {ss : List (Nat × List B)} (h : SAt N H us ss) : ∀ {i : Nat} {v : V}, us[i]? = some v → ∃ a q c ws ts, v = .ref a ∧ ss[i]? = some (c, ts) ∧ H a = some (.tup [.str (ch c), .ref q]) ∧ H q = some (.lst ws) ∧ TsAt H ws ts := by
  induction h with
  | nil => intro i v e; simp at e
  | cons e1 e2 e3 e4 _ ih =>
    intro i v e
    cases i with
    | zero => cases e; exact ⟨_, _, _, _, _, rfl, rfl, e1, e3, e4⟩
    | succ i => exact ih e
theorem SAt.re {N N' : Addr} {H : Hp} {us : List V} {ss : List (Nat × List B)} (h : SAt N H us ss) (n : H N' = none) : SAt N' H us ss := by
  induction h with
  | nil => exact .nil
  | cons e1 e2 e3 e4 _ ih => exact .cons e1 (ne_of_none e3 n) e3 e4 ih
theorem SAt.perm {N : Addr} {H : Hp} {us ys : List V} (p : ys.Perm us) : ∀ {ss : List (Nat × List B)}, SAt N H us ss → ∃ zz, SAt N H ys zz ∧ zz.Perm ss := by
  induction p with
  | nil => intro ss h; exact ⟨ss, h, .refl _⟩
  | cons x _ ih =>
    intro ss h
    cases h with
    | cons e1 e2 e3 e4 h =>
      obtain ⟨zz, h1, h2⟩ := ih h
      exact ⟨_ :: zz, .cons e1 e2 e3 e4 h1, h2.cons _⟩
  | swap x y l =>
    intro ss h
    cases h with
    | cons e1 e2 e3 e4 h =>
      cases h with
      | cons f1 f2 f3 f4 h => exact ⟨_ :: _ :: _, .cons f1 f2 f3 f4 (.cons e1 e2 e3 e4 h), List.Perm.swap _ _ _⟩
  | trans _ _ ih1 ih2 =>
    intro ss h
    obtain ⟨z1, h1, p1⟩ := ih2 h
    obtain ⟨z2, h2, p2⟩ := ih1 h1
    exact ⟨z2, h2, p2.trans p1⟩
def kzOf (H : Hp) (x : V) : Str := match x with
  | .ref t => (match H t with | some (.tup [.str z, _]) => z | _ => Str.ofString "")
  | _ => Str.ofString ""
theorem kzOf_at {H : Hp} {a : Addr} {z : Str} {u : V} (e : H a = some (.tup [.str z, u])) : kzOf H (.ref a) = z := by
  simp only [kzOf, e]
theorem SAt.kz {N : Addr} {H : Hp} {us : List V} {ss : List (Nat × List B)} (h : SAt N H us ss) : us.map (kzOf H) = ss.map fun s => ch s.1 := by
  induction h with
  | nil => rfl
  | cons e1 _ _ _ _ ih =>
    rw [List.map_cons, List.map_cons, ih]
    exact congrArg (· :: _) (kzOf_at e1)
theorem ch_le {a b : Nat} (h : (ch a).cps.toList ≤ (ch b).cps.toList) : a ≤ b := by
  have h1 := ch_lt b a
  by_cases h2 : b < a
  · rw [decide_eq_true h2] at h1
    exact absurd h (List.not_le.mpr (of_decide_eq_true h1))
  · omega
theorem tabs_but {T : List (Addr × Str)} {H H' : Hp} {N : Addr} {ws : List V} (e : H N = some (.lst ws)) (k : ∀ b o, b ≠ N → H b = some o → H' b = some o) (h : LamX.Tabs T H) : LamX.Tabs T H' := fun p hp => by
  obtain ⟨ps, h1, h2, h3⟩ := h p hp
  refine ⟨ps, k _ _ (fun z => by rw [z, e] at h1; cases h1) h1, h2, fun pos cv hc => ?_⟩
  obtain ⟨c, e1, e2⟩ := h3 pos cv hc
  exact ⟨c, e1, k _ _ (fun z => by rw [z, e] at e2; unfold LamX.CodeO at e2; cases e2) e2⟩
theorem extN_keepT {H H' : Hp} (k : LamX.ExtN H H') : KeepT H H' := fun b xs e => k b _ e fun ps z => by cases z
def spNextSteps (K : PySem.W.Frag) (T : List (Addr × Str)) : Sp := fun vs H Q _ => ∃ (a : Addr) (us : List V) (ts : List B), vs = [.ref a] ∧ SqL K H a us ∧ TsAt H us ts ∧ (∀ t ∈ ts, t ≠ .nil) ∧ ts.length ≤ 100 ∧ LamX.Tabs T H ∧
  ∀ (p : Addr) (ws : List V) (SS : List (Nat × List B)) (H' : Hp), LamX.ExtN H H' → LamX.Tabs T H' → H' p = some (.lst ws) → SAt p H' ws SS → SS.Perm (stepsL ts) → SS.Pairwise (fun a b => a.1 ≤ b.1) → Q (.ref p) H'
section
variable {P : Program} {w : World} {K : PySem.W.Frag} {mg : Str → Option Value} {base : Heap} {f : Addr} {fd : FuncData}
/-- a def whose code object is known -/
theorem okC {x qual : Str} {st : Stmt} {N ps : List Str} {k : Nat} {sp : Sp} {c : Addr} (F : Fun K x qual st f fd) (hc : fd.code = .ref c) (S : FnScope N ps (defScope st)) (len : ∀ vs H Q E, sp vs H Q E → vs.length = ps.length)
    (hbody : ∀ (A : Around) (outer : List Env) (s : Shared) (H : Hp) (vs : List V) (Q : VK) (E : XK), Room k (A.deeper (envOfC qual (defScope st) s.heap.objs.size f (.ref c))) → sp vs H Q E →
      ∃ t, PSs (cxOf CX0 P w K mg base N qual (defScope st) f (.ref c) A outer s H E).nox (defBody st) t ∧ t { nx := fun _ H' => Q .non H', rt := Q } (start N vs) H) : FnOk P w K mg base CX0 (k + 1) f fd ps sp := by
  obtain ⟨oc, od, kV, doc, pm, an, cdv, ct, osl, rfl, lk, hcd⟩ := F.ex
  obtain rfl : cdv = .ref c := hc
  refine fn_of lk hcd S len fun A outer s H vs Q E hr hsp => ?_
  obtain ⟨t, h, q⟩ := hbody A outer s H vs Q E hr hsp
  exact ⟨t, h.nox, q⟩
theorem ok_nextSteps {T : List (Addr × Str)} {c P' : Addr} (F : Fun K "next_steps" "next_steps" s_next_steps f fd) (hc : fd.code = .ref c) (M : Mgs mg) (TB : LamX.TabB base mg c P') (hmT : (P', ("next_steps.<locals>.<lambda>" : Str)) ∈ T) (hu : ∀ p ∈ T, p.1 = P' → p.2 = ("next_steps.<locals>.<lambda>" : Str)) :
    FnOk P w K mg base CX0 3 f fd ["parts"] (spNextSteps K T) := by
  refine okC F hc sc_next_steps (fun vs H Q E h => ?_) (fun A outer s H vs Q E hr h => ?_)
  · obtain ⟨a, us, ts, rfl, _⟩ := h
    rfl
  obtain ⟨a, us, ts, rfl, ea, ta, nn, tl, hT, q⟩ := h
  have hr := hr
  refine ⟨_, (pss_cons (ps_set (i := 1) sc_next_steps.nd rfl (.inl rfl) (pe_lst pa_nil))
    (pss_cons (ps_for PassesOwn.never rfl (pi_enum rfl M.enumerate (pa_cons (pv 0) pa_nil)) (pg_tup rfl (pgs_cons (pg_name (i := 2) sc_next_steps.nd rfl (.inl rfl)) (pgs_cons (pg_tup rfl (pgs_cons (pg_name (i := 3) sc_next_steps.nd rfl (.inl rfl)) (pgs_cons (pg_name (i := 4) sc_next_steps.nd rfl (.inl rfl)) (pgs_cons (pg_name (i := 5) sc_next_steps.nd rfl (.inl rfl)) pgs_nil)))) pgs_nil)))
      (pss_cons (ps_setLc (i := 7) (own := [("side", 6)]) (g := gName 6) (by rfl) sc_next_steps.nd rfl rfl (sw_true rfl rfl rfl (by decide +kernel)) (pi_tup (pe_tup (pa_cons (pv 3) (pa_cons (pv 5) pa_nil)))) (blkOk_by (N := ["parts", "found", "at", "left", "letter", "right", "side", "sides"]) (sc := defScope s_next_steps) (by decide +kernel)) (fun _ _ _ _ _ => (pg_name (i := 6) sc_next_steps.nd rfl (.inl rfl))) (fun _ _ _ _ _ => pts_one (pt_cmpR op_notN (pv 6) pe_non (nomark _))) (fun _ _ _ _ _ => (pv 6)))
    (pss_one (ps_expr (pe_bm PySem.F.plainAttrs_list PySem.F.slot_list_append PySem.F.type_list_append mt_append (pv 1) (pa_cons (pe_tup (pa_cons (pv 4) (pa_cons (pe_op op_cat (pe_op op_cat (pe_slice sl_list (pv 0) po_none (po_some (pv 2))) (pv 7)) (pe_slice sl_list (pv 0) (po_some (pe_op op_add (pv 2) pe_int)) po_none)) pa_nil))) pa_nil))))))
    (pss_one (ps_ret (pe_sortKey (pv 1) rfl M.sorted hr TB rfl hmT hu rfl (keyLam_item rfl rfl rfl (by decide +kernel) rfl (fun _ _ _ _ _ _ => rfl) (by decide +kernel)) keyG_str))))), ?_⟩
  have len := ta.len
  refine ⟨(by show 0 ≤ sizeLine; decide), fun pf npf => ?_⟩
  have kf := same_new npf (.lst [])
  have ef := upd_same (H := H) (a := pf) (o := .lst [])
  have ea0 := kf.seq ea
  have ta0 := ta.same kf
  have hT0 : LamX.Tabs T (upd H pf (.lst [])) := hT.ext kf
  generalize upd H pf (.lst []) = H0 at kf ef ea0 ta0 hT0 ⊢
  refine ⟨_, rfl, a, us, rfl, ea0, ?_⟩
  have eaK : ∀ H' : Hp, (∀ b o, b ≠ pf → H0 b = some o → H' b = some o) → SqL K H' a us := fun H' k => by
    rcases ea with (e | ⟨o, e⟩) | e
    · exact .inl (.inl (k _ _ (ne_of_none e npf) (kf _ _ e)))
    · exact .inl (.inr ⟨o, k _ _ (ne_of_none e npf) (kf _ _ e)⟩)
    · exact .inr e
  have kT : ∀ H' : Hp, (∀ b o, b ≠ pf → H0 b = some o → H' b = some o) → KeepT H0 H' := fun H' k b xs e => k b _ (fun z => by rw [z, ef] at e; cases e) e
  refine for_it (walk_enum (K := K) (a := a) (xs := us)) (fun i σ H' => ∃ (o2 o3 o4 o5 o6 o7 : Option V) (ws : List V), σ = [some (.ref a), some (.ref pf), o2, o3, o4, o5, o6, o7] ∧ (∀ b o, b ≠ pf → H0 b = some o → H' b = some o) ∧ H' pf = some (.lst ws) ∧ SAt pf H' ws ((List.range i).map (stepAt ts)))
    ⟨none, none, none, none, none, none, [], rfl, (fun b o _ e => e), ef, .nil⟩ (fun i σ H' _ hp => ?_) (fun i x σ H1 H1' hi hp hy => ?_) (fun σ H1 hp => ?_)
  · obtain ⟨_, _, _, _, _, _, _, _, k, _⟩ := hp
    exact eaK _ k
  · obtain ⟨o2, o3, o4, o5, o6, o7, ws, rfl, k1, e1, sa⟩ := hp
    obtain ⟨t0, x1, x2, rfl, n0, rfl, ex1, ex2⟩ := hy
    cases ex1
    obtain ⟨t, ht, hat⟩ := (ta0.keep (kT _ k1)).get ex2
    have tn := nn t (List.mem_of_getElem? ht)
    rcases hat.inv with ⟨rfl, rfl⟩ | ⟨a', l, r, c, tl', tr', rfl, rfl, e', hl, hr'⟩
    · exact absurd rfl tn
    have j1 := same_new n0 (.tup [.int (i : Int), .ref a'])
    have et := upd_same (H := H1) (a := t0) (o := .tup [.int (i : Int), .ref a'])
    have e1' := j1 _ _ e1
    have k1' : ∀ b o, b ≠ pf → H0 b = some o → upd H1 t0 (.tup [.int (i : Int), .ref a']) b = some o := fun b o hb e => j1 _ _ (k1 b o hb e)
    have sa' := sa.keep (Tw.Same.keepT j1) fun b o _ e _ => j1 _ _ e
    have e2 := j1 _ _ e'
    have hl' := hl.same j1
    have hr2 := hr'.same j1
    generalize upd H1 t0 (.tup [.int (i : Int), .ref a']) = H2 at et e1' k1' sa' e2 hl' hr2 ⊢
    refine ⟨t0, _, rfl, SqT.of et, rfl, _, _, rfl, _, _, rfl, a', _, rfl, SqT.of e2, rfl, _, _, rfl, _, _, rfl, _, _, rfl, rfl, rfl, ?_⟩
    refine ⟨_, rfl, _, rfl, (by show 2 ≤ sizeLine; decide), fun tp ntp => ⟨tp, rfl, ⟨_, SqT.of upd_same⟩, fun D nD => ?_⟩⟩
    have j2 := same_new ntp (.tup [l, r])
    have etp := upd_same (H := H2) (a := tp) (o := .tup [l, r])
    have e1b := j2 _ _ e1'
    generalize upd H2 tp (.tup [l, r]) = H3 at j2 etp e1b nD ⊢
    have j3 := same_new nD (.lst [])
    refine lc_it (walk_tup (K := K) (a := tp) (xs := [l, r])) (fun i H' => Same H3 H' ∧ H' D = some (.lst (([l, r].take i).filter fun v => !decide (v = .non)))) ⟨j3, upd_same⟩ (fun i H' _ hp => SqT.of (hp.1 _ _ etp)) (fun j x H4 H4' hj hp hy => ?_) (fun H4 hp => ?_)
    · obtain ⟨s4, e4⟩ := hp
      obtain ⟨rfl, hx⟩ := hy
      rw [take_nextG hx, List.filter_append]
      refine ⟨rfl, ⟨_, rfl, rfl, _, rfl, ?_⟩⟩
      by_cases hn : x = .non
      · subst hn
        refine iteF ⟨s4, ?_⟩
        rw [e4]
        exact congrArg (fun z => some (HO.lst z)) (List.append_nil _).symm
      · rw [decide_eq_false hn]
        refine iteT ⟨_, rfl, _, e4, ?_, fun b o e => ?_, ?_⟩
        · exact small1000 (Nat.le_trans (List.length_filter_le _ _) (by rw [List.length_take]; show min j 2 ≤ 1000; omega))
        · rw [upd_ne (ne_of_none e nD)]; exact s4 _ _ e
        · rw [upd_same]
          have e : [x].filter (fun v => !decide (v = V.non)) = [x] := by
            rw [List.filter_cons, decide_eq_false hn]
            rfl
          rw [e]
    · obtain ⟨s4, e4⟩ := hp
      have s24 := j2.trans s4
      have e4' : H4 D = some (.lst (kidsV l r)) := e4
      have e14 := s24 _ _ e1'
      have k14 : ∀ b o, b ≠ pf → H0 b = some o → H4 b = some o := fun b o hb e => s24 _ _ (k1' b o hb e)
      have ea4 := eaK _ k14
      have ta4 := ta0.keep (kT _ k14)
      have kd4 := kids_at (hl'.same s24) (hr2.same s24)
      have kl2 : (kidsV l r).length ≤ 2 := List.length_filter_le _ _
      refine ⟨_, rfl, .inl ⟨rfl, _, SqL.of e14⟩, _, rfl, _, rfl, _, rfl, _, rfl, a, us, rfl, ea4, fun p5 n5 => ?_⟩
      rw [cut_to]
      have j5 := same_new n5 (.lst (us.take i))
      have e5 := upd_same (H := H4) (a := p5) (o := .lst (us.take i))
      have e4b := j5 _ _ e4'
      generalize upd H4 p5 (.lst (us.take i)) = H5 at j5 e5 e4b ⊢
      refine ⟨_, rfl, p5, D, _, _, rfl, rfl, e5, e4b, small (by rw [List.length_take]; omega), fun p6 n6 => ?_⟩
      have j6 := same_new n6 (.lst (us.take i ++ kidsV l r))
      have e6 := upd_same (H := H5) (a := p6) (o := .lst (us.take i ++ kidsV l r))
      generalize upd H5 p6 (.lst (us.take i ++ kidsV l r)) = H6 at j6 e6 ⊢
      have s46 := j5.trans j6
      refine ⟨_, rfl, _, rfl, _, _, rfl, rfl, _, rfl, a, us, rfl, s46.seq ea4, fun p7 n7 => ?_⟩
      rw [show ((i : Int) + 1) = ((i + 1 : Nat) : Int) from rfl, cut_from]
      have j7 := same_new n7 (.lst (us.drop (i + 1)))
      have e7 := upd_same (H := H6) (a := p7) (o := .lst (us.drop (i + 1)))
      have e6b := j7 _ _ e6
      generalize upd H6 p7 (.lst (us.drop (i + 1))) = H7 at j7 e7 e6b ⊢
      refine ⟨p6, p7, _, _, rfl, rfl, e6b, e7, small (by rw [List.length_append, List.length_take, List.length_drop]; omega), fun p8 n8 => ?_⟩
      have j8 := same_new n8 (.lst (us.take i ++ kidsV l r ++ us.drop (i + 1)))
      have e8 := upd_same (H := H7) (a := p8) (o := .lst (us.take i ++ kidsV l r ++ us.drop (i + 1)))
      generalize upd H7 p8 (.lst (us.take i ++ kidsV l r ++ us.drop (i + 1))) = H8 at j8 e8 ⊢
      have s48 := (s46.trans j7).trans j8
      refine ⟨(by show 2 ≤ sizeLine; decide), fun tq ntq => ?_⟩
      have j9 := same_new ntq (.tup [.str (ch c), .ref p8])
      have e9 := upd_same (H := H8) (a := tq) (o := .tup [.str (ch c), .ref p8])
      generalize upd H8 tq (.tup [.str (ch c), .ref p8]) = H9 at j9 e9 ⊢
      have s49 := s48.trans j9
      have s29 := s24.trans s49
      have k19 : ∀ b o, b ≠ pf → H0 b = some o → H9 b = some o := fun b o hb e => s29 _ _ (k1' b o hb e)
      have wl : ws.length = i := by rw [sa'.len, List.length_map, List.length_range]
      have ef9 := s29 _ _ e1'
      refine ⟨pf, _, _, rfl, rfl, ef9, small1000 (by omega), ?_⟩
      have np8 : p8 ≠ pf := fun z => by
        have := ((s24.trans s46).trans j7) _ _ e1'
        rw [z, this] at n8
        cases n8
      have kTu : KeepT H9 (upd H9 pf (.lst (ws ++ [.ref tq]))) := fun b xs e => by
        rw [upd_ne (fun z => by rw [z, ef9] at e; cases e)]
        exact e
      have tt : TsAt H9 (us.take i ++ kidsV l r ++ us.drop (i + 1)) (ts.take i ++ kids tl' tr' ++ ts.drop (i + 1)) :=
        (((ta4.take i).app kd4).app (ta4.drop (i + 1))).same s49
      have st : stepAt ts i = (c, ts.take i ++ kids tl' tr' ++ ts.drop (i + 1)) := by
        unfold stepAt
        rw [ht]
      refine ⟨_, _, _, _, _, _, ws ++ [.ref tq], rfl, fun b o hb e => ?_, upd_same, ?_⟩
      · rw [upd_ne hb]; exact k19 b o hb e
      · rw [List.range_succ, List.map_append, List.map_cons, List.map_nil, st]
        refine SAt.snoc ((sa'.keep (Tw.Same.keepT s29) fun b o _ e _ => s29 _ _ e).keep kTu fun b o hb e _ => by rw [upd_ne hb]; exact e) (kTu _ _ e9) np8 (by rw [upd_ne np8]; exact j9 _ _ e8) (tt.keep kTu)
  · obtain ⟨o2, o3, o4, o5, o6, o7, ws, rfl, k1, e1, sa⟩ := hp
    rw [len] at sa
    have hT1 := tabs_but ef k1 hT0
    have wl : ws.length = ts.length := by rw [sa.len, List.length_map, List.length_range]
    refine ⟨_, rfl, pf, ws, fun x => .str (kzOf H1 x), rfl, SqL.of e1, hT1, fun x hx => ?_, fun p H2 eN T2 np => ?_⟩
    · obtain ⟨j, hj⟩ := List.getElem?_of_mem hx
      obtain ⟨b, b2, d, _, _, rfl, _, g1, _, _⟩ := sa.get hj
      exact ⟨b, ch d, _, rfl, g1, congrArg PyData.str (kzOf_at g1), (by show 1 ≤ 1000000; decide)⟩
    · have pm := List.mergeSort_perm ws (PySem.W.dataLe false fun x => PyData.str (kzOf H1 x))
      have so := List.pairwise_mergeSort (le := PySem.W.dataLe false fun x => PyData.str (kzOf H1 x)) (by
        intro a b c h1 h2
        rw [PySem.W.dataLe_str] at h1 h2 ⊢
        exact decide_eq_true (List.le_trans (of_decide_eq_true h1) (of_decide_eq_true h2))) (by
        intro a b
        rw [PySem.W.dataLe_str]
        show (decide ((kzOf H1 a).cps.toList ≤ (kzOf H1 b).cps.toList) || decide ((kzOf H1 b).cps.toList ≤ (kzOf H1 a).cps.toList)) = true
        rcases List.le_total (kzOf H1 a).cps.toList (kzOf H1 b).cps.toList with h | h
        · rw [decide_eq_true h]; rfl
        · rw [decide_eq_true h, Bool.or_true]) ws
      generalize ws.mergeSort (PySem.W.dataLe false fun x => PyData.str (kzOf H1 x)) = ys at pm so ⊢
      obtain ⟨SS, sa1, pS⟩ := sa.perm pm
      have kz := sa1.kz
      have sa2 : SAt p H2 ys SS := (sa1.keep (extN_keepT eN) fun b o _ e n => eN b o e n).re np
      have j3 := same_new np (.lst ys)
      refine q p ys SS _ ?_ (T2.ext j3) upd_same (sa2.keep (Tw.Same.keepT j3) fun b o _ e _ => j3 _ _ e) pS ?_
      · intro b o e n
        have nb : b ≠ pf := ne_of_none e npf
        exact j3 _ _ (eN _ _ (k1 _ _ nb (kf _ _ e)) n)
      · have so2 : (ys.map (kzOf H1)).Pairwise fun a b => a.cps.toList ≤ b.cps.toList := by
          rw [List.pairwise_map]
          refine so.imp fun {a b} h => ?_
          rw [PySem.W.dataLe_str] at h
          exact of_decide_eq_true h
        rw [kz, List.pairwise_map] at so2
        exact so2.imp fun {a b} h => ch_le h
end
/-! ### steps and orders: mathematics -/
def prel (ts : List B) : List Nat := ts.flatMap B.pre
structure FG (ts : List B) : Prop where
  nn : ∀ t ∈ ts, t ≠ .nil
  nd : (prel ts).Nodup
theorem prel_app (a b : List B) : prel (a ++ b) = prel a ++ prel b := List.flatMap_append ..
theorem prel_cons (t : B) (b : List B) : prel (t :: b) = t.pre ++ prel b := List.flatMap_cons ..
theorem hooksL_app (a b : List B) : hooksL (a ++ b) = hooksL a ++ hooksL b := List.flatMap_append ..
theorem hooksL_cons (t : B) (b : List B) : hooksL (t :: b) = t.hooks ++ hooksL b := List.flatMap_cons ..
theorem kids_pre (l r : B) : prel (kids l r) = l.pre ++ r.pre := by
  cases l <;> cases r <;> simp [kids, prel, B.pre]
theorem kids_hooks (l r : B) : hooksL (kids l r) = l.hooks ++ r.hooks := by
  cases l <;> cases r <;> simp [kids, hooksL, B.hooks]
theorem kids_nn (l r : B) : ∀ t ∈ kids l r, t ≠ .nil := fun t ht => of_decide_eq_true (List.mem_filter.mp ht).2
theorem step_mem {ts : List B} (nn : ∀ t ∈ ts, t ≠ .nil) (c : Nat) (rest : List B) : (c, rest) ∈ stepsL ts ↔ ∃ pre l r post, ts = pre ++ .node l c r :: post ∧ rest = pre ++ kids l r ++ post := by
  unfold stepsL
  rw [List.mem_map]
  constructor
  · rintro ⟨i, hi, e⟩
    have hl := List.mem_range.mp hi
    have ht := List.getElem?_eq_getElem hl
    have hd : ts.drop i = ts[i] :: ts.drop (i + 1) := List.drop_eq_getElem_cons hl
    cases h : ts[i] with
    | nil => exact absurd h (nn _ (List.getElem_mem hl))
    | node l x r =>
      unfold stepAt at e
      rw [ht, h] at e
      cases e
      refine ⟨ts.take i, l, r, ts.drop (i + 1), ?_, rfl⟩
      rw [← h, ← hd, List.take_append_drop]
  · rintro ⟨pre, l, r, post, rfl, rfl⟩
    refine ⟨pre.length, List.mem_range.mpr (by rw [List.length_append, List.length_cons]; omega), ?_⟩
    unfold stepAt
    rw [List.getElem?_append_right (Nat.le_refl _), Nat.sub_self]
    have e : pre ++ B.node l c r :: post = (pre ++ [.node l c r]) ++ post := by rw [List.append_assoc]; rfl
    have e1 : (pre ++ B.node l c r :: post).take pre.length = pre := List.take_left' rfl
    have e2 : (pre ++ B.node l c r :: post).drop (pre.length + 1) = post := by rw [e]; exact List.drop_left' (by simp)
    show (c, (pre ++ B.node l c r :: post).take pre.length ++ kids l r ++ (pre ++ B.node l c r :: post).drop (pre.length + 1)) = _
    rw [e1, e2]
theorem FG.step {ts : List B} (g : FG ts) {c : Nat} {rest : List B} (h : (c, rest) ∈ stepsL ts) : FG rest ∧ c ∈ prel ts ∧ c ∉ prel rest := by
  obtain ⟨pre, l, r, post, rfl, rfl⟩ := (step_mem g.nn c rest).mp h
  have e : prel (pre ++ .node l c r :: post) = prel pre ++ (c :: ((l.pre ++ r.pre) ++ prel post)) := by rw [prel_app, prel_cons]; rfl
  have e2 : prel (pre ++ kids l r ++ post) = prel pre ++ ((l.pre ++ r.pre) ++ prel post) := by rw [prel_app, prel_app, kids_pre, List.append_assoc]
  have nd := g.nd
  rw [e] at nd
  have p : (prel pre ++ c :: ((l.pre ++ r.pre) ++ prel post)).Perm (c :: (prel pre ++ ((l.pre ++ r.pre) ++ prel post))) := List.perm_middle
  rw [p.nodup_iff, List.nodup_cons] at nd
  refine ⟨⟨fun t ht => ?_, by rw [e2]; exact nd.2⟩, by rw [e, p.mem_iff]; exact List.mem_cons_self, by rw [e2]; exact nd.1⟩
  rcases List.mem_append.mp ht with ht | ht
  · rcases List.mem_append.mp ht with ht | ht
    · exact g.nn t (List.mem_append_left _ ht)
    · exact kids_nn l r t ht
  · exact g.nn t (List.mem_append_right _ (List.mem_cons_of_mem _ ht))
theorem step_hooks {ts : List B} (g : FG ts) {c : Nat} {rest : List B} (h : (c, rest) ∈ stepsL ts) : (hooksL rest).length + 1 = (hooksL ts).length := by
  obtain ⟨pre, l, r, post, rfl, rfl⟩ := (step_mem g.nn c rest).mp h
  rw [hooksL_app, hooksL_app, kids_hooks, hooksL_app, hooksL_cons]
  show _ = (hooksL pre ++ (((l.size + r.size + 1) :: (l.hooks ++ r.hooks)) ++ hooksL post)).length
  simp only [List.length_append, List.length_cons]
  omega
theorem step_ne {ts : List B} (g : FG ts) : ∀ i j : Nat, i < j → j < ts.length → (stepAt ts i).1 ≠ (stepAt ts j).1 := fun i j hij hj e => by
  have hi : i < ts.length := by omega
  have split : ts = ts.take j ++ ts[j] :: ts.drop (j + 1) := by rw [← List.drop_eq_getElem_cons hj, List.take_append_drop]
  have nd := g.nd
  rw [split, prel_app, List.nodup_append] at nd
  have root : ∀ k (hk : k < ts.length), (stepAt ts k).1 ∈ ts[k].pre := fun k hk => by
    unfold stepAt
    rw [List.getElem?_eq_getElem hk]
    cases h : ts[k] with
    | nil => exact absurd h (g.nn _ (List.getElem_mem hk))
    | node l x r => exact List.mem_cons_self
  refine nd.2.2 (stepAt ts i).1 ?_ (stepAt ts j).1 ?_ e
  · refine List.mem_flatMap.mpr ⟨ts[i], List.mem_take_iff_getElem.mpr ⟨i, by omega, rfl⟩, root i hi⟩
  · rw [prel_cons]
    exact List.mem_append_left _ (root j hj)
theorem steps_nodup {ts : List B} (g : FG ts) : ((stepsL ts).map fun s => s.1).Nodup := by
  unfold stepsL
  rw [List.map_map]
  refine List.Pairwise.map _ (fun a b h => h) ?_
  refine List.Pairwise.imp_of_mem (fun {a b} ha hb (h : a < b) => ?_) (List.pairwise_lt_range (n := ts.length))
  exact step_ne g a b h (List.mem_range.mp hb)
/-- the letters of the roots are told apart -/
theorem step_inj {ts : List B} (g : FG ts) {c : Nat} {r1 r2 : List B} (h1 : (c, r1) ∈ stepsL ts) (h2 : (c, r2) ∈ stepsL ts) : r1 = r2 := by
  unfold stepsL at h1 h2
  obtain ⟨i, hi, e1⟩ := List.mem_map.mp h1
  obtain ⟨j, hj, e2⟩ := List.mem_map.mp h2
  have hi' := List.mem_range.mp hi
  have hj' := List.mem_range.mp hj
  have : i = j := by
    rcases Nat.lt_trichotomy i j with h | h | h
    · exact absurd (by rw [e1, e2]) (step_ne g i j h hj')
    · exact h
    · exact absurd (by rw [e1, e2]) (step_ne g j i h hi')
  subst this
  rw [e1] at e2
  exact (Prod.mk.inj e2).2
def togR : List B → Nat
  | [] => 1
  | t :: ts => cho (t.size + (hooksL ts).length) t.size * (t.num * togR ts)
theorem togR_hooks : ∀ ts : List B, togR ts * prodN (hooksL ts) = facN (hooksL ts).length
  | [] => rfl
  | t :: ts => by
    have ih := togR_hooks ts
    have h1 := t.num_hooks
    have h2 := cho_fac _ t.size (hooksL ts).length rfl
    rw [hooksL_cons, prodN_app, List.length_append, B.hooks_len]
    show cho (t.size + (hooksL ts).length) t.size * (t.num * togR ts) * (prodN t.hooks * prodN (hooksL ts)) = _
    rw [← h2, ← h1, ← ih]
    simp only [Nat.mul_assoc, Nat.mul_left_comm]
theorem prodL_pos (ts : List B) : 0 < prodN (hooksL ts) := prodN_pos _ (hooksL_pos ts)
theorem together_eq (ts : List B) : together ts = togR ts := by
  unfold together
  rw [foldl_div, ← togR_hooks]
  exact Nat.mul_div_cancel _ (prodL_pos ts)
theorem togR_pos (ts : List B) : 0 < togR ts := by
  rcases Nat.eq_zero_or_pos (togR ts) with h | h
  · have := togR_hooks ts
    rw [h, Nat.zero_mul] at this
    have := facN_pos (hooksL ts).length
    omega
  · exact h
theorem stepAt_tog {ts : List B} (nn : ∀ t ∈ ts, t ≠ .nil) {i : Nat} (hi : i < ts.length) : togR (stepAt ts i).2 * prodN (hooksL ts) = facN ((hooksL ts).length - 1) * (ts[i]).size := by
  have split : ts = ts.take i ++ ts[i] :: ts.drop (i + 1) := by rw [← List.drop_eq_getElem_cons hi, List.take_append_drop]
  have hm : ts[i] ∈ ts := List.getElem_mem hi
  have hat := List.getElem?_eq_getElem hi
  generalize ts[i] = t at split hm hat ⊢
  cases t with
  | nil => exact absurd rfl (nn _ hm)
  | node l x r =>
    have e : (stepAt ts i).2 = ts.take i ++ kids l r ++ ts.drop (i + 1) := by unfold stepAt; rw [hat]
    rw [e]
    have h := togR_hooks (ts.take i ++ kids l r ++ ts.drop (i + 1))
    have hh : hooksL (ts.take i ++ kids l r ++ ts.drop (i + 1)) = hooksL (ts.take i) ++ (l.hooks ++ r.hooks) ++ hooksL (ts.drop (i + 1)) := by rw [hooksL_app, hooksL_app, kids_hooks]
    have ht : hooksL ts = hooksL (ts.take i) ++ ((l.size + r.size + 1) :: (l.hooks ++ r.hooks) ++ hooksL (ts.drop (i + 1))) := by
      conv => lhs; rw [split]
      rw [hooksL_app, hooksL_cons]
      rfl
    have hl : (hooksL ts).length - 1 = (hooksL (ts.take i ++ kids l r ++ ts.drop (i + 1))).length := by
      rw [hh, ht]
      simp only [List.length_append, List.length_cons]
      omega
    rw [hl, ← h, hh, ht]
    simp only [prodN_app, prodN, List.cons_append]
    show _ = _ * (l.size + 1 + r.size)
    rw [show l.size + 1 + r.size = l.size + r.size + 1 by omega]
    simp only [Nat.mul_assoc, Nat.mul_left_comm, Nat.mul_comm]
theorem sum_map_mul {f g : Nat → Nat} {k m : Nat} : ∀ n : Nat, (∀ i, i < n → f i * k = m * g i) → ((List.range n).map f).sum * k = m * ((List.range n).map g).sum
  | 0, _ => by simp
  | n + 1, h => by
    have ih := sum_map_mul n fun i hi => h i (by omega)
    rw [List.range_succ, List.map_append, List.map_append, List.sum_append, List.sum_append, Nat.add_mul, Nat.mul_add, ih]
    simp only [List.map_cons, List.map_nil, List.sum_cons, List.sum_nil, Nat.add_zero]
    rw [h n (by omega)]
theorem sum_sizes (ts : List B) : ((List.range ts.length).map fun i => (ts.getD i .nil).size).sum = (hooksL ts).length := by
  have e : ((List.range ts.length).map fun i => (ts.getD i .nil).size) = ts.map B.size := by
    apply List.ext_getElem?
    intro i
    rw [List.getElem?_map, List.getElem?_map]
    by_cases hi : i < ts.length
    · rw [List.getElem?_range hi, List.getElem?_eq_getElem hi]
      simp [List.getD_eq_getElem?_getD, hi]
    · rw [List.getElem?_eq_none (by simpa using hi), List.getElem?_eq_none (by simpa using hi)]
      rfl
  rw [e]
  clear e
  induction ts with
  | nil => rfl
  | cons t ts ih => rw [List.map_cons, List.sum_cons, ih, hooksL_cons, List.length_append, B.hooks_len]
theorem hooksL_ne {ts : List B} (nn : ∀ t ∈ ts, t ≠ .nil) (h : ts ≠ []) : 0 < (hooksL ts).length := by
  cases ts with
  | nil => exact absurd rfl h
  | cons t ts =>
    rw [hooksL_cons, List.length_append, B.hooks_len]
    have := nn t List.mem_cons_self
    cases t with
    | nil => exact absurd rfl this
    | node l x r => show 0 < l.size + 1 + r.size + _; omega
theorem tog_sum {ts : List B} (nn : ∀ t ∈ ts, t ≠ .nil) (h : ts ≠ []) : ((stepsL ts).map fun s => togR s.2).sum = togR ts := by
  have e := sum_map_mul (f := fun i => togR (stepAt ts i).2) (g := fun i => (ts.getD i .nil).size) (k := prodN (hooksL ts)) (m := facN ((hooksL ts).length - 1)) ts.length fun i hi => by
    have := stepAt_tog nn hi
    simp only [List.getD_eq_getElem?_getD, List.getElem?_eq_getElem hi, Option.getD_some]
    exact this
  rw [sum_sizes] at e
  have pos := hooksL_ne nn h
  have hf : facN ((hooksL ts).length - 1) * (hooksL ts).length = facN (hooksL ts).length := by
    obtain ⟨n, hn⟩ : ∃ n, (hooksL ts).length = n + 1 := ⟨(hooksL ts).length - 1, by omega⟩
    rw [hn]
    rfl
  rw [hf, ← togR_hooks] at e
  unfold stepsL
  rw [List.map_map]
  exact Nat.eq_of_mul_eq_mul_right (prodL_pos ts) e
/-! ### orders of steps, their numbers -/
def below (ts : List B) (c : Nat) : Nat := (((stepsL ts).filter fun s => decide (s.1 < c)).map fun s => togR s.2).sum
inductive Valid : List B → List Nat → Prop
  | nil : Valid [] []
  | cons {ts : List B} {c : Nat} {rest : List B} {w : List Nat} : (c, rest) ∈ stepsL ts → Valid rest w → Valid ts (c :: w)
inductive Idx : List B → List Nat → Nat → Prop
  | nil : Idx [] [] 0
  | cons {ts : List B} {c : Nat} {rest : List B} {w : List Nat} {k : Nat} : (c, rest) ∈ stepsL ts → Idx rest w k → Idx ts (c :: w) (below ts c + k)
inductive Num : List B → Nat → List Nat → Prop
  | nil {i : Nat} : Num [] i []
  | cons {ts : List B} {c : Nat} {rest : List B} {w : List Nat} {i : Nat} : (c, rest) ∈ stepsL ts → below ts c ≤ i → i - below ts c < togR rest → Num rest (i - below ts c) w → Num ts i (c :: w)
theorem filter_sum_le {S : List (Nat × List B)} {g : Nat × List B → Nat} {p q : Nat × List B → Bool} (h : ∀ s ∈ S, p s = true → q s = true) : ((S.filter p).map g).sum ≤ ((S.filter q).map g).sum := by
  induction S with
  | nil => exact Nat.le_refl _
  | cons s S ih =>
    have ih' := ih fun t ht => h t (List.mem_cons_of_mem _ ht)
    have hs := h s List.mem_cons_self
    rw [List.filter_cons, List.filter_cons]
    by_cases hp : p s = true
    · rw [if_pos hp, if_pos (hs hp), List.map_cons, List.map_cons, List.sum_cons, List.sum_cons]
      omega
    · rw [if_neg hp]
      split
      · rw [List.map_cons, List.sum_cons]; omega
      · exact ih'
theorem filter_sum_add {S : List (Nat × List B)} {g : Nat × List B → Nat} {p q : Nat × List B → Bool} {s : Nat × List B} (hs : s ∈ S) (hp : p s = false) (hq : q s = true) (h : ∀ s ∈ S, p s = true → q s = true) : ((S.filter p).map g).sum + g s ≤ ((S.filter q).map g).sum := by
  induction S with
  | nil => cases hs
  | cons t S ih =>
    have hle := filter_sum_le (g := g) fun u hu => h u (List.mem_cons_of_mem t hu)
    rw [List.filter_cons, List.filter_cons]
    rcases List.mem_cons.mp hs with rfl | hs
    · rw [if_neg (by rw [hp]; simp), if_pos hq, List.map_cons, List.sum_cons]
      omega
    · have ih' := ih hs fun u hu => h u (List.mem_cons_of_mem _ hu)
      by_cases ht : p t = true
      · rw [if_pos ht, if_pos (h t List.mem_cons_self ht), List.map_cons, List.map_cons, List.sum_cons, List.sum_cons]
        omega
      · rw [if_neg ht]
        split
        · rw [List.map_cons, List.sum_cons]; omega
        · exact ih'
theorem below_lt {ts : List B} {c d : Nat} {rest : List B} (h : (c, rest) ∈ stepsL ts) (hd : c < d) : below ts c + togR rest ≤ below ts d :=
  filter_sum_add (g := fun s => togR s.2) h (decide_eq_false (Nat.lt_irrefl c)) (decide_eq_true hd) fun s _ e => decide_eq_true (Nat.lt_trans (of_decide_eq_true e) hd)
theorem below_all {ts : List B} (nn : ∀ t ∈ ts, t ≠ .nil) {c : Nat} {rest : List B} (h : (c, rest) ∈ stepsL ts) : below ts c + togR rest ≤ togR ts := by
  have hne : ts ≠ [] := fun z => by rw [z] at h; cases h
  rw [← tog_sum nn hne]
  have := filter_sum_add (g := fun s => togR s.2) (p := fun s => decide (s.1 < c)) (q := fun _ => true) h (decide_eq_false (Nat.lt_irrefl c)) rfl fun s _ _ => rfl
  rw [List.filter_eq_self.mpr fun _ _ => rfl] at this
  exact this
theorem idx_lt {ts : List B} {w : List Nat} {k : Nat} (h : Idx ts w k) : FG ts → k < togR ts := by
  induction h with
  | nil => intro _; exact Nat.one_pos
  | cons hs _ ih =>
    intro g
    have := ih (g.step hs).1
    have := below_all g.nn hs
    omega
theorem idx_num {ts : List B} {w : List Nat} {k : Nat} (h : Idx ts w k) : ∀ {w' : List Nat}, FG ts → Num ts k w' → w' = w := by
  induction h with
  | nil =>
    intro w' _ hn
    cases hn with
    | nil => rfl
    | cons hs _ _ _ => cases hs
  | @cons ts c rest w k hs hi ih =>
    intro w' g hn
    cases hn with
    | nil => cases hs
    | @cons _ c' rest' w' _ hs' h1 h2 h3 =>
      have lt := idx_lt hi (g.step hs).1
      have e : c' = c := by
        rcases Nat.lt_trichotomy c' c with z | z | z
        · have := below_lt hs' z
          omega
        · exact z
        · have := below_lt hs z
          omega
      subst e
      have er := step_inj g hs hs'
      subst er
      rw [Nat.add_sub_cancel_left] at h3
      rw [ih (g.step hs).1 h3]
theorem num_idx {ts : List B} {i : Nat} {w : List Nat} (h : Num ts i w) : FG ts → i < togR ts → Idx ts w i := by
  induction h with
  | @nil i =>
    intro _ hi
    have : i = 0 := by
      have : i < 1 := hi
      omega
    subst this
    exact .nil
  | @cons ts c rest w i hs h1 h2 h3 ih =>
    intro g _
    have := Idx.cons hs (ih (g.step hs).1 h2)
    rw [Nat.add_sub_cancel' h1] at this
    exact this
theorem Idx.valid {ts : List B} {w : List Nat} {k : Nat} (h : Idx ts w k) : Valid ts w := by
  induction h with
  | nil => exact .nil
  | cons hs _ ih => exact .cons hs ih
theorem Num.valid {ts : List B} {i : Nat} {w : List Nat} (h : Num ts i w) : Valid ts w := by
  induction h with
  | nil => exact .nil
  | cons hs _ _ _ ih => exact .cons hs ih
theorem Valid.idx {ts : List B} {w : List Nat} (h : Valid ts w) : ∃ k, Idx ts w k := by
  induction h with
  | nil => exact ⟨0, .nil⟩
  | cons hs _ ih =>
    obtain ⟨k, hk⟩ := ih
    exact ⟨_, .cons hs hk⟩
theorem Valid.len {ts : List B} {w : List Nat} (h : Valid ts w) : FG ts → w.length = (hooksL ts).length := by
  induction h with
  | nil => intro _; rfl
  | cons hs _ ih =>
    intro g
    rw [List.length_cons, ih (g.step hs).1, step_hooks g hs]
theorem Valid.mem {ts : List B} {w : List Nat} (h : Valid ts w) : FG ts → w.Perm (prel ts) := by
  induction h with
  | nil => intro _; exact .refl _
  | @cons ts c rest w hs _ ih =>
    intro g
    obtain ⟨pre, l, r, post, e1, e2⟩ := (step_mem g.nn c rest).mp hs
    have p := ih (g.step hs).1
    rw [e2, prel_app, prel_app, kids_pre] at p
    rw [e1, prel_app, prel_cons]
    refine (p.cons c).trans ?_
    show (c :: (prel pre ++ (l.pre ++ r.pre) ++ prel post)).Perm (prel pre ++ (c :: (l.pre ++ r.pre) ++ prel post))
    rw [List.append_assoc]
    exact List.perm_middle.symm
/-- steps among more trees -/
theorem step_left {ls : List B} (nn : ∀ t ∈ ls, t ≠ .nil) {rs : List B} (nr : ∀ t ∈ rs, t ≠ .nil) {c : Nat} {rest : List B} (h : (c, rest) ∈ stepsL ls) : (c, rest ++ rs) ∈ stepsL (ls ++ rs) := by
  obtain ⟨pre, l, r, post, rfl, rfl⟩ := (step_mem nn c rest).mp h
  refine (step_mem (fun t ht => (List.mem_append.mp ht).elim (nn t) (nr t)) c _).mpr ⟨pre, l, r, post ++ rs, by rw [List.append_assoc]; rfl, by rw [List.append_assoc]⟩
theorem step_right {ls : List B} (nn : ∀ t ∈ ls, t ≠ .nil) {rs : List B} (nr : ∀ t ∈ rs, t ≠ .nil) {c : Nat} {rest : List B} (h : (c, rest) ∈ stepsL rs) : (c, ls ++ rest) ∈ stepsL (ls ++ rs) := by
  obtain ⟨pre, l, r, post, rfl, rfl⟩ := (step_mem nr c rest).mp h
  exact (step_mem (fun t ht => (List.mem_append.mp ht).elim (nn t) (nr t)) c _).mpr ⟨ls ++ pre, l, r, post, by rw [List.append_assoc], by rw [List.append_assoc, List.append_assoc, List.append_assoc]⟩
inductive Mrg : List Nat → List Nat → List Nat → Prop
  | nil : Mrg [] [] []
  | left {u v w : List Nat} (c : Nat) : Mrg u v w → Mrg (c :: u) v (c :: w)
  | right {u v w : List Nat} (c : Nat) : Mrg u v w → Mrg u (c :: v) (c :: w)
theorem mrg_valid {u v w : List Nat} (m : Mrg u v w) : ∀ {ls rs : List B}, FG ls → FG rs → Valid ls u → Valid rs v → Valid (ls ++ rs) w := by
  induction m with
  | nil =>
    intro ls rs _ _ h1 h2
    cases h1
    cases h2
    exact .nil
  | left c _ ih =>
    intro ls rs g1 g2 h1 h2
    cases h1 with
    | cons hs h1 => exact .cons (step_left g1.nn g2.nn hs) (ih (g1.step hs).1 g2 h1 h2)
  | right c _ ih =>
    intro ls rs g1 g2 h1 h2
    cases h2 with
    | cons hs h2 => exact .cons (step_right g1.nn g2.nn hs) (ih g1 (g2.step hs).1 h1 h2)
/-- the sum of the counts before the j-th of the sorted steps -/
theorem below_take {ts : List B} (g : FG ts) {SS : List (Nat × List B)} (p : SS.Perm (stepsL ts)) (so : SS.Pairwise fun a b => a.1 ≤ b.1) {j : Nat} {c : Nat} {rest : List B} (h : SS[j]? = some (c, rest)) : below ts c = ((SS.take j).map fun s => togR s.2).sum := by
  have hj := (List.getElem?_eq_some_iff.mp h).1
  have he := (List.getElem?_eq_some_iff.mp h).2
  have split : SS = SS.take j ++ (c, rest) :: SS.drop (j + 1) := by
    have := List.drop_eq_getElem_cons hj
    rw [he] at this
    rw [← this, List.take_append_drop]
  have nd := (p.map fun s => s.1).nodup_iff.mpr (steps_nodup g)
  have e1 : below ts c = ((SS.filter fun s => decide (s.1 < c)).map fun s => togR s.2).sum := by
    unfold below
    exact (((p.filter _).map _).sum_nat).symm
  rw [e1]
  rw [split] at so nd
  rw [List.pairwise_append] at so
  rw [List.map_append, List.nodup_append] at nd
  have f : SS.filter (fun s => decide (s.1 < c)) = SS.take j := by
    conv => lhs; rw [split]
    rw [List.filter_append, List.filter_eq_self.mpr, List.filter_eq_nil_iff.mpr, List.append_nil]
    · intro s hs
      have : c ≤ s.1 := by
        rcases List.mem_cons.mp hs with rfl | hs
        · exact Nat.le_refl _
        · exact (List.pairwise_cons.mp so.2.1).1 s hs
      simp only [decide_eq_true_eq]
      omega
    · intro s hs
      have h1 := so.2.2 s hs (c, rest) List.mem_cons_self
      have h2 := nd.2.2 s.1 (List.mem_map.mpr ⟨s, hs, rfl⟩) c (List.mem_map.mpr ⟨(c, rest), List.mem_cons_self, rfl⟩)
      have h1 : s.1 ≤ c := h1
      exact decide_eq_true (by omega)
  rw [f]
/-! the tree that an order grows to -/
def B.bst : B → Prop
  | .nil => True
  | .node l x r => (∀ d ∈ l.pre, d < x) ∧ (∀ d ∈ r.pre, ¬ d < x) ∧ l.bst ∧ r.bst
theorem ins_bst (t : B) (c : Nat) (h : t.bst) : (t.ins c).bst := by
  induction t with
  | nil => exact ⟨fun d hd => (by cases hd), fun d hd => (by cases hd), trivial, trivial⟩
  | node l x r h1 h2 =>
    obtain ⟨a, b, hl, hr⟩ := h
    show (if c < x then B.node (l.ins c) x r else .node l x (r.ins c)).bst
    split
    · rename_i hc
      refine ⟨fun d hd => ?_, b, h1 hl, hr⟩
      rcases (B.ins_mem l c d).mp hd with rfl | hd
      · exact hc
      · exact a d hd
    · rename_i hc
      refine ⟨a, fun d hd => ?_, hl, h2 hr⟩
      rcases (B.ins_mem r c d).mp hd with rfl | hd
      · exact hc
      · exact b d hd
theorem gr_bst (zs : List Nat) : (gr zs).bst := by
  have : ∀ (zs : List Nat) (t : B), t.bst → (zs.foldl B.ins t).bst := by
    intro zs
    induction zs with
    | nil => intro t h; exact h
    | cons c r ih => intro t h; exact ih _ (ins_bst t c h)
  exact this zs .nil trivial
theorem foldl_ins_node (w : List Nat) : ∀ (a : B) (x : Nat) (b : B), w.foldl B.ins (.node a x b) = .node ((w.filter fun c => decide (c < x)).foldl B.ins a) x ((w.filter fun c => !decide (c < x)).foldl B.ins b) := by
  induction w with
  | nil => intro a x b; rfl
  | cons c w ih =>
    intro a x b
    rw [List.foldl_cons]
    show w.foldl B.ins (if c < x then .node (a.ins c) x b else .node a x (b.ins c)) = _
    by_cases hc : c < x
    · rw [if_pos hc, ih, List.filter_cons, List.filter_cons, decide_eq_true hc]
      rfl
    · rw [if_neg hc, ih, List.filter_cons, List.filter_cons, decide_eq_false hc]
      rfl
theorem gr_cons (x : Nat) (w : List Nat) : gr (x :: w) = .node (gr (w.filter fun c => decide (c < x))) x (gr (w.filter fun c => !decide (c < x))) := by
  unfold gr
  rw [List.foldl_cons]
  exact foldl_ins_node w .nil x .nil
theorem valid_split {x : Nat} {ts : List B} {w : List Nat} (h : Valid ts w) : ∀ {ls rs : List B}, ts = ls ++ rs → FG ts → (∀ d ∈ prel ls, d < x) → (∀ d ∈ prel rs, ¬ d < x) → Valid ls (w.filter fun c => decide (c < x)) ∧ Valid rs (w.filter fun c => !decide (c < x)) := by
  induction h with
  | nil =>
    intro ls rs e _ _ _
    obtain ⟨rfl, rfl⟩ := List.append_eq_nil_iff.mp e.symm
    exact ⟨.nil, .nil⟩
  | @cons ts c rest w hs _ ih =>
    intro ls rs e g hl hr
    obtain ⟨pre, l, r, post, e1, e2⟩ := (step_mem g.nn c rest).mp hs
    have gr := (g.step hs).1
    have sub1 : ∀ (pre post : List B), ∀ d ∈ prel (pre ++ kids l r ++ post), d ∈ prel (pre ++ .node l c r :: post) := fun pre post d hd => by
      rw [prel_app, prel_app, kids_pre] at hd
      rw [prel_app, prel_cons]
      rcases List.mem_append.mp hd with hd | hd
      · rcases List.mem_append.mp hd with hd | hd
        · exact List.mem_append_left _ hd
        · exact List.mem_append_right _ (List.mem_append_left _ (List.mem_cons_of_mem _ hd))
      · exact List.mem_append_right _ (List.mem_append_right _ hd)
    rw [e] at e1
    rcases List.append_eq_append_iff.mp e1 with ⟨m, q1, q2⟩ | ⟨m, q1, q2⟩
    · -- the root lies in rs
      have er : rest = ls ++ (m ++ kids l r ++ post) := by rw [e2, q1]; simp only [List.append_assoc]
      have nrs : ∀ t ∈ rs, t ≠ B.nil := fun t ht => g.nn t (by rw [e]; exact List.mem_append_right _ ht)
      have hc : c ∈ prel rs := by rw [q2, prel_app, prel_cons]; exact List.mem_append_right _ (List.mem_append_left _ List.mem_cons_self)
      obtain ⟨i1, i2⟩ := ih er gr hl (fun d hd => hr d (by rw [q2]; exact sub1 m post d hd))
      rw [List.filter_cons, List.filter_cons, decide_eq_false (hr c hc)]
      exact ⟨i1, .cons ((step_mem nrs c _).mpr ⟨m, l, r, post, q2, rfl⟩) i2⟩
    · cases m with
      | nil =>
        rw [List.append_nil] at q1
        have q2' : rs = .node l c r :: post := q2.symm
        have er : rest = ls ++ ([] ++ kids l r ++ post) := by rw [e2, q1]; simp only [List.append_assoc, List.nil_append]
        have nrs : ∀ t ∈ rs, t ≠ B.nil := fun t ht => g.nn t (by rw [e]; exact List.mem_append_right _ ht)
        have hc : c ∈ prel rs := by rw [q2', prel_cons]; exact List.mem_append_left _ List.mem_cons_self
        obtain ⟨i1, i2⟩ := ih er gr hl (fun d hd => hr d (by rw [q2']; exact sub1 [] post d hd))
        rw [List.filter_cons, List.filter_cons, decide_eq_false (hr c hc)]
        exact ⟨i1, .cons ((step_mem nrs c _).mpr ⟨[], l, r, post, q2', rfl⟩) i2⟩
      | cons t m =>
        have q3 := (List.cons.inj q2).1
        have q4 : post = m ++ rs := (List.cons.inj q2).2
        subst q3
        have els : ls = pre ++ .node l c r :: m := q1
        have er : rest = (pre ++ kids l r ++ m) ++ rs := by rw [e2, q4]; simp only [List.append_assoc]
        have nls : ∀ t ∈ ls, t ≠ B.nil := fun t ht => g.nn t (by rw [e]; exact List.mem_append_left _ ht)
        have hc : c ∈ prel ls := by rw [els, prel_app, prel_cons]; exact List.mem_append_right _ (List.mem_append_left _ List.mem_cons_self)
        obtain ⟨i1, i2⟩ := ih er gr (fun d hd => hl d (by rw [els]; exact sub1 pre m d hd)) hr
        rw [List.filter_cons, List.filter_cons, decide_eq_true (hl c hc)]
        exact ⟨.cons ((step_mem nls c _).mpr ⟨pre, l, r, m, els, rfl⟩) i1, i2⟩
/-- the forest of a tree -/
def ft (t : B) : List B := [t].filter fun t => decide (t ≠ .nil)
theorem kids_ft (l r : B) : kids l r = ft l ++ ft r := by
  show [l, r].filter _ = [l].filter _ ++ [r].filter _
  rw [← List.filter_append]
  rfl
theorem ft_nil : ft .nil = [] := rfl
theorem ft_node (l : B) (x : Nat) (r : B) : ft (.node l x r) = [.node l x r] := rfl
theorem prel_ft (t : B) : prel (ft t) = t.pre := by cases t <;> simp [ft, prel, B.pre]
theorem hooks_ft (t : B) : hooksL (ft t) = t.hooks := by cases t <;> simp [ft, hooksL, B.hooks]
theorem ft_fg {t : B} (nd : t.pre.Nodup) : FG (ft t) := ⟨fun u hu => of_decide_eq_true (List.mem_filter.mp hu).2, by rw [prel_ft]; exact nd⟩
theorem togR_ft (t : B) : togR (ft t) = t.num := by
  cases t with
  | nil => rfl
  | node l x r => rw [ft_node, ← together_eq, together_one]
theorem steps_one (l : B) (x : Nat) (r : B) : stepsL [.node l x r] = [(x, kids l r)] := by
  show [stepAt [B.node l x r] 0] = _
  show [(x, [] ++ kids l r ++ [])] = _
  rw [List.append_nil]
  rfl
theorem valid_gr : ∀ (t : B), t.bst → t.pre.Nodup → ∀ w, Valid (ft t) w → gr w = t
  | .nil, _, _, w, h => by
    rw [ft_nil] at h
    cases h with
    | nil => rfl
    | cons hs _ => cases hs
  | .node l x r, b, nd, w, h => by
    rw [ft_node] at h
    cases h with
    | @cons _ c rest w hs h =>
      rw [steps_one] at hs
      cases List.mem_singleton.mp hs
      have nd' : (x :: (l.pre ++ r.pre)).Nodup := nd
      obtain ⟨n1, n2⟩ := List.nodup_cons.mp nd'
      obtain ⟨nl, nr, _⟩ := List.nodup_append.mp n2
      have fg : FG (kids l r) := ⟨kids_nn l r, by rw [kids_pre]; exact n2⟩
      obtain ⟨i1, i2⟩ := valid_split (x := x) h (kids_ft l r) fg (fun d hd => b.1 d (by rw [prel_ft] at hd; exact hd)) (fun d hd => b.2.1 d (by rw [prel_ft] at hd; exact hd))
      rw [gr_cons, valid_gr l b.2.2.1 nl _ i1, valid_gr r b.2.2.2 nr _ i2]
/-! ### numbered_order, order_at -/
theorem numL (K : PySem.W.Frag) {ts : List B} (SS : List (Nat × List B)) (p : SS.Perm (stepsL ts)) (nn : ∀ t ∈ ts, t ≠ .nil) (h : ts ≠ []) : (SS.map fun s => togR s.2).sum = togR ts := by
  rw [← tog_sum nn h]
  exact (p.map _).sum_nat
def spNumO (K : PySem.W.Frag) (T : List (Addr × Str)) (N : Nat) : Sp := fun vs H Q _ => ∃ (a : Addr) (us : List V) (ts : List B) (i : Nat), vs = [.ref a, vn i] ∧ SqL K H a us ∧ TsAt H us ts ∧ FG ts ∧ (hooksL ts).length < N ∧ (hooksL ts).length ≤ 15 ∧ i < togR ts ∧ LamX.Tabs T H ∧
  ∀ (w : List Nat) (H' : Hp), LamX.ExtN H H' → LamX.Tabs T H' → Num ts i w → w.length ≤ 15 → Q (.str (tx w)) H'
theorem fg_len {ts : List B} (g : FG ts) : ts.length ≤ (hooksL ts).length := by
  have nn := g.nn
  clear g
  induction ts with
  | nil => exact Nat.le_refl _
  | cons t ts ih =>
    have := ih fun u hu => nn u (List.mem_cons_of_mem _ hu)
    have h1 : 1 ≤ t.size := by
      have := nn t List.mem_cons_self
      cases t with
      | nil => exact absurd rfl this
      | node l x r => show 1 ≤ l.size + 1 + r.size; omega
    rw [hooksL_cons, List.length_append, B.hooks_len, List.length_cons]
    omega
theorem same_extN {H H' : Hp} (s : Same H H') : LamX.ExtN H H' := fun b o e _ => s b o e
section
variable {P : Program} {w : World} {K : PySem.W.Frag} {mg : Str → Option Value} {base : Heap} {f : Addr} {fd : FuncData}
theorem ok_numO {T : List (Addr × Str)} (F : Fun K "numbered_order" "numbered_order" s_numbered_order f fd) (M : Mgs mg) (b : Binds K fd ["parts", "index"] []) (g : mg "numbered_order" = some (.ref f))
    (Dnext_steps : Df P w K mg base 3 "next_steps" ["parts"] (spNextSteps K T)) (Dcount_together : Df P w K mg base 21 "count_together" ["parts"] (spTogether K)) : ∀ N : Nat, FnOk P w K mg base CX0 (N + 21) f fd ["parts", "index"] (spNumO K T N)
  | 0 => by
    have no : ∀ vs H Q E, ¬ spNumO K T 0 vs H Q E := fun vs H Q E h => by
      obtain ⟨a, us, ts, i, _, _, _, _, h1, _⟩ := h
      omega
    exact ⟨fun vs H Q E h => absurd h (no vs H Q E), fun A outer s H args us vs Q E _ _ _ _ h => absurd h (no vs H Q E)⟩
  | N + 1 => by
    have Dself : Df P w K mg base (N + 21) "numbered_order" ["parts", "index"] (spNumO K T N) := ⟨f, fd, ok_numO F M b g Dnext_steps Dcount_together N, b, F.kp, g⟩
    refine F.ok (k := N + 21) sc_numbered_order (fun vs H Q E h => ?_) (fun cdv A outer s H vs Q E hr h => ?_)
    · obtain ⟨a, us, ts, i, rfl, _⟩ := h
      rfl
    obtain ⟨a, us, ts, i, rfl, ea, ta, fg, hn, h15, hi, hT, q⟩ := h
    refine ⟨_, (pss_cons (ps_if (pt_not (pt_truth (pv 0) (by intro _; rfl)))
      (pss_one (ps_ret pe_str)) pss_nil)
    (pss_cons (ps_set (i := 2) sc_numbered_order.nd rfl (.inl rfl) (pv 1))
    (pss_cons (ps_for PassesOwn.never rfl (pi_list (pe_call Dnext_steps.ok (hr.mono (by omega)) rfl Dnext_steps.g Dnext_steps.kp Dnext_steps.b .nil pass0 (pa_cons (pv 0) pa_nil))) (pg_tup rfl (pgs_cons (pg_name (i := 3) sc_numbered_order.nd rfl (.inl rfl)) (pgs_cons (pg_name (i := 4) sc_numbered_order.nd rfl (.inl rfl)) pgs_nil)))
      (pss_cons (ps_set (i := 5) sc_numbered_order.nd rfl (.inl rfl) (pe_call Dcount_together.ok (hr.mono (by omega)) rfl Dcount_together.g Dcount_together.kp Dcount_together.b .nil pass0 (pa_cons (pv 4) pa_nil)))
    (pss_cons (ps_if (pt_cmpR op_lt (pv 2) (pv 5) (nomark _))
      (pss_one ps_break) pss_nil)
    (pss_one (ps_aug (i := 2) sc_numbered_order.nd rfl (.inl rfl) (pv 5) ip_sub)))))
    (pss_one (ps_ret (pe_op op_add_str (pv 3) (pe_call Dself.ok (hr.mono (by omega)) rfl Dself.g Dself.kp Dself.b .nil pass0 (pa_cons (pv 4) (pa_cons (pv 2) pa_nil))))))))), ?_⟩
    have len := ta.len
    refine ⟨_, rfl, _, .inl ⟨us, ea, rfl⟩, ?_⟩
    cases hu : us with
    | nil =>
      rw [hu] at len
      have hts : ts = [] := List.length_eq_zero_iff.mp len.symm
      subst hts
      refine iteT ?_
      show Q (.str (Str.ofString "")) H
      rw [str_0]
      exact q [] H (LamX.ExtN.refl H) hT .nil (Nat.zero_le _)
    | cons u us' =>
      rw [← hu]
      have hne : ts ≠ [] := fun z => by rw [z, hu] at len; cases len
      have flen := fg_len fg
      rw [show (!us.isEmpty) = true by rw [hu]; rfl]
      refine iteF ⟨_, rfl, ?_⟩
      refine ⟨_, rfl, a, us, ts, rfl, ea, ta, fg.nn, by omega, hT, fun p ws SS H1 x1 T1 ep sa pm so => ?_⟩
      refine ⟨p, rfl, ⟨_, SqL.of ep⟩, ?_⟩
      have wl := sa.len
      have tot := numL K SS pm fg.nn hne
      refine for_list (K := K) (a := p) (xs := ws) (fun j σ H' => ∃ o3 o4 o5, σ = [some (.ref a), some (vn i), some (vn (i - ((SS.take j).map fun s => togR s.2).sum)), o3, o4, o5] ∧ Same H1 H' ∧ ((SS.take j).map fun s => togR s.2).sum ≤ i)
        ⟨_, _, _, rfl, Same.refl _, Nat.zero_le _⟩ (fun j σ H' _ hp => by obtain ⟨_, _, _, _, s, _⟩ := hp; exact SqL.of (s _ _ ep)) (fun j x σ H2 hx hp => ?_) (fun σ H2 hp => ?_)
      · obtain ⟨o3, o4, o5, rfl, s2, le⟩ := hp
        obtain ⟨b, qa, c, vs', rest, rfl, hs, e1, e2, tr⟩ := sa.get hx
        have e1' := s2 _ _ e1
        have e2' := s2 _ _ e2
        have tr' := tr.same s2
        have hm : (c, rest) ∈ stepsL ts := pm.mem_iff.mp (List.mem_of_getElem? hs)
        obtain ⟨fr, _, _⟩ := fg.step hm
        have hh := step_hooks fg hm
        refine ⟨b, _, rfl, SqT.of e1', rfl, _, _, rfl, _, _, rfl, rfl, ?_⟩
        refine ⟨_, rfl, qa, vs', rest, rfl, SqL.of e2', tr', by omega, fun H3 s3 => ?_⟩
        rw [together_eq]
        refine ⟨_, rfl, _, rfl, _, _, rfl, rfl, _, rfl, ?_⟩
        have sj := below_take fg pm so hs
        have tk : ((SS.take (j + 1)).map fun s => togR s.2).sum = ((SS.take j).map fun s => togR s.2).sum + togR rest := by
          rw [take_nextG hs, List.map_append, List.sum_append]
          simp only [List.map_cons, List.map_nil, List.sum_cons, List.sum_nil, Nat.add_zero]
        generalize ((SS.take j).map fun s => togR s.2).sum = S at le sj tk ⊢
        by_cases hlt : i - S < togR rest
        · rw [decide_eq_true (show ((i - S : Nat) : Int) < (togR rest : Int) by omega)]
          have xx := x1.trans (same_extN (s2.trans s3))
          refine iteT ?_
          refine ⟨_, rfl, _, rfl, _, rfl, qa, vs', rest, i - S, rfl, SqL.of (s3 _ _ e2'), tr'.same s3, fr, by omega, by omega, hlt, (T1.ext s2).ext s3, fun w H4 x4 T4 nw wl4 => ?_⟩
          refine ⟨_, _, rfl, rfl, small (by rw [tx_len]; show 1 + _ ≤ 1000; omega), ?_⟩
          rw [ch_app]
          refine q (c :: w) H4 (xx.trans x4) T4 (.cons hm (by omega) (by rw [sj]; exact hlt) (by rw [sj]; exact nw)) ?_
          have vl := nw.valid.len fr
          rw [List.length_cons]
          omega
        · rw [decide_eq_false (show ¬ ((i - S : Nat) : Int) < (togR rest : Int) by omega)]
          refine iteF ?_
          refine ⟨_, rfl, _, rfl, _, _, rfl, rfl, ?_⟩
          refine ⟨some (.str (ch c)), some (.ref qa), some (vn (togR rest)), ?_, s2.trans s3, by omega⟩
          have e : vn (i - (S + togR rest)) = V.int (((i - S : Nat) : Int) - (togR rest : Int)) := congrArg V.int (by omega)
          rw [tk, e]
          rfl
      · obtain ⟨o3, o4, o5, rfl, s2, le⟩ := hp
        rw [wl, List.take_length, tot] at le
        omega
def spOrderAt (T : List (Addr × Str)) : Sp := fun vs H Q _ => ∃ (v : V) (t : B) (i : Nat), vs = [v, vn i] ∧ BAt H v t ∧ t ≠ .nil ∧ t.pre.Nodup ∧ t.size ≤ 15 ∧ i < t.num ∧ LamX.Tabs T H ∧
  ∀ (w : List Nat) (H' : Hp), LamX.ExtN H H' → LamX.Tabs T H' → Num (ft t) i w → w.length ≤ 15 → Q (.str (tx w)) H'
def spWhole : Sp := fun vs H Q _ => ∃ i : Int, vs = [.int i] ∧ Q (.bl true) H
theorem ok_whole {k : Nat} (F : Fun K "is_whole_number" "is_whole_number" s_is_whole_number f fd) (M : Mgs mg) : FnOk P w K mg base CX0 (k + 1) f fd ["value"] spWhole := by
  refine F.ok sc_is_whole_number (fun vs H Q E h => ?_) (fun cdv A outer s H vs Q E hr h => ?_)
  · obtain ⟨i, rfl, _⟩ := h
    rfl
  obtain ⟨i, rfl, q⟩ := h
  refine ⟨_, (pss_one (ps_ret (pe_and (pe_callB call_isi rfl M.isinstance (by decide +kernel) (pa_cons (pv 0) (pa_cons (pe_bltn (v := .ty "int") rfl M.int (by decide +kernel) rfl) pa_nil))) (pe_one (pe_not (pe_callB call_isi rfl M.isinstance (by decide +kernel) (pa_cons (pv 0) (pa_cons (pe_bltn (v := .ty "bool") rfl M.bool (by decide +kernel) rfl) pa_nil)))))))), ?_⟩
  refine ⟨_, rfl, _, _, _, _, true, rfl, .ty _, .base (.int i), kit_ty (by decide +kernel), _, rfl, iteT ?_⟩
  exact ⟨_, rfl, _, _, _, _, false, rfl, .ty _, .base (.int i), kit_ty (by decide +kernel), _, rfl, q⟩
def spIndex : Sp := fun vs H Q _ => ∃ i n : Int, vs = [.int i, .int n] ∧ Q (.bl (decide (0 ≤ i) && decide (i < n))) H
theorem ok_index {k : Nat} (F : Fun K "is_index" "is_index" s_is_index f fd) (Dis_whole_number : Df P w K mg base (k + 1) "is_whole_number" ["value"] spWhole) : FnOk P w K mg base CX0 (k + 2) f fd ["value", "many"] spIndex := by
  refine F.ok sc_is_index (fun vs H Q E h => ?_) (fun cdv A outer s H vs Q E hr h => ?_)
  · obtain ⟨i, n, rfl, _⟩ := h
    rfl
  obtain ⟨i, n, rfl, q⟩ := h
  refine ⟨_, (pss_one (ps_ret (pe_and (pe_call Dis_whole_number.ok (hr.mono (by omega)) rfl Dis_whole_number.g Dis_whole_number.kp Dis_whole_number.b .nil pass0 (pa_cons (pv 0) pa_nil)) (pe_one (pe_chain op_le op_lt pe_int (pv 0) (pv 1)))))), ?_⟩
  refine ⟨_, rfl, i, rfl, _, rfl, iteT ?_⟩
  refine ⟨_, rfl, _, _, rfl, rfl, _, rfl, ?_⟩
  by_cases h0 : (0 : Int) ≤ i
  · rw [decide_eq_true h0] at q ⊢
    exact iteT ⟨_, rfl, _, _, rfl, rfl, q⟩
  · rw [decide_eq_false h0] at q ⊢
    exact iteF q
theorem ft_ne {t : B} (h : t ≠ .nil) : ft t = [t] := by
  cases t with
  | nil => exact absurd rfl h
  | node l x r => rfl
theorem ok_orderAt {T : List (Addr × Str)} (F : Fun K "order_at" "order_at" s_order_at f fd) (Dis_index : Df P w K mg base 2 "is_index" ["value", "many"] spIndex) (Dcount_orders : Df P w K mg base 22 "count_orders" ["tree"] spCountO)
    (Dnumbered_order : Df P w K mg base 41 "numbered_order" ["parts", "index"] (spNumO K T 20)) : FnOk P w K mg base CX0 42 f fd ["tree", "index"] (spOrderAt T) := by
  refine F.ok sc_order_at (fun vs H Q E h => ?_) (fun cdv A outer s H vs Q E hr h => ?_)
  · obtain ⟨v, t, i, rfl, _⟩ := h
    rfl
  obtain ⟨v, t, i, rfl, hv, hn, nd, hz, hi, hT, q⟩ := h
  refine ⟨_, (pss_cons (ps_if (pt_not (pt_val (pe_call Dis_index.ok (hr.mono (by omega)) rfl Dis_index.g Dis_index.kp Dis_index.b .nil pass0 (pa_cons (pv 1) (pa_cons (pe_call Dcount_orders.ok (hr.mono (by omega)) rfl Dcount_orders.g Dcount_orders.kp Dcount_orders.b .nil pass0 (pa_cons (pv 0) pa_nil)) pa_nil)))))
      (pss_one ps_never) pss_nil)
    (pss_one (ps_ret (pe_call Dnumbered_order.ok (hr.mono (by omega)) rfl Dnumbered_order.g Dnumbered_order.kp Dnumbered_order.b .nil pass0 (pa_cons (pe_lst (pa_cons (pv 0) pa_nil)) (pa_cons (pv 1) pa_nil)))))), ?_⟩
  refine ⟨_, rfl, _, rfl, v, t, rfl, hv, hz, fun H1 s1 => ?_⟩
  refine ⟨(i : Int), (t.num : Int), rfl, ?_⟩
  rw [decide_eq_true (by omega : (0 : Int) ≤ (i : Int)), decide_eq_true (by omega : (i : Int) < (t.num : Int))]
  refine ⟨_, rfl, iteF ?_⟩
  refine ⟨_, rfl, (by show 1 ≤ sizeLine; decide), fun p np => ?_⟩
  have k2 := same_new np (.lst [v])
  have ep := upd_same (H := H1) (a := p) (o := .lst [v])
  generalize upd H1 p (.lst [v]) = H2 at k2 ep ⊢
  have s2 := s1.trans k2
  have fe := ft_ne hn
  refine ⟨_, rfl, p, [v], [t], i, rfl, SqL.of ep, .cons (hv.same s2) .nil, by rw [← fe]; exact ft_fg nd, ?_, ?_, ?_, hT.ext s2, fun w H3 x3 T3 nw wl => ?_⟩
  · rw [← fe, hooks_ft, B.hooks_len]; omega
  · rw [← fe, hooks_ft, B.hooks_len]; omega
  · rw [← fe, togR_ft]; exact hi
  · exact q w H3 ((same_extN s2).trans x3) T3 (by rw [fe]; exact nw) wl
end
/-! ### order_index -/
def secOf (H : Hp) (x : V) : V := match x with
  | .ref t => (match H t with | some (.tup [_, u]) => u | _ => .non)
  | _ => .non
theorem secOf_at {H : Hp} {a : Addr} {z u : V} (e : H a = some (.tup [z, u])) : secOf H (.ref a) = u := by
  simp only [secOf, e]
def spOrderIdx (T : List (Addr × Str)) : Sp := fun vs H Q _ => ∃ (v : V) (t : B) (w : List Nat), vs = [v, .str (tx w)] ∧ BAt H v t ∧ t ≠ .nil ∧ t.pre.Nodup ∧ t.size ≤ 15 ∧ Valid (ft t) w ∧ LamX.Tabs T H ∧
  ∀ (k : Nat) (H' : Hp), LamX.ExtN H H' → LamX.Tabs T H' → Idx (ft t) w k → Q (vn k) H'
section
variable {P : Program} {w : World} {K : PySem.W.Frag} {mg : Str → Option Value} {base : Heap} {f : Addr} {fd : FuncData}
theorem ok_orderIdx {T : List (Addr × Str)} (F : Fun K "order_index" "order_index" s_order_index f fd) (M : Mgs mg) (Dnext_steps : Df P w K mg base 3 "next_steps" ["parts"] (spNextSteps K T)) (Dcount_together : Df P w K mg base 21 "count_together" ["parts"] (spTogether K))
    (Dsize_of : Df P w K mg base 60 "size_of" ["tree"] (fun vs H Q _ => ∃ (v : V) (t : B), vs = [v] ∧ BAt H v t ∧ t.size < 60 ∧ Q (.int (t.size : Int)) H)) : FnOk P w K mg base CX0 61 f fd ["tree", "value"] (spOrderIdx T) := by
  refine F.ok sc_order_index (fun vs H Q E h => ?_) (fun cdv A outer s H vs Q E hr h => ?_)
  · obtain ⟨v, t, w, rfl, _⟩ := h
    rfl
  obtain ⟨v, t, w, rfl, hv, hn, nd, hz, hva, hT, q⟩ := h
  refine ⟨_, (pss_cons (ps_if (PW.pt (pw_or (pt_not (pt_val (pe_callB call_isi rfl M.isinstance (by decide +kernel) (pa_cons (pv 1) (pa_cons (pe_bltn (v := .ty "str") rfl M.str (by decide +kernel) rfl) pa_nil))))) (pw_or1 (pt_cmpR op_ne (pe_callB call_len_str rfl M.len PySem.boot_len (pa_cons (pv 1) pa_nil)) (pe_call Dsize_of.ok (hr.mono (by omega)) rfl Dsize_of.g Dsize_of.kp Dsize_of.b .nil pass0 (pa_cons (pv 0) pa_nil)) (nomark _)))))
      (pss_one ps_never) pss_nil)
    (pss_cons (ps_set (i := 2) sc_order_index.nd rfl (.inl rfl) pe_int)
    (pss_cons (ps_set (i := 3) sc_order_index.nd rfl (.inl rfl) (pe_lst (pa_cons (pv 0) pa_nil)))
    (pss_cons (ps_for PassesOwn.never rfl (pi_str (pv 1)) (pg_name (i := 4) sc_order_index.nd rfl (.inr rfl))
      (pss_cons (ps_set (i := 5) sc_order_index.nd rfl (.inl rfl) (pe_call Dnext_steps.ok (hr.mono (by omega)) rfl Dnext_steps.g Dnext_steps.kp Dnext_steps.b .nil pass0 (pa_cons (pv 3) pa_nil)))
    (pss_cons (ps_setLc (i := 8) (own := [("other", 6), ("rest", 7)]) (g := gTup K 2 (gCons (gName 6) (gCons (gName 7) gNil))) (by rfl) sc_order_index.nd rfl rfl (sw_true rfl rfl rfl (by decide +kernel)) (pi_list (pv 5)) (blkOk_by (N := ["tree", "value", "index", "parts", "letter", "steps", "other", "rest", "taken"]) (sc := defScope s_order_index) (by decide +kernel)) (fun _ _ _ _ _ => (pg_tup rfl (pgs_cons (pg_name (i := 6) sc_order_index.nd rfl (.inl rfl)) (pgs_cons (pg_name (i := 7) sc_order_index.nd rfl (.inl rfl)) pgs_nil)))) (fun _ _ _ _ _ => pts_one (pt_cmpR op_eq (pv 6) (pv 4) (nomark _))) (fun _ _ _ _ _ => (pv 7)))
    (pss_cons (ps_if (pt_not (pt_truth (pv 8) (by intro _; rfl)))
      (pss_one ps_never) pss_nil)
    (pss_cons (ps_aug (i := 2) sc_order_index.nd rfl (.inl rfl) (pe_callB (cr_sum rfl) rfl M.sum (by decide +kernel) (pa_cons (pe_lc (own := [("other", 6), ("rest", 7)]) (g := gTup K 2 (gCons (gName 6) (gCons (gName 7) gNil))) rfl sc_order_index.nd (pi_list (pv 5)) (blkOk_by (N := ["tree", "value", "index", "parts", "letter", "steps", "other", "rest", "taken"]) (sc := defScope s_order_index) (by decide +kernel)) (fun _ _ _ _ _ => (pg_tup rfl (pgs_cons (pg_name (i := 6) sc_order_index.nd rfl (.inl rfl)) (pgs_cons (pg_name (i := 7) sc_order_index.nd rfl (.inl rfl)) pgs_nil)))) (fun _ _ _ _ _ => pts_one (pt_cmpR op_lt_str (pv 6) (pv 4) (nomark _))) (fun _ _ _ _ _ => (pe_call Dcount_together.ok (hr.mono (by omega)) rfl Dcount_together.g Dcount_together.kp Dcount_together.b .nil pass0 (pa_cons (pv 7) pa_nil)))) pa_nil)) ip_add)
    (pss_one (ps_set (i := 3) sc_order_index.nd rfl (.inl rfl) (pe_ix ix_list (pv 8) pe_int (fun _ _ => rfl)))))))))
    (pss_one (ps_ret (pv 2))))))), ?_⟩
  have fe := ft_ne hn
  have g0 := ft_fg nd
  have wl := hva.len g0
  rw [hooks_ft, B.hooks_len] at wl
  refine ⟨_, rfl, _, _, _, _, true, rfl, .ty _, .base (.str (tx w)), kit_ty (by decide +kernel), _, rfl, iteF ?_⟩
  refine ⟨_, rfl, tx w, rfl, (by rw [tx_len]; exact small (by omega)), _, rfl, v, t, rfl, hv, by omega, rfl, _, rfl, iteNS (by rw [tx_len, wl]) ?_⟩
  refine ⟨_, rfl, (by show 1 ≤ sizeLine; decide), fun p0 np0 => ?_⟩
  have k0 := same_new np0 (.lst [v])
  have ep0 := upd_same (H := H) (a := p0) (o := .lst [v])
  generalize upd H p0 (.lst [v]) = H0 at k0 ep0 ⊢
  refine ⟨_, rfl, _, rfl, ?_⟩
  refine for_text (x := tx w) (fun j σ H' => ∃ (k : Nat) (pj : Addr) (us : List V) (ts : List B) (o4 o5 o6 o7 o8 : Option V), σ = [some v, some (.str (tx w)), some (vn k), some (.ref pj), o4, o5, o6, o7, o8] ∧ LamX.ExtN H H' ∧ LamX.Tabs T H' ∧ H' pj = some (.lst us) ∧ TsAt H' us ts ∧ FG ts ∧ (hooksL ts).length ≤ 15 ∧ Valid ts (w.drop j) ∧ ∀ k', Idx ts (w.drop j) k' → Idx (ft t) w (k + k'))
    ⟨0, p0, [v], [t], none, none, none, none, none, rfl, same_extN k0, hT.ext k0, ep0, .cons (hv.same k0) .nil, by rw [← fe]; exact g0, by rw [← fe, hooks_ft, B.hooks_len]; omega, by rw [← fe]; exact hva, fun k' h => by rw [Nat.zero_add, fe]; exact h⟩
    (fun j c σ H1 hc hp => ?_) (fun σ H1 hp => ?_)
  · obtain ⟨k, pj, us, ts, o4, o5, o6, o7, o8, rfl, x1, T1, e1, ta, fg, h15, va, ix⟩ := hp
    rw [tx_cps] at hc
    have hj := (List.getElem?_eq_some_iff.mp hc).1
    have hd : w.drop j = c :: w.drop (j + 1) := by
      rw [List.drop_eq_getElem_cons hj, (List.getElem?_eq_some_iff.mp hc).2]
    rw [hd] at va ix
    have flen := fg_len fg
    refine ⟨_, rfl, pj, us, ts, rfl, SqL.of e1, ta, fg.nn, by omega, T1, fun ps ws SS H2 x2 T2 ep sa pm so => ?_⟩
    obtain ⟨rest, hm, va'⟩ : ∃ rest, (c, rest) ∈ stepsL ts ∧ Valid rest (w.drop (j + 1)) := by
      cases va with
      | cons hs h => exact ⟨_, hs, h⟩
    refine ⟨_, rfl, ps, rfl, ⟨_, SqL.of ep⟩, fun D nD => ?_⟩
    have kD := same_new nD (.lst [])
    refine lc_it (walk_list (K := K) (a := ps) (xs := ws)) (fun i H' => Same H2 H' ∧ H' D = some (.lst (((ws.take i).filter fun x => decide (kzOf H2 x = ch c)).map (secOf H2)))) ⟨kD, upd_same⟩ (fun i H' _ hp => SqL.of (hp.1 _ _ ep)) (fun i x H3 H3' hi hp hy => ?_) (fun H3 hp => ?_)
    · obtain ⟨s3, e3⟩ := hp
      obtain ⟨rfl, hx⟩ := hy
      obtain ⟨b, qa, d, vs', r', rfl, hs, f1, f2, tr⟩ := sa.get hx
      refine ⟨b, _, rfl, SqT.of (s3 _ _ f1), rfl, _, _, rfl, _, _, rfl, rfl, rfl, ?_⟩
      refine ⟨_, rfl, _, rfl, rfl, _, rfl, ?_⟩
      have kz1 := kzOf_at f1
      have sc1 := secOf_at f1
      rw [take_nextG hx, List.filter_append, List.map_append]
      have fl : (((ws.take i).filter fun x => decide (kzOf H2 x = ch c)).map (secOf H2)).length ≤ 1000 := by
        rw [List.length_map]
        refine Nat.le_trans (List.length_filter_le _ _) ?_
        rw [List.length_take]
        have l1 := sa.len
        have l2 := pm.length_eq
        have l3 : (stepsL ts).length = ts.length := by unfold stepsL; rw [List.length_map, List.length_range]
        omega
      by_cases hdc : d = c
      · subst hdc
        refine iteS rfl ?_
        refine ⟨_, rfl, _, e3, small1000 fl, fun b' o e => ?_, ?_⟩
        · rw [upd_ne (ne_of_none e nD)]; exact s3 _ _ e
        · rw [upd_same, List.filter_cons, if_pos (decide_eq_true kz1), List.filter_nil, List.map_cons, List.map_nil, sc1]
      · refine iteR (fun z => hdc (ch_inj z)) ?_
        refine ⟨s3, ?_⟩
        rw [List.filter_cons, if_neg (by rw [kz1]; exact fun z => hdc (ch_inj (of_decide_eq_true z))), List.filter_nil, List.map_nil, List.append_nil]
        exact e3
    · obtain ⟨s3, e3⟩ := hp
      rw [List.take_length] at e3
      -- the taken list
      obtain ⟨q', vs', f2, tr, tail, ht⟩ : ∃ (q' : Addr) (vs' : List V), H2 q' = some (.lst vs') ∧ TsAt H2 vs' rest ∧ ∃ tail, (ws.filter fun x => decide (kzOf H2 x = ch c)).map (secOf H2) = .ref q' :: tail := by
        obtain ⟨n, hn⟩ := List.getElem?_of_mem (pm.mem_iff.mpr hm)
        have hn1 := (List.getElem?_eq_some_iff.mp hn).1
        obtain ⟨y, hw⟩ : ∃ y, ws[n]? = some y := ⟨_, List.getElem?_eq_getElem (by rw [sa.len]; exact hn1)⟩
        obtain ⟨b1, q1, d1, vs1, r1, eb, hs1, f1, _, _⟩ := sa.get hw
        rw [hn] at hs1
        cases hs1
        have mem : y ∈ ws.filter fun x => decide (kzOf H2 x = ch c) := List.mem_filter.mpr ⟨List.mem_of_getElem? hw, decide_eq_true (by rw [eb]; exact kzOf_at f1)⟩
        cases hL : ws.filter fun x => decide (kzOf H2 x = ch c) with
        | nil => rw [hL] at mem; cases mem
        | cons x0 L =>
          have hx0 : x0 ∈ ws.filter fun x => decide (kzOf H2 x = ch c) := by rw [hL]; exact List.mem_cons_self
          obtain ⟨m1, m2⟩ := List.mem_filter.mp hx0
          obtain ⟨m, hm1⟩ := List.getElem?_of_mem m1
          obtain ⟨b2, q2, d2, vs2, r2, eb2, hs2, g1, g2, g3⟩ := sa.get hm1
          rw [eb2] at m2
          have m3 := of_decide_eq_true m2
          rw [kzOf_at g1] at m3
          have m4 := ch_inj m3
          subst m4
          have := step_inj fg hm (pm.mem_iff.mp (List.mem_of_getElem? hs2))
          subst this
          exact ⟨q2, vs2, g2, g3, L.map (secOf H2), by rw [List.map_cons, eb2, secOf_at g1]⟩
      rw [ht] at e3
      refine ⟨_, rfl, _, .inl ⟨_, SqL.of e3, rfl⟩, iteF ?_⟩
      refine ⟨_, rfl, _, rfl, ps, rfl, ⟨_, SqL.of (s3 _ _ ep)⟩, fun D2 nD2 => ?_⟩
      have kD2 := same_new nD2 (.lst [])
      refine lc_it (walk_list (K := K) (a := ps) (xs := ws)) (fun i H' => Same H3 H' ∧ H' D2 = some (.lst ((((SS.take i).filter fun s => decide (s.1 < c)).map fun s => ((togR s.2 : Nat) : Int)).map V.int))) ⟨kD2, upd_same⟩ (fun i H' _ hp => SqL.of (hp.1 _ _ (s3 _ _ ep))) (fun i x H4 H4' hi hp hy => ?_) (fun H4 hp => ?_)
      · obtain ⟨s4, e4⟩ := hp
        obtain ⟨rfl, hx⟩ := hy
        obtain ⟨b, qa, d, vs2, r', rfl, hs, f1, g2, g3⟩ := sa.get hx
        have s24 := s3.trans s4
        have hh := step_hooks fg (pm.mem_iff.mp (List.mem_of_getElem? hs))
        refine ⟨b, _, rfl, SqT.of (s24 _ _ f1), rfl, _, _, rfl, _, _, rfl, rfl, rfl, ?_⟩
        refine ⟨_, rfl, _, rfl, _, _, rfl, rfl, _, rfl, ?_⟩
        rw [ch_lt, take_nextG hs, List.filter_append, List.map_append, List.map_append]
        by_cases hdc : d < c
        · rw [decide_eq_true hdc]
          refine iteT ⟨_, rfl, qa, vs2, r', rfl, SqL.of (s24 _ _ g2), g3.same s24, by omega, fun H5 s5 => ?_⟩
          refine ⟨_, s5 _ _ e4, ?_, fun b' o e => ?_, ?_⟩
          · rw [List.length_map, List.length_map]
            refine small1000 (Nat.le_trans (List.length_filter_le _ _) ?_)
            rw [List.length_take]
            have l2 := pm.length_eq
            have l3 : (stepsL ts).length = ts.length := by unfold stepsL; rw [List.length_map, List.length_range]
            omega
          · rw [upd_ne (ne_of_none e nD2)]; exact s5 _ _ (s4 _ _ e)
          · rw [upd_same, List.filter_cons, if_pos (decide_eq_true hdc), together_eq]
            rfl
        · rw [decide_eq_false hdc]
          refine iteF ⟨s4, ?_⟩
          rw [List.filter_cons, if_neg (fun z => hdc (of_decide_eq_true z)), List.filter_nil, List.map_nil, List.map_nil, List.append_nil]
          exact e4
      · obtain ⟨s4, e4⟩ := hp
        rw [sa.len, List.take_length] at e4
        have sm : (((SS.filter fun s => decide (s.1 < c)).map fun s => ((togR s.2 : Nat) : Int))).sum = (below ts c : Int) := by
          have h1 : ((SS.filter fun s => decide (s.1 < c)).map fun s => togR s.2).sum = below ts c := ((pm.filter _).map _).sum_nat
          rw [← h1]
          generalize SS.filter (fun s => decide (s.1 < c)) = L
          induction L with
          | nil => rfl
          | cons s L ih => rw [List.map_cons, List.map_cons, List.sum_cons, List.sum_cons, ih, Int.natCast_add]
        have s24 := s3.trans s4
        have x4 := (x1.trans x2).trans (same_extN s24)
        have hh := step_hooks fg hm
        refine ⟨D2, _, rfl, SqL.of e4, _, _, rfl, rfl, ?_⟩
        rw [sm]
        refine ⟨_, rfl, D, _, _, _, rfl, rfl, SqL.of (s4 _ _ e3), atI_nat (j := 0) (v := .ref q') rfl, ?_⟩
        refine ⟨k + below ts c, q', vs', rest, _, _, _, _, _, rfl, x4, T2.ext s24, s24 _ _ f2, tr.same s24, (fg.step hm).1, by omega, va', fun k' h => ?_⟩
        have := ix _ (.cons hm h)
        rw [Nat.add_assoc]
        exact this
  · obtain ⟨k, pj, us, ts, o4, o5, o6, o7, o8, rfl, x1, T1, e1, ta, fg, h15, va, ix⟩ := hp
    rw [tx_cps, List.drop_length] at va ix
    cases va
    exact ⟨_, rfl, q k H1 x1 T1 (ix 0 .nil)⟩
end
/-! ### the deck, tables and lambdas; _law_ways, _law_merged, _law_drawn_order, _law_count -/
theorem DeckOk.ext {H H' : Hp} {D : Deck} (d : DeckOk H D) (h : LamX.ExtN H H') : DeckOk H' D := by
  obtain ⟨gs, wh, n, h1, h2, h3⟩ := d.ex
  exact ⟨⟨gs, wh, n, h _ _ h1 (fun ps z => by cases z), h _ _ h2 (fun ps z => by cases z), h3⟩, d.ne⟩
/-- all stands still but the deck's lists and the tables -/
def ExtD (D : Deck) (H H' : Hp) : Prop := ∀ b o, b ≠ D.dk → b ≠ D.ga → H b = some o → (∀ ps, o ≠ .tbl ps) → H' b = some o
theorem ExtD.refl (D : Deck) (H : Hp) : ExtD D H H := fun _ _ _ _ e _ => e
theorem ExtD.trans {D : Deck} {H H1 H2 : Hp} (a : ExtD D H H1) (b : ExtD D H1 H2) : ExtD D H H2 := fun c o h1 h2 e n => b c o h1 h2 (a c o h1 h2 e n) n
theorem ExtD.of {D : Deck} {H H' : Hp} (h : LamX.ExtN H H') : ExtD D H H' := fun b o _ _ e n => h b o e n
theorem ExtD.ofD {D : Deck} {H H' : Hp} (h : SameD D H H') : ExtD D H H' := fun b o h1 h2 e _ => h b o h1 h2 e
theorem ExtD.ofS {D : Deck} {H H' : Hp} (h : Same H H') : ExtD D H H' := fun b o _ _ e _ => h b o e
theorem ExtD.keepT {D : Deck} {H H' : Hp} (h : ExtD D H H') (d : DeckOk H D) : KeepT H H' := fun b xs e => by
  obtain ⟨⟨x1, h1⟩, ⟨x2, h2⟩⟩ := d.lists
  exact h b _ (ne_of e h1 (by intro z; cases z)) (ne_of e h2 (by intro z; cases z)) e (fun ps z => by cases z)
theorem tabsD {T : List (Addr × Str)} {D : Deck} {H H' : Hp} (d : DeckOk H D) (s : SameD D H H') (h : LamX.Tabs T H) : LamX.Tabs T H' := fun p hp => by
  obtain ⟨⟨x1, l1⟩, ⟨x2, l2⟩⟩ := d.lists
  obtain ⟨ps, h1, h2, h3⟩ := h p hp
  refine ⟨ps, s _ _ (fun z => by rw [z, l1] at h1; cases h1) (fun z => by rw [z, l2] at h1; cases h1) h1, h2, fun pos cv hc => ?_⟩
  obtain ⟨c, e1, e2⟩ := h3 pos cv hc
  refine ⟨c, e1, s _ _ (fun z => ?_) (fun z => ?_) e2⟩
  · rw [z, l1] at e2; unfold LamX.CodeO at e2; cases e2
  · rw [z, l2] at e2; unfold LamX.CodeO at e2; cases e2
theorem cho_next (n k : Nat) : cho (n + (k + 1)) (k + 1) * (k + 1) = cho (n + k) k * (n + k + 1) := by
  have h1 := cho_fac _ (k + 1) n rfl
  have h2 := cho_fac _ k n rfl
  rw [show k + 1 + n = n + (k + 1) by omega] at h1
  rw [show k + n = n + k by omega] at h2
  have h3 : facN (n + (k + 1)) = facN (n + k) * (n + k + 1) := rfl
  have h4 : facN (k + 1) = facN k * (k + 1) := rfl
  rw [h3, ← h2, h4] at h1
  have pos : 0 < facN k * facN n := Nat.mul_pos (facN_pos k) (facN_pos n)
  refine Nat.eq_of_mul_eq_mul_right pos ?_
  calc cho (n + (k + 1)) (k + 1) * (k + 1) * (facN k * facN n) = cho (n + (k + 1)) (k + 1) * (facN k * (k + 1) * facN n) := by simp only [Nat.mul_assoc, Nat.mul_left_comm, Nat.mul_comm]
    _ = cho (n + k) k * (facN k * facN n) * (n + k + 1) := h1
    _ = cho (n + k) k * (n + k + 1) * (facN k * facN n) := by simp only [Nat.mul_assoc, Nat.mul_left_comm, Nat.mul_comm]
theorem cho_le (n k : Nat) : cho (n + k) k ≤ facN (n + k) := by
  have h2 := cho_fac _ k n rfl
  rw [show k + n = n + k by omega] at h2
  rw [← h2]
  exact Nat.le_mul_of_pos_right _ (Nat.mul_pos (facN_pos k) (facN_pos n))
theorem tx_nil {l : List Nat} (h : tx l = Str.ofString "") : l = [] := by rw [str_0] at h; exact tx_inj h
theorem num_lt {t : B} (h : t.size ≤ 12) : (t.num : Int) < 1073741824 := by
  have h1 := t.num_le
  have h2 : facN t.size ≤ facN 12 := facN_mono h
  have h3 : facN 12 = 479001600 := by decide
  omega
theorem num_pos (t : B) : 0 < t.num := by rw [← togR_ft]; exact togR_pos _
/-! ### zip of two texts -/
section
variable {X : Cx}
/-- new pairs of the signs of x and y -/
def ItzS (x y : Str) : It :=
  ⟨fun i _ => i < x.cps.size ∧ i < y.cps.size,
    fun i H v H' => ∃ (p : Addr) (c d : Nat), v = .ref p ∧ H p = none ∧ H' = upd H p (.tup [.str ⟨#[c]⟩, .str ⟨#[d]⟩]) ∧ x.cps[i]? = some c ∧ y.cps[i]? = some d,
    fun i _ => i = min x.cps.size y.cps.size⟩
theorem turn_zipS {P : Program} {w : World} {K : PySem.W.Frag} {elts : List Expr} {kk : Nat} {tpos : Pos} {x y : Str} {t1 t2 : Tok} {z ti to i1 i2 : Addr} (S : ZipSep2 z ti to i1 i2 [i1] [i2]) :
    Turn P w K (.Tuple elts kk tpos) (ItzS x y) [z, ti, to, i1, i2] z
      (fun i h => IsZip h z ti to .none ∧ IsTupOf2 h ti (.ref i1) (.ref i2) ∧ (∃ a b, IsTupOf2 h to a b) ∧ h.IsStrIter i1 (strIterType x) x t1 i ∧ h.IsStrIter i2 (strIterType y) y t2 i) where
  mem := by simp
  obj := fun i h st c hc => by
    obtain ⟨hz, hti, ⟨a, b, hto⟩, ⟨o1, e1, _, d1⟩, ⟨o2, e2, _, d2⟩⟩ := st
    have hc' : c = z ∨ c = ti ∨ c = to ∨ c = i1 ∨ c = i2 := by simpa using hc
    rcases hc' with q | q | q | q | q
    · rw [q]; exact ⟨_, hz, fun v q2 => nomatch q2⟩
    · rw [q]; exact ⟨_, hti, fun v q2 => nomatch q2⟩
    · rw [q]; exact ⟨_, hto, fun v q2 => nomatch q2⟩
    · exact ⟨o1, by rw [q]; exact e1, fun v q => by rw [d1] at q; cases q⟩
    · exact ⟨o2, by rw [q]; exact e2, fun v q => by rw [d2] at q; cases q⟩
  keep := fun i h h' st k => by
    obtain ⟨hz, hti, ⟨a, b, hto⟩, ⟨o1, e1, r1⟩, ⟨o2, e2, r2⟩⟩ := st
    exact ⟨k z (by simp) _ hz, k ti (by simp) _ hti, ⟨a, b, k to (by simp) _ hto⟩, ⟨o1, k i1 (by simp) _ e1, r1⟩, ⟨o2, k i2 (by simp) _ e2, r2⟩⟩
  item := by
    intro X hP hw hK hc i pins s σ H E I hf st hg
    subst hP hw hK
    obtain ⟨hz, hti, ⟨a0, b0, hto⟩, h1, h2⟩ := st
    have quiet : X.A.in1.handled = none := I.ok.hd hc
    have zlt : z < s.heap.objs.size := Heap.lt_size hz
    refine wpAny_pyNext_zipD2_item S (Draws.text quiet i1 x t1) (Draws.text quiet i2 y t2) hz hti hto h1 h2 hg.1 hg.2 fun u1 u2 h' tk p1 p2 z' to' j1 j2 hT hsz hk => ?_
    obtain ⟨c, tc, ec, rfl⟩ := p1
    obtain ⟨d, td, ed, rfl⟩ := p2
    refine ⟨_, rfl, wpAny_letOwnedTupleGo_zip (s := { s with heap := h', toks := tk }) z' fun h'' z'' sb => ?_⟩
    have hT2 : h''.get? s.heap.objs.size = some { cls := .type "tuple", data := .seq #[.str ⟨#[c]⟩ tc, .str ⟨#[d]⟩ td] } := (sb.2 _ (Nat.ne_of_gt zlt)).trans hT
    have new : ObjOk X.prog X.w (upd H s.heap.objs.size (.tup [.str ⟨#[c]⟩, .str ⟨#[d]⟩])) h'' s.heap.objs.size (.tup [.str ⟨#[c]⟩, .str ⟨#[d]⟩]) :=
      ⟨by show 2 ≤ sizeLine; decide, [.str ⟨#[c]⟩ tc, .str ⟨#[d]⟩ td], .cons ⟨_, rfl⟩ (.cons ⟨_, rfl⟩ .nil), ⟨_, hT2, rfl, _, rfl⟩⟩
    have I1 : Inv X pins σ (upd H s.heap.objs.size (.tup [.str ⟨#[c]⟩, .str ⟨#[d]⟩])) { s with heap := h'', toks := tk } :=
      I.turnedNew (t' := tk) (ch := [z, ti, to, i1, i2]) (fun c o hb q => (sb.2 c (fun e => hb (by simp [e]))).trans (hk c o (fun e => hb (by simp [e])) (fun e => hb (by simp [e])) (fun e => hb (by simp [e])) (fun e => hb (by simp [e])) q)) hf (Nat.le_refl _) new
    refine ⟨.ref s.heap.objs.size, _, I1, rfl, ⟨_, c, d, rfl, I.hok.fresh (Nat.le_refl _), rfl, ec, ed⟩, ⟨z'', (sb.2 _ S.TIz).trans (hk _ _ S.TIz S.TITO S.TIi1 S.TIi2 hti), ⟨_, _, (sb.2 _ S.TOz).trans to'⟩, ?_, ?_⟩, fun c hcm => ?_⟩
    · obtain ⟨o, e, r⟩ := j1
      exact ⟨o, (sb.2 _ S.zi1.symm).trans e, r⟩
    · obtain ⟨o, e, r⟩ := j2
      exact ⟨o, (sb.2 _ S.zi2.symm).trans e, r⟩
    · have lt : c < s.heap.objs.size := by
        have hc' : c = z ∨ c = ti ∨ c = to ∨ c = i1 ∨ c = i2 := by simpa using hcm
        rcases hc' with q | q | q | q | q
        · rw [q]; exact zlt
        · rw [q]; exact Heap.lt_size hti
        · rw [q]; exact Heap.lt_size hto
        · rw [q]; obtain ⟨_, e, _⟩ := h1; exact Heap.lt_size e
        · rw [q]; obtain ⟨_, e, _⟩ := h2; exact Heap.lt_size e
      rw [upd_ne (Nat.ne_of_lt lt)]
      exact (hf c hcm).1
  done := by
    intro X hP hw hK hc i pins s σ H E I hf st hg
    subst hP hw hK
    obtain ⟨hz, hti, ⟨a0, b0, hto⟩, h1, h2⟩ := st
    have quiet : X.A.in1.handled = none := I.ok.hd hc
    have hg' : i = min x.cps.size y.cps.size := hg
    exact wpAny_pyNext_zipD2_end S (Draws.text quiet i1 x t1) (Draws.text quiet i2 y t2) hz hti hto h1 h2 (by omega) (by omega) (by omega) fun h' tk hk => ⟨rfl, I.turnedL (t' := tk) (ch := [z, ti, to, i1, i2]) (fun c o hb q =>
      hk c o (fun e => hb (by simp [e])) (fun e => hb (by simp [e])) (fun e => hb (by simp [e])) (fun e => hb (by simp [e])) q) hf⟩
  self := fun A i s Q E st h => wpAny_pyIter_zip st.1 h
def iZipS (ta : TA) : TI := fun σ H R => ta σ H fun vs H1 => ∃ x y : Str, vs = [.str x, .str y] ∧ R (ItzS x y) H1
theorem pi_zipS {e e2 : Expr} {ta : TA} {p pos tpos : Pos} {elts : List Expr} {kk : Nat} (hg : Gl X "zip") (hm : X.mg "zip" = none) (ha : PA X [e, e2] ta)
    (hs : starEach [e, e2] X.env = (false, eval e X.env) :: starEach [e2] X.env := by rfl) (hpl : (backTo pos (starEach [e2] X.env)).any (·.1) = false := by rfl) :
    PI X (.Tuple elts kk tpos) (.Call (.Name "zip" p) [e, e2] [] pos) (iZipS ta) := by
  refine ⟨fun pins s σ H R I h => ?_⟩
  refine Call_ (ld_blt I hg hm PyProof.Rows.boot_zip (PyProof.Rows.callWith_type1 (thn (ha.run pos pins s σ H _ I h) fun us s1 h1 => ?_) hs hpl))
  obtain ⟨vs, H1, I1, r1, x, y, rfl, q⟩ := h1
  obtain ⟨u, u2, rfl, ⟨t1, rfl⟩, ⟨t2, rfl⟩⟩ := vals2 r1
  refine zip_begins2 (begins_text x t1) (begins_text y t2) trivial trivial fun h' hz hti hto g1 g2 hsz hk => wpAny_pyIter_zip hz ?_
  have I2 : Inv X pins σ H1 { s1 with heap := h' } := I1.kept (t' := s1.toks) hk
  have young : ∀ c, c ∈ [s1.heap.objs.size + 4, s1.heap.objs.size + 2, s1.heap.objs.size + 3, s1.heap.objs.size, s1.heap.objs.size + 1] → FpOk X pins H1 c := fun c hc => by
    have le : s1.heap.objs.size ≤ c := by
      have hc' : c = s1.heap.objs.size + 4 ∨ c = s1.heap.objs.size + 2 ∨ c = s1.heap.objs.size + 3 ∨ c = s1.heap.objs.size ∨ c = s1.heap.objs.size + 1 := by simpa using hc
      rcases hc' with q | q | q | q | q <;> (rw [q]; first | exact Nat.le_add_right _ _ | exact Nat.le_refl _)
    exact I1.fpOk le (I1.hok.fresh le)
  have apart : ∀ (n a b : Nat), a ≠ b → n + a ≠ n + b := fun n a b h z => h (Nat.add_left_cancel z)
  refine ⟨s1.heap.objs.size + 4, [s1.heap.objs.size + 4, s1.heap.objs.size + 2, s1.heap.objs.size + 3, s1.heap.objs.size, s1.heap.objs.size + 1], _, _, H1, rfl, I2, turn_zipS (t1 := t1) (t2 := t2) ?_, ⟨hz, hti, ⟨_, _, hto⟩, ⟨_, g1, rfl, rfl⟩, ⟨_, g2, rfl, rfl⟩⟩, young, q⟩
  have n0 : s1.heap.objs.size = s1.heap.objs.size + 0 := rfl
  refine ⟨apart _ _ _ (by decide), apart _ _ _ (by decide), apart _ _ _ (by decide), ?_, by simp, ?_, ?_, apart _ _ _ (by decide), by simp, ?_, ?_, ?_, ?_⟩
  · exact apart _ 2 0 (by decide)
  · intro h; exact apart _ 4 0 (by decide) (List.mem_singleton.mp h)
  · intro h; exact apart _ 3 0 (by decide) (List.mem_singleton.mp h)
  · intro h; exact apart _ 4 1 (by decide) (List.mem_singleton.mp h)
  · intro h; exact apart _ 3 1 (by decide) (List.mem_singleton.mp h)
  · intro h; exact apart _ 0 1 (by decide) (List.mem_singleton.mp h)
  · intro h; exact apart _ 1 0 (by decide) (List.mem_singleton.mp h)
theorem pi_or {tg e : Expr} {w1 w2 : TI} (a : PI X tg e w1) (b : PI X tg e w2) : PI X tg e (fun σ H R => w1 σ H R ∨ w2 σ H R) :=
  ⟨fun pins s σ H R I h => h.elim (fun h => a.run pins s σ H R I h) fun h => b.run pins s σ H R I h⟩
theorem walk_zipS {x y : Str} {n : Nat} (hn : n = min x.cps.size y.cps.size) : Walk (ItzS x y) n (fun _ => True) (fun i H v H' => ∃ (p : Addr) (c d : Nat), v = .ref p ∧ H p = none ∧ H' = upd H p (.tup [.str ⟨#[c]⟩, .str ⟨#[d]⟩]) ∧ x.cps[i]? = some c ∧ y.cps[i]? = some d) :=
  ⟨fun i _ hi _ => ⟨by omega, by omega⟩, fun _ _ => hn, fun _ _ _ _ _ _ q => q⟩
end
/-! ### indexes, ascending texts and tuples -/
theorem sqT_same {K : PySem.W.Frag} {H H' : Hp} {a : Addr} {xs : List V} (e : Same H H') (h : SqT K H a xs) : SqT K H' a xs := by
  rcases h with (h | ⟨o, h⟩) | h
  · exact .inl (.inl (e _ _ h))
  · exact .inl (.inr ⟨o, e _ _ h⟩)
  · exact .inr h
theorem walk_zipT {K : PySem.W.Frag} {a b : Addr} {xs ys : List V} {n : Nat} (hn : n = min xs.length ys.length) : Walk (RZ.ItzT K a b) n (fun H => SqT K H a xs ∧ SqT K H b ys) (YPair (fun i => xs[i]?) (fun i => ys[i]?)) :=
  ⟨fun i H hi h => ⟨xs, ys, xs[i]'(by omega), ys[i]'(by omega), h.1, h.2, List.getElem?_eq_getElem _, List.getElem?_eq_getElem _⟩, fun H h => ⟨xs, ys, h.1, h.2, by omega⟩, fun i H v H' hi h q => by
    obtain ⟨T, x, y, e1, e2, e3, e4, e5⟩ := q
    exact ⟨T, x, y, e1, e2, e3, e4 xs h.1, e5 ys h.2⟩⟩
def asc (zs : List Nat) : Bool := ((zs.zip (zs.drop 1)).map fun q => decide (q.1 < q.2)).all id
def spAsc (K : PySem.W.Frag) : Sp := fun vs H Q _ =>
  (∃ zs : List Nat, vs = [.str (tx zs)] ∧ zs.length ≤ 60 ∧ ∀ H', Same H H' → Q (.bl (asc zs)) H') ∨
  (∃ (a : Addr) (i j k : Int), vs = [.ref a] ∧ SqT K H a [.int i, .int j, .int k] ∧ ∀ H', Same H H' → Q (.bl (decide (i < j) && decide (j < k))) H')
theorem bl_ints (a b : Bool) : ([a, b].all id) = (a && b) := by cases a <;> cases b <;> rfl
section
variable {P : Program} {w : World} {K : PySem.W.Frag} {mg : Str → Option Value} {base : Heap} {f : Addr} {fd : FuncData}
theorem ok_asc {k : Nat} (F : Fun K "is_ascending" "is_ascending" s_is_ascending f fd) (M : Mgs mg) : FnOk P w K mg base CX0 (k + 1) f fd ["items"] (spAsc K) := by
  refine F.ok sc_is_ascending (fun vs H Q E h => ?_) (fun cdv A outer s H vs Q E hr h => ?_)
  · rcases h with ⟨zs, rfl, _⟩ | ⟨a, i, j, k, rfl, _⟩ <;> rfl
  refine ⟨_, (pss_one (ps_ret (pe_callB (cr_all rfl) rfl M.all (by decide +kernel) (pa_cons (pe_lc (own := [("one", 1), ("other", 2)]) (g := gTup K 2 (gCons (gName 1) (gCons (gName 2) gNil))) (tt := tYes) rfl sc_is_ascending.nd (pi_or (pi_zipS rfl M.zip (pa_cons (pv 0) (pa_cons (pe_slice sl_str (pv 0) (po_some pe_int) po_none) pa_nil))) (RZ.pi_zipA rfl M.zip (pa_cons (pv 0) (pa_cons (pe_slice sl_tupA (pv 0) (po_some pe_int) po_none) pa_nil)))) (blkOk_by (N := ["items", "one", "other"]) (sc := defScope s_is_ascending) (by decide +kernel)) (fun _ _ _ _ _ => (pg_tup rfl (pgs_cons (pg_name (i := 1) sc_is_ascending.nd rfl (.inl rfl)) (pgs_cons (pg_name (i := 2) sc_is_ascending.nd rfl (.inl rfl)) pgs_nil)))) (fun _ _ _ _ _ => pts_nil) (fun _ _ _ _ _ => (pe_cmpR (op_lt_str.or op_lt) (pv 1) (pv 2) (nomark _)))) pa_nil)))), ?_⟩
  rcases h with ⟨zs, rfl, hl, q⟩ | ⟨a, i, j, k, rfl, ha, q⟩
  · have lz : (tx zs).length ≤ sizeLine := small (by rw [tx_len]; omega)
    refine .inl ⟨_, rfl, _, rfl, 1, rfl, _, rfl, lz, _, _, rfl, fun D nD => ?_⟩
    rw [show (1 : Int) = ((1 : Nat) : Int) from rfl, tx_from]
    have q1 := same_new nD (.lst [])
    refine lc_it (walk_zipS (x := tx zs) (y := tx (zs.drop 1)) rfl) (fun i H' => Same H H' ∧ H' D = some (.lst ((((zs.zip (zs.drop 1)).take i).map fun q => decide (q.1 < q.2)).map V.bl))) ⟨q1, upd_same⟩ (fun _ _ _ _ => trivial) (fun i x H' H'' hi hp hy => ?_) (fun H' hp => ?_)
    · obtain ⟨sm, ed⟩ := hp
      obtain ⟨p, c, d, rfl, np, rfl, hc, hd⟩ := hy
      have hc' : zs[i]? = some c := by rw [← hc]; simp [tx]
      have hd' : (zs.drop 1)[i]? = some d := by rw [← hd]; simp [tx]
      have q2 := same_new np (.tup [.str ⟨#[c]⟩, .str ⟨#[d]⟩])
      have hz : (zs.zip (zs.drop 1))[i]? = some (c, d) := List.getElem?_zip_eq_some.mpr ⟨hc', hd'⟩
      have hi' : i < zs.length := (List.getElem?_eq_some_iff.mp hc').1
      refine ⟨p, _, rfl, SqT.of upd_same, rfl, _, _, rfl, _, _, rfl, rfl, rfl, kept ?_⟩
      refine ⟨_, rfl, _, rfl, .inl ⟨_, _, rfl, rfl, _, q2 _ _ ed, ?_, fun b o e => ?_, ?_⟩⟩
      · rw [List.length_map, List.length_map, List.length_take]; exact small1000 (by omega)
      · rw [upd_ne (ne_of_none e nD)]; exact q2 _ _ (sm _ _ e)
      · rw [upd_same, List.take_succ, hz, List.map_append, List.map_append]
        show _ = some (HO.lst (_ ++ [V.bl (decide (c < d))]))
        rw [show V.bl (decide ((⟨#[c]⟩ : Str).cps.toList < (⟨#[d]⟩ : Str).cps.toList)) = V.bl (decide (c < d)) from congrArg V.bl (ch_lt c d)]
    · obtain ⟨sm, ed⟩ := hp
      refine ⟨D, _, rfl, SqL.of ed, ?_⟩
      have e : (zs.zip (zs.drop 1)).take (min (tx zs).cps.size (tx (zs.drop 1)).cps.size) = zs.zip (zs.drop 1) := by
        refine List.take_of_length_le ?_
        rw [List.length_zip, tx_size, tx_size]
        exact Nat.le_refl _
      rw [e]
      exact q H' sm
  · refine .inr ⟨_, rfl, _, rfl, 1, rfl, a, _, rfl, ha, fun hw => ?_, fun _ b nb => ?_⟩
    · exact absurd (show HT.sIx 3 0 (some 1) = 0 from hw.1) (by decide)
    have q0 := same_new nb (.tup [.int j, .int k])
    refine ⟨a, b, _, _, rfl, .inr ⟨sqT_same q0 ha, SqT.of upd_same, fun D nD => ?_⟩⟩
    have q1 := same_new nD (.lst [])
    have ha1 := sqT_same q0 ha
    have eb : SqT K (upd H b (.tup [.int j, .int k])) b [.int j, .int k] := SqT.of upd_same
    refine lc_it (walk_zipT (K := K) (a := a) (b := b) (xs := [.int i, .int j, .int k]) (ys := [.int j, .int k]) rfl) (fun n H' => Same (upd H b (.tup [.int j, .int k])) H' ∧ H' D = some (.lst (([decide (i < j), decide (j < k)].take n).map V.bl))) ⟨q1, upd_same⟩ (fun _ H' _ hp => ⟨sqT_same hp.1 ha1, sqT_same hp.1 eb⟩) (fun n x H' H'' hi hp hy => ?_) (fun H' hp => ?_)
    · obtain ⟨sm, ed⟩ := hp
      obtain ⟨p, x, y, rfl, np, rfl, hx, hy⟩ := hy
      have q2 := same_new np (.tup [x, y])
      have hn : n = 0 ∨ n = 1 := by
        have : n < 2 := hi
        omega
      rcases hn with rfl | rfl
      · cases hx
        cases hy
        refine ⟨p, _, rfl, SqT.of upd_same, rfl, _, _, rfl, _, _, rfl, rfl, rfl, kept ?_⟩
        refine ⟨_, rfl, _, rfl, .inr ⟨_, _, rfl, rfl, _, q2 _ _ ed, (by show 0 < sizeLine; decide), fun b o e => ?_, ?_⟩⟩
        · rw [upd_ne (ne_of_none e nD)]; exact q2 _ _ (sm _ _ e)
        · rw [upd_same]; rfl
      · cases hx
        cases hy
        refine ⟨p, _, rfl, SqT.of upd_same, rfl, _, _, rfl, _, _, rfl, rfl, rfl, kept ?_⟩
        refine ⟨_, rfl, _, rfl, .inr ⟨_, _, rfl, rfl, _, q2 _ _ ed, (by show 1 < sizeLine; decide), fun b o e => ?_, ?_⟩⟩
        · rw [upd_ne (ne_of_none e nD)]; exact q2 _ _ (sm _ _ e)
        · rw [upd_same]; rfl
    · obtain ⟨sm, ed⟩ := hp
      refine ⟨D, [decide (i < j), decide (j < k)], rfl, SqL.of ed, ?_⟩
      rw [bl_ints]
      exact q H' (q0.trans sm)
def spSearch : Sp := fun vs H Q _ => ∃ (v : V) (t : B), vs = [v] ∧ BAt H v t ∧ t ≠ .nil ∧ t.size ≤ 50 ∧ ∀ H', Same H H' → Q (.bl (asc t.mid)) H'
theorem ok_search (F : Fun K "is_search_tree" "is_search_tree" s_is_search_tree f fd) (Dwalk : Df P w K mg base 62 "walk" ["tree", "kind"] spWalk) (Dis_ascending : Df P w K mg base 1 "is_ascending" ["items"] (spAsc K)) : FnOk P w K mg base CX0 63 f fd ["tree"] spSearch := by
  refine F.ok sc_is_search_tree (fun vs H Q E h => ?_) (fun cdv A outer s H vs Q E hr h => ?_)
  · obtain ⟨v, t, rfl, _⟩ := h
    rfl
  obtain ⟨v, t, rfl, hv, hn, hz, q⟩ := h
  refine ⟨_, (pss_one (ps_ret (pe_and (pe_cmpR op_notN (pv 0) pe_non (nomark _)) (pe_one (pe_call Dis_ascending.ok (hr.mono (by omega)) rfl Dis_ascending.g Dis_ascending.kp Dis_ascending.b .nil pass0 (pa_cons (pe_call Dwalk.ok (hr.mono (by omega)) rfl Dwalk.g Dwalk.kp Dwalk.b .nil pass0 (pa_cons (pv 0) (pa_cons pe_str pa_nil))) pa_nil)))))), ?_⟩
  rcases hv.inv with ⟨rfl, rfl⟩ | ⟨a, l, r, x, tl, tr, rfl, rfl, ea, hl, hr'⟩
  · exact absurd rfl hn
  · refine ⟨_, rfl, rfl, _, rfl, iteT ?_⟩
    refine ⟨_, rfl, _, _, .between, rfl, hv, hz, fun H1 s1 => ?_⟩
    refine .inl ⟨_, rfl, ?_, fun H2 s2 => q H2 (s1.trans s2)⟩
    have e := B.wk_len .between (.node tl x tr)
    omega
end
/-! ### all search trees -/
def allT : Nat → List Nat → List B
  | 0, _ => [.nil]
  | n + 1, zs => if zs = [] then [.nil] else (List.range zs.length).flatMap fun k => (allT n (zs.take k)).flatMap fun l => (allT n (zs.drop (k + 1))).map fun r => .node l (zs.getD k 0) r
theorem allT_mid : ∀ (n : Nat) (zs : List Nat), zs.length ≤ n → ∀ t ∈ allT n zs, t.mid = zs ∧ (zs ≠ [] → t ≠ .nil)
  | 0, zs, h, t, ht => by
    have : zs = [] := List.length_eq_zero_iff.mp (by omega)
    subst this
    cases List.mem_singleton.mp ht
    exact ⟨rfl, fun z => absurd rfl z⟩
  | n + 1, zs, h, t, ht => by
    unfold allT at ht
    by_cases hz : zs = []
    · subst hz
      rw [if_pos rfl] at ht
      cases List.mem_singleton.mp ht
      exact ⟨rfl, fun z => absurd rfl z⟩
    · rw [if_neg hz] at ht
      obtain ⟨k, hk, ht⟩ := List.mem_flatMap.mp ht
      obtain ⟨l, hl, ht⟩ := List.mem_flatMap.mp ht
      obtain ⟨r, hr, rfl⟩ := List.mem_map.mp ht
      have hk := List.mem_range.mp hk
      have m1 := (allT_mid n _ (by rw [List.length_take]; omega) l hl).1
      have m2 := (allT_mid n _ (by rw [List.length_drop]; omega) r hr).1
      refine ⟨?_, fun _ z => by cases z⟩
      show l.mid ++ zs.getD k 0 :: r.mid = zs
      rw [m1, m2, List.getD_eq_getElem?_getD, List.getElem?_eq_getElem hk, Option.getD_some, ← List.drop_eq_getElem_cons hk, List.take_append_drop]
theorem allT_size {n : Nat} {zs : List Nat} (h : zs.length ≤ n) {t : B} (ht : t ∈ allT n zs) : t.size = zs.length := by
  rw [← t.mid_len, (allT_mid n zs h t ht).1]
theorem sum_flatMap {α β : Type} (f : α → List β) (g : β → Nat) : ∀ L : List α, ((L.flatMap f).map g).sum = (L.map fun a => ((f a).map g).sum).sum
  | [] => rfl
  | a :: L => by
    rw [List.flatMap_cons, List.map_append, List.sum_append, sum_flatMap f g L]
    rfl
theorem sum_const_mul {α : Type} (c : Nat) (g : α → Nat) : ∀ L : List α, (L.map fun a => c * g a).sum = c * (L.map g).sum
  | [] => by simp
  | a :: L => by
    rw [List.map_cons, List.map_cons, List.sum_cons, List.sum_cons, sum_const_mul c g L, Nat.mul_add]
theorem sum_range_const (c : Nat) : ∀ n : Nat, ((List.range n).map fun _ => c).sum = n * c
  | 0 => by simp
  | n + 1 => by
    rw [List.range_succ, List.map_append, List.sum_append, sum_range_const c n, Nat.succ_mul]
    simp
theorem map_congr_mem {α β : Type} {f g : α → β} {L : List α} (h : ∀ a ∈ L, f a = g a) : L.map f = L.map g := List.map_congr_left h
theorem allT_sum : ∀ (n : Nat) (zs : List Nat), zs.length ≤ n → ((allT n zs).map B.num).sum = facN zs.length
  | 0, zs, h => by
    have : zs = [] := List.length_eq_zero_iff.mp (by omega)
    subst this
    rfl
  | n + 1, zs, h => by
    unfold allT
    by_cases hz : zs = []
    · subst hz
      rw [if_pos rfl]
      rfl
    · rw [if_neg hz, sum_flatMap]
      have pos : 0 < zs.length := List.length_pos_iff.mpr hz
      have each : ∀ k ∈ List.range zs.length, (((allT n (zs.take k)).flatMap fun l => (allT n (zs.drop (k + 1))).map fun r => B.node l (zs.getD k 0) r).map B.num).sum = facN (zs.length - 1) := fun k hk => by
        have hk := List.mem_range.mp hk
        have lt : (zs.take k).length = k := by rw [List.length_take]; omega
        have ld : (zs.drop (k + 1)).length = zs.length - 1 - k := by rw [List.length_drop]; omega
        rw [sum_flatMap]
        have i1 := allT_sum n (zs.take k) (by omega)
        have i2 := allT_sum n (zs.drop (k + 1)) (by omega)
        have inner : ∀ l ∈ allT n (zs.take k), (((allT n (zs.drop (k + 1))).map fun r => B.node l (zs.getD k 0) r).map B.num).sum = cho (zs.length - 1) k * facN (zs.length - 1 - k) * l.num := fun l hl => by
          rw [List.map_map]
          have e : ∀ r ∈ allT n (zs.drop (k + 1)), (B.num ∘ fun r => B.node l (zs.getD k 0) r) r = (cho (zs.length - 1) k * l.num) * r.num := fun r hr => by
            show l.num * r.num * cho (l.size + r.size) l.size = _
            rw [allT_size (by omega) hl, allT_size (by omega) hr, lt, ld, show k + (zs.length - 1 - k) = zs.length - 1 by omega]
            simp only [Nat.mul_assoc, Nat.mul_left_comm, Nat.mul_comm]
          rw [map_congr_mem e, sum_const_mul, i2, ld]
          simp only [Nat.mul_assoc, Nat.mul_left_comm, Nat.mul_comm]
        rw [map_congr_mem inner, sum_const_mul, i1, lt]
        have c := cho_fac _ k (zs.length - 1 - k) rfl
        rw [show k + (zs.length - 1 - k) = zs.length - 1 by omega] at c
        rw [← c]
        simp only [Nat.mul_assoc, Nat.mul_left_comm, Nat.mul_comm]
      rw [map_congr_mem each, sum_range_const]
      obtain ⟨m, hm⟩ : ∃ m, zs.length = m + 1 := ⟨zs.length - 1, by omega⟩
      rw [hm]
      show (m + 1) * facN m = facN m * (m + 1)
      exact Nat.mul_comm _ _
theorem allT_few : ∀ (n : Nat) (zs : List Nat), zs.length ≤ n → (allT n zs).length ≤ facN zs.length := fun n zs h => by
  rw [← allT_sum n zs h]
  have : ∀ L : List B, L.length ≤ (L.map B.num).sum := by
    intro L
    induction L with
    | nil => exact Nat.le_refl _
    | cons t L ih =>
      rw [List.length_cons, List.map_cons, List.sum_cons]
      have : 0 < t.num := num_pos t
      omega
  exact this _
theorem flat_take_le {α β : Type} (f : α → List β) (L : List α) (i : Nat) : ((L.take i).flatMap f).length ≤ (L.flatMap f).length := by
  conv => rhs; rw [← List.take_append_drop i L]
  rw [List.flatMap_append, List.length_append]
  omega
theorem take_range {n i : Nat} (h : i ≤ n) : (List.range n).take i = List.range i := by
  apply List.ext_getElem?
  intro j
  rw [List.getElem?_take]
  by_cases hj : j < i
  · rw [if_pos hj, List.getElem?_range (by omega), List.getElem?_range hj]
  · rw [if_neg hj, List.getElem?_eq_none (by rw [List.length_range]; omega)]
theorem fac6 {n : Nat} (h : n ≤ 6) : facN n ≤ 720 := Nat.le_trans (facN_mono h) (by decide)
def spAllT (N : Nat) : Sp := fun vs H Q _ => ∃ zs : List Nat, vs = [.str (tx zs)] ∧ zs.length < N ∧ zs.length ≤ 6 ∧ ∀ (p : Addr) (us : List V) (H' : Hp), Same H H' → H p = none → H' p = some (.lst us) → TsAt H' us (allT (N - 1) zs) → Q (.ref p) H'
section
variable {P : Program} {w : World} {K : PySem.W.Frag} {mg : Str → Option Value} {base : Heap} {f : Addr} {fd : FuncData}
theorem ok_allT (F : Fun K "_law_search_trees" "_law_search_trees" s__law_search_trees f fd) (M : Mgs mg) (b : Binds K fd ["_law_letters"] []) (g : mg "_law_search_trees" = some (.ref f)) : ∀ N : Nat, FnOk P w K mg base CX0 N f fd ["_law_letters"] (spAllT N)
  | 0 => by
    have no : ∀ vs H Q E, ¬ spAllT 0 vs H Q E := fun vs H Q E h => by
      obtain ⟨zs, _, h1, _⟩ := h
      omega
    exact ⟨fun vs H Q E h => absurd h (no vs H Q E), fun A outer s H args us vs Q E _ _ _ _ h => absurd h (no vs H Q E)⟩
  | N + 1 => by
    have Dself : Df P w K mg base N "_law_search_trees" ["_law_letters"] (spAllT N) := ⟨f, fd, ok_allT F M b g N, b, F.kp, g⟩
    refine F.ok sc__law_search_trees (fun vs H Q E h => ?_) (fun cdv A outer s H vs Q E hr h => ?_)
    · obtain ⟨zs, rfl, _⟩ := h
      rfl
    obtain ⟨zs, rfl, hn, h6, q⟩ := h
    refine ⟨_, (pss_cons (ps_if (pt_cmpR op_eq (pv 0) pe_str (nomark _))
      (pss_one (ps_ret (pe_lst (pa_cons pe_non pa_nil)))) pss_nil)
    (pss_cons (ps_set (i := 1) sc__law_search_trees.nd rfl (.inl rfl) (pe_lst pa_nil))
    (pss_cons (ps_for PassesOwn.never rfl (pi_range1 rfl M.range (pa_cons (pe_callB call_len_str rfl M.len PySem.boot_len (pa_cons (pv 0) pa_nil)) pa_nil)) (pg_name (i := 2) sc__law_search_trees.nd rfl (.inr rfl))
      (pss_cons (ps_set (i := 3) sc__law_search_trees.nd rfl (.inl rfl) (pe_call Dself.ok (hr.mono (by omega)) rfl Dself.g Dself.kp Dself.b .nil pass0 (pa_cons (pe_slice sl_str (pv 0) (po_some (pe_op op_add (pv 2) pe_int)) po_none) pa_nil)))
    (pss_one (ps_for PassesOwn.never rfl (pi_list (pe_call Dself.ok (hr.mono (by omega)) rfl Dself.g Dself.kp Dself.b .nil pass0 (pa_cons (pe_slice sl_str (pv 0) po_none (po_some (pv 2))) pa_nil))) (pg_name (i := 4) sc__law_search_trees.nd rfl (.inr rfl))
      (pss_one (ps_expr (pe_bm PySem.F.plainAttrs_list PySem.F.slot_list_extend PySem.F.type_list_extend mt_extend (pv 1) (pa_cons (pe_lc (own := [("_law_right", 5)]) (g := gName 5) (tt := tYes) rfl sc__law_search_trees.nd (pi_list (pv 3)) (blkOk_by (N := ["_law_letters", "_law_found", "_law_spot", "_law_rights", "_law_left", "_law_right"]) (sc := defScope s__law_search_trees) (by decide +kernel)) (fun _ _ _ _ _ => (pg_name (i := 5) sc__law_search_trees.nd rfl (.inl rfl))) (fun _ _ _ _ _ => pts_nil) (fun _ _ _ _ _ => (pe_tup (pa_cons (pv 4) (pa_cons (pe_ix ix_str (pv 0) (pv 2) (fun _ _ => rfl)) (pa_cons (pv 5) pa_nil)))))) pa_nil))))))))
    (pss_one (ps_ret (pv 1)))))), ?_⟩
    refine ⟨_, rfl, rfl, _, rfl, ?_⟩
    by_cases hz : zs = []
    · subst hz
      rw [show decide (V.str (tx []) = V.str (Str.ofString "")) = true from decide_eq_true (congrArg V.str str_0.symm)]
      refine iteT ⟨(by show 1 ≤ sizeLine; decide), fun p np => ?_⟩
      refine q p [.non] _ (same_new np _) np upd_same ?_
      have : allT (N + 1 - 1) [] = [.nil] := by cases N <;> rfl
      rw [this]
      exact .cons .nil .nil
    · rw [decide_eq_false (fun e => hz (tx_nil (V.str.inj e)))]
      refine iteF ?_
      have pos : 0 < zs.length := List.length_pos_iff.mpr hz
      obtain ⟨m, rfl⟩ : ∃ m, N = m + 1 := ⟨N - 1, by omega⟩
      have eT : allT (m + 1 + 1 - 1) zs = (List.range zs.length).flatMap fun k => (allT m (zs.take k)).flatMap fun l => (allT m (zs.drop (k + 1))).map fun r => B.node l (zs.getD k 0) r := by
        show allT (m + 1) zs = _
        conv => lhs; unfold allT
        rw [if_neg hz]
      have few := allT_few (m + 1) zs (by omega)
      have f6 := fac6 h6
      rw [show m + 1 + 1 - 1 = m + 1 from rfl] at eT q
      rw [eT] at few q
      generalize hFF : (fun k => (allT m (zs.take k)).flatMap fun l => (allT m (zs.drop (k + 1))).map fun r => B.node l (zs.getD k 0) r) = FF at few q
      refine ⟨(by show 0 ≤ sizeLine; decide), fun pf npf => ?_⟩
      have kf := same_new npf (.lst [])
      have ef := upd_same (H := H) (a := pf) (o := .lst [])
      generalize upd H pf (.lst []) = H0 at kf ef ⊢
      refine ⟨_, rfl, tx zs, rfl, (by rw [tx_len]; exact Nat.le_of_lt (small (by omega))), (zs.length : Int), rfl, by omega, by omega, ?_⟩
      rw [Int.toNat_natCast]
      refine for_range (lo := 0) (n := zs.length) (fun i σ H' => ∃ (o2 o3 o4 o5 : Option V) (ws : List V), σ = [some (.str (tx zs)), some (.ref pf), o2, o3, o4, o5] ∧ (∀ b o, b ≠ pf → H0 b = some o → H' b = some o) ∧ H' pf = some (.lst ws) ∧ TsAt H' ws ((List.range i).flatMap FF)) ⟨none, none, none, none, [], rfl, (fun b o _ e => e), ef, .nil⟩ (fun i σ H1 hi hp => ?_) (fun σ H1 hp => ?_)
      · obtain ⟨o2, o3, o4, o5, ws, rfl, k1, e1, t1⟩ := hp
        refine ⟨_, rfl, _, rfl, _, _, rfl, rfl, _, rfl, tx zs, rfl, (by rw [tx_len]; exact Nat.le_of_lt (small (by omega))), ?_⟩
        rw [show ((0 : Int) + (i : Int) + 1) = ((i + 1 : Nat) : Int) by omega, tx_from]
        refine ⟨zs.drop (i + 1), rfl, by rw [List.length_drop]; omega, by rw [List.length_drop]; omega, fun pr ur H2 s2 npr epr tr => ?_⟩
        refine ⟨_, rfl, _, rfl, _, rfl, tx zs, rfl, (by rw [tx_len]; exact Nat.le_of_lt (small (by omega))), ?_⟩
        rw [show ((0 : Int) + (i : Int)) = ((i : Nat) : Int) by omega, tx_to]
        refine ⟨zs.take i, rfl, by rw [List.length_take]; omega, by rw [List.length_take]; omega, fun pl ul H3 s3 npl epl tl => ?_⟩
        have tr3 := tr.same s3
        have epr3 := s3 _ _ epr
        have e3 := s3 _ _ (s2 _ _ e1)
        have t3 := (t1.same s2).same s3
        have nl : pl ≠ pf := fun z => by rw [z, s2 _ _ e1] at npl; cases npl
        have nr : pr ≠ pf := fun z => by rw [z, e1] at npr; cases npr
        have k3 : ∀ b o, b ≠ pf → H0 b = some o → H3 b = some o := fun b o hb e => s3 _ _ (s2 _ _ (k1 b o hb e))
        have FFi : FF i = (allT m (zs.take i)).flatMap fun l => (allT m (zs.drop (i + 1))).map fun r => B.node l (zs.getD i 0) r := by rw [← hFF]
        rw [show m + 1 - 1 = m from rfl] at tl tr3
        have hgi : zs[i]? = some (zs.getD i 0) := by rw [List.getD_eq_getElem?_getD, List.getElem?_eq_getElem hi]; rfl
        generalize allT m (zs.take i) = LL at tl FFi
        generalize allT m (zs.drop (i + 1)) = RR at tr3 FFi
        generalize zs.getD i 0 = c at hgi FFi
        have tot : ((List.range i).flatMap FF).length + (FF i).length ≤ 720 := by
          have h1 := flat_take_le FF (List.range zs.length) (i + 1)
          rw [take_range (by omega), List.range_succ, List.flatMap_append, List.length_append, List.flatMap_cons, List.flatMap_nil, List.append_nil] at h1
          omega
        refine ⟨pl, rfl, ⟨_, SqL.of epl⟩, ?_⟩
        refine for_list (K := K) (a := pl) (xs := ul) (fun j σ H' => ∃ (o4 o5 : Option V) (ws : List V), σ = [some (.str (tx zs)), some (.ref pf), some (.int (i : Int)), some (.ref pr), o4, o5] ∧ (∀ b o, b ≠ pf → H3 b = some o → H' b = some o) ∧ H' pf = some (.lst ws) ∧ TsAt H' ws ((List.range i).flatMap FF ++ (LL.take j).flatMap fun l => RR.map fun r => B.node l c r))
          ⟨_, _, ws, rfl, (fun b o _ e => e), e3, by rw [List.take_zero, List.flatMap_nil, List.append_nil]; exact t3⟩ (fun j σ H' _ hp => by obtain ⟨_, _, _, _, k, _⟩ := hp; exact SqL.of (k _ _ nl epl)) (fun j x σ H4 hx hp => ?_) (fun σ H4 hp => ?_)
        · obtain ⟨o4, o5, ws4, rfl, k4, e4, t4⟩ := hp
          obtain ⟨tleft, hl, hat⟩ := tl.get hx
          have hj := (List.getElem?_eq_some_iff.mp hl).1
          have kT4 : KeepT H3 H4 := fun b xs e => k4 b _ (fun z => by rw [z, e3] at e; cases e) e
          have hat4 := hat.keep kT4
          have tr4 := tr3.keep kT4
          have epr4 := k4 _ _ nr epr3
          have bound : ((List.range i).flatMap FF ++ (LL.take (j + 1)).flatMap fun l => RR.map fun r => B.node l c r).length ≤ 720 := by
            have h1 := flat_take_le (fun l => RR.map fun r => B.node l c r) LL (j + 1)
            rw [List.length_append]
            rw [FFi] at tot
            omega
          rw [take_nextG hl, List.flatMap_append, List.flatMap_cons, List.flatMap_nil, List.append_nil, ← List.append_assoc, List.length_append, List.length_map] at bound
          have l4 := t4.len
          refine ⟨_, rfl, .inl ⟨rfl, _, SqL.of e4⟩, _, rfl, pr, rfl, ⟨_, SqL.of epr4⟩, fun D nD => ?_⟩
          have jD := same_new nD (.lst [])
          refine lc_list (K := K) (a := pr) (xs := ur) (fun k H' => Same H4 H' ∧ ∃ us, H' D = some (.lst us) ∧ TsAt H' us ((RR.take k).map fun r => B.node tleft c r)) ⟨jD, [], upd_same, by rw [List.take_zero]; exact .nil⟩ (fun k H' _ hp => SqL.of (hp.1 _ _ epr4)) (fun k y H' hy hp => ?_) (fun H5 hp => ?_)
          · obtain ⟨s', us, e', ta⟩ := hp
            obtain ⟨tright, hr2, hat2⟩ := tr4.get hy
            have hk := (List.getElem?_eq_some_iff.mp hr2).1
            refine ⟨rfl, kept ?_⟩
            refine ⟨_, rfl, _, rfl, _, rfl, tx zs, (i : Int), c, rfl, rfl, (by rw [tx_len]; exact Nat.le_of_lt (small (by omega))), atI_nat (by rw [tx_cps]; exact hgi), _, rfl, (by show 3 ≤ sizeLine; decide), fun tp ntp => ?_⟩
            have j6 := same_new ntp (.tup [x, .str (ch c), y])
            have e6 := upd_same (H := H') (a := tp) (o := .tup [x, .str (ch c), y])
            have lus := ta.len
            rw [List.length_map, List.length_take] at lus
            refine ⟨us, j6 _ _ e', small1000 (by omega), fun b o e => ?_, us ++ [.ref tp], upd_same, ?_⟩
            · rw [upd_ne (ne_of_none e nD)]; exact j6 _ _ (s' _ _ e)
            · rw [take_nextG hr2, List.map_append]
              have node : BAt (upd H' tp (.tup [x, .str (ch c), y])) (.ref tp) (.node tleft c tright) := .node e6 ((hat4.same s').same j6) ((hat2.same s').same j6)
              refine ((ta.same j6).app (.cons node .nil)).keep fun b xs e => ?_
              have eD := j6 _ _ e'
              rw [upd_ne (fun z => by rw [z, eD] at e; cases e)]
              exact e
          · obtain ⟨s5, us, e5, ta⟩ := hp
            have lur := tr4.len
            rw [lur, List.take_length] at ta
            have lus := ta.len
            rw [List.length_map] at lus
            have e45 := s5 _ _ e4
            refine ⟨pf, D, _, _, rfl, rfl, e45, e5, Nat.le_of_lt (small1000 (by omega)), ?_⟩
            have kTu : KeepT H5 (upd H5 pf (.lst (ws4 ++ us))) := fun b xs e => by
              rw [upd_ne (fun z => by rw [z, e45] at e; cases e)]
              exact e
            refine ⟨_, _, ws4 ++ us, rfl, fun b o hb e => ?_, upd_same, ?_⟩
            · rw [upd_ne hb]; exact s5 _ _ (k4 b o hb e)
            · rw [take_nextG hl, List.flatMap_append, List.flatMap_cons, List.flatMap_nil, List.append_nil, ← List.append_assoc]
              exact ((t4.same s5).app ta).keep kTu
        · obtain ⟨o4, o5, ws4, rfl, k4, e4, t4⟩ := hp
          rw [tl.len, List.take_length, ← FFi] at t4
          refine ⟨_, _, _, _, ws4, rfl, fun b o hb e => k4 b o hb (k3 b o hb e), e4, ?_⟩
          rw [List.range_succ, List.flatMap_append, List.flatMap_cons, List.flatMap_nil, List.append_nil]
          exact t4
      · obtain ⟨o2, o3, o4, o5, ws, rfl, k1, e1, t1⟩ := hp
        exact ⟨_, rfl, q pf ws H1 (fun b o e => k1 b o (ne_of_none e npf) (kf _ _ e)) npf e1 t1⟩
end
/-! ### the first two letters of an order -/
def B.root : B → Nat
  | .nil => 0
  | .node _ x _ => x
theorem idx_one {ts : List B} {w : List Nat} {k : Nat} (h : Idx ts w k) : ∀ {k' : Nat}, FG ts → Idx ts w k' → k = k' := by
  induction h with
  | nil => intro k' _ h'; cases h'; rfl
  | cons hs _ ih =>
    intro k' g h'
    cases h' with
    | cons hs' h' =>
      have e := step_inj g hs hs'
      subst e
      rw [ih (g.step hs).1 h']
theorem num_first {l r : B} {x i : Nat} {w : List Nat} (h : Num (ft (.node l x r)) i w) : ∃ w', w = x :: w' ∧ Num (kids l r) i w' := by
  rw [ft_node] at h
  cases h with
  | @cons _ c rest w' _ hs h1 h2 h3 =>
    rw [steps_one] at hs
    cases List.mem_singleton.mp hs
    have e : below [.node l x r] x = 0 := by
      unfold below
      rw [steps_one, List.filter_cons, if_neg (by simp)]
      rfl
    rw [e, Nat.sub_zero] at h3
    exact ⟨w', rfl, h3⟩
theorem tog_kids (l r : B) (x : Nat) : togR (kids l r) = (B.node l x r).num := by
  have h := tog_sum (ts := [.node l x r]) (fun t ht => by rw [List.mem_singleton.mp ht]; intro z; cases z) (by simp)
  rw [steps_one] at h
  rw [← togR_ft, ft_node, ← h]
  simp
/-- how many orders take the left side's root next -/
def leftsOf (l r : B) (x : Nat) : Nat := (B.node l x r).num * l.size / (l.size + r.size)
theorem lefts_le (l r : B) (x : Nat) : leftsOf l r x ≤ (B.node l x r).num := by
  unfold leftsOf
  by_cases h : l.size + r.size = 0
  · rw [h, Nat.div_zero]; exact Nat.zero_le _
  · refine Nat.div_le_of_le_mul ?_
    rw [Nat.mul_comm (l.size + r.size)]
    exact Nat.mul_le_mul_left _ (by omega)
theorem size_pos {t : B} (h : t ≠ .nil) : 0 < t.size := by
  cases t with
  | nil => exact absurd rfl h
  | node l x r => show 0 < l.size + 1 + r.size; omega
theorem lefts_both {l r : B} (x : Nat) (hl : l ≠ .nil) (hr : r ≠ .nil) : leftsOf l r x = togR (stepAt [l, r] 0).2 := by
  have nn : ∀ t ∈ [l, r], t ≠ B.nil := fun t ht => by
    rcases List.mem_cons.mp ht with rfl | ht
    · exact hl
    · rw [List.mem_singleton.mp ht]; exact hr
  have h := stepAt_tog (ts := [l, r]) nn (i := 0) (by show 0 < 2; omega)
  have t := togR_hooks [l, r]
  have len : (hooksL [l, r]).length = l.size + r.size := by
    rw [hooksL_cons, List.length_append, B.hooks_len, hooksL_cons, List.length_append, B.hooks_len]
    show l.size + (r.size + 0) = _
    omega
  have hk : kids l r = [l, r] := by
    unfold kids
    rw [List.filter_cons, if_pos (decide_eq_true hl), List.filter_cons, if_pos (decide_eq_true hr)]
    rfl
  have e : togR [l, r] = (B.node l x r).num := by rw [← hk]; exact tog_kids l r x
  have pos : 0 < l.size + r.size := by have := size_pos hl; omega
  obtain ⟨n, hn⟩ : ∃ n, l.size + r.size = n + 1 := ⟨l.size + r.size - 1, by omega⟩
  rw [len, hn] at h t
  have h : togR (stepAt [l, r] 0).2 * prodN (hooksL [l, r]) = facN n * l.size := h
  have t : togR [l, r] * prodN (hooksL [l, r]) = facN n * (n + 1) := t
  have key : (B.node l x r).num * l.size = togR (stepAt [l, r] 0).2 * (n + 1) := by
    refine Nat.eq_of_mul_eq_mul_right (prodL_pos [l, r]) ?_
    rw [← e]
    calc togR [l, r] * l.size * prodN (hooksL [l, r]) = (togR [l, r] * prodN (hooksL [l, r])) * l.size := by simp only [Nat.mul_assoc, Nat.mul_left_comm, Nat.mul_comm]
      _ = facN n * (n + 1) * l.size := by rw [t]
      _ = (facN n * l.size) * (n + 1) := by simp only [Nat.mul_assoc, Nat.mul_left_comm, Nat.mul_comm]
      _ = togR (stepAt [l, r] 0).2 * prodN (hooksL [l, r]) * (n + 1) := by rw [h]
      _ = togR (stepAt [l, r] 0).2 * (n + 1) * prodN (hooksL [l, r]) := by simp only [Nat.mul_assoc, Nat.mul_left_comm, Nat.mul_comm]
  unfold leftsOf
  rw [key, hn]
  exact Nat.mul_div_cancel _ (Nat.succ_pos n)
theorem num_second {l r : B} {x i : Nat} {w : List Nat} (b : (B.node l x r).bst) (h : Num (kids l r) i w) (hs : 0 < l.size + r.size) : ∃ c w', w = c :: w' ∧ (i < leftsOf l r x → l ≠ .nil ∧ c = l.root) ∧ (leftsOf l r x ≤ i → i < (B.node l x r).num → r ≠ .nil ∧ c = r.root) := by
  by_cases hl : l = .nil
  · subst hl
    cases r with
    | nil => exact absurd hs (by show ¬ 0 < 0 + 0; omega)
    | node rl y rr =>
      have e : kids .nil (.node rl y rr) = [.node rl y rr] := rfl
      rw [e] at h
      cases h with
      | @cons _ c rest w' _ hs' h1 h2 h3 =>
        rw [steps_one] at hs'
        cases List.mem_singleton.mp hs'
        have e0 : leftsOf .nil (.node rl y rr) x = 0 := by
          unfold leftsOf
          show _ * 0 / _ = 0
          rw [Nat.mul_zero, Nat.zero_div]
        exact ⟨y, w', rfl, fun z => (by omega), fun _ _ => ⟨(fun z => by cases z), rfl⟩⟩
  · by_cases hr : r = .nil
    · subst hr
      cases l with
      | nil => exact absurd rfl hl
      | node ll y lr =>
        have e : kids (.node ll y lr) .nil = [.node ll y lr] := rfl
        rw [e] at h
        cases h with
        | @cons _ c rest w' _ hs' h1 h2 h3 =>
          rw [steps_one] at hs'
          cases List.mem_singleton.mp hs'
          have e0 : leftsOf (.node ll y lr) .nil x = (B.node (.node ll y lr) x .nil).num := by
            unfold leftsOf
            rw [show (B.node ll y lr).size + B.nil.size = (B.node ll y lr).size from rfl]
            exact Nat.mul_div_cancel _ (by show 0 < ll.size + 1 + lr.size; omega)
          exact ⟨y, w', rfl, fun _ => ⟨(fun z => by cases z), rfl⟩, fun z1 z2 => (by omega)⟩
    · have lf := lefts_both x hl hr
      obtain ⟨ll, yl, lr, rfl⟩ : ∃ a b c, l = .node a b c := by
        cases l with
        | nil => exact absurd rfl hl
        | node a1 y1 c1 => exact ⟨a1, y1, c1, rfl⟩
      obtain ⟨rl, yr, rr, rfl⟩ : ∃ a b c, r = .node a b c := by
        cases r with
        | nil => exact absurd rfl hr
        | node a1 y1 c1 => exact ⟨a1, y1, c1, rfl⟩
      have e : kids (.node ll yl lr) (.node rl yr rr) = [.node ll yl lr, .node rl yr rr] := rfl
      have st : stepsL [B.node ll yl lr, .node rl yr rr] = [stepAt [B.node ll yl lr, .node rl yr rr] 0, stepAt [B.node ll yl lr, .node rl yr rr] 1] := rfl
      have s0 : (stepAt [B.node ll yl lr, .node rl yr rr] 0).1 = yl := rfl
      have s1 : (stepAt [B.node ll yl lr, .node rl yr rr] 1).1 = yr := rfl
      have lt : yl < yr := by
        have h1 := b.1 yl List.mem_cons_self
        have h2 := b.2.1 yr List.mem_cons_self
        omega
      have b0 : below [B.node ll yl lr, .node rl yr rr] yl = 0 := by
        unfold below
        rw [st, List.filter_cons, if_neg (by rw [s0]; simp), List.filter_cons, if_neg (by rw [s1]; simp; omega)]
        rfl
      have b1 : below [B.node ll yl lr, .node rl yr rr] yr = togR (stepAt [B.node ll yl lr, .node rl yr rr] 0).2 := by
        unfold below
        rw [st, List.filter_cons, if_pos (by rw [s0]; exact decide_eq_true lt), List.filter_cons, if_neg (by rw [s1]; simp)]
        show _ + 0 = _
        rfl
      rw [e] at h
      cases h with
      | @cons _ c rest w' _ hs' h1 h2 h3 =>
        rw [st] at hs'
        rcases List.mem_cons.mp hs' with hs' | hs'
        · have ec : c = yl := congrArg Prod.fst hs'
          have er : rest = (stepAt [B.node ll yl lr, .node rl yr rr] 0).2 := congrArg Prod.snd hs'
          subst ec
          rw [b0, Nat.sub_zero, er] at h2
          exact ⟨c, w', rfl, fun _ => ⟨(fun z => by cases z), rfl⟩, fun z1 _ => (by rw [lf] at z1; omega)⟩
        · have ec : c = yr := congrArg Prod.fst (List.mem_singleton.mp hs')
          subst ec
          rw [b1] at h1
          exact ⟨c, w', rfl, fun z => (by rw [lf] at z; omega), fun _ _ => ⟨(fun z => by cases z), rfl⟩⟩
/-! ### _law_shared_right -/
theorem ch_ok {c : Nat} (h : 97 ≤ c ∧ c ≤ 122) : (PyData.str (ch c)).canLay0 = true := by
  have : ∀ c : Nat, c < 123 → 97 ≤ c → (PyData.str (ch c)).canLay0 = true := by decide +kernel
  exact this c (by omega) h.1
theorem shaped_two {c : Nat} (h : 97 ≤ c ∧ c ≤ 122) : SeqAt.shaped (.list [.str (ch c), .str (ch c)]) = true := by
  unfold SeqAt.shaped
  have d : (PyData.list [.str (ch c), .str (ch c)]).depth = 1 := by simp only [PyData.depth, PyData.depthAll]; rfl
  have k : (PyData.list [.str (ch c), .str (ch c)]).canLay0 = ((PyData.str (ch c)).canLay0 && ((PyData.str (ch c)).canLay0 && true)) := by simp only [PyData.canLay0, PyData.canLayAll0]
  rw [d, k, ch_ok h]
  rfl
def spShared (T : List (Addr × Str)) : Sp := fun vs H Q _ => ∃ (v : V) (t : B), vs = [v] ∧ BAt H v t ∧ t ≠ .nil ∧ t.bst ∧ t.pre.Nodup ∧ (∀ c ∈ t.pre, 97 ≤ c ∧ c ≤ 122) ∧ t.size ≤ 12 ∧ LamX.Tabs T H ∧ ∀ H', LamX.ExtN H H' → LamX.Tabs T H' → Q (.bl true) H'
section
variable {P : Program} {w : World} {K : PySem.W.Frag} {mg : Str → Option Value} {base : Heap} {f : Addr} {fd : FuncData}
theorem ok_shared {T : List (Addr × Str)} (F : Fun K "_law_shared_right" "_law_shared_right" s__law_shared_right f fd) (M : Mgs mg) (Dcount_orders : Df P w K mg base 22 "count_orders" ["tree"] spCountO)
    (Dsize_of : Df P w K mg base 60 "size_of" ["tree"] (fun vs H Q _ => ∃ (v : V) (t : B), vs = [v] ∧ BAt H v t ∧ t.size < 60 ∧ Q (.int (t.size : Int)) H))
    (Dorder_at : Df P w K mg base 42 "order_at" ["tree", "index"] (spOrderAt T)) (Dorder_index : Df P w K mg base 61 "order_index" ["tree", "value"] (spOrderIdx T)) : FnOk P w K mg base CX0 62 f fd ["_law_tree"] (spShared T) := by
  refine F.ok sc__law_shared_right (fun vs H Q E h => ?_) (fun cdv A outer s H vs Q E hr h => ?_)
  · obtain ⟨v, t, rfl, _⟩ := h
    rfl
  obtain ⟨v, t, rfl, hv, hn, bst, nd, ltb, hz, hT, q⟩ := h
  refine ⟨_, (pss_cons (ps_par (i := 1) (j := 2) (by rfl) sc__law_shared_right.nd rfl rfl (by decide) rfl rfl (pa_cons (pe_call Dcount_orders.ok (hr.mono (by omega)) rfl Dcount_orders.g Dcount_orders.kp Dcount_orders.b .nil pass0 (pa_cons (pv 0) pa_nil)) (pa_cons (pe_call Dsize_of.ok (hr.mono (by omega)) rfl Dsize_of.g Dsize_of.kp Dsize_of.b .nil pass0 (pa_cons (pv 0) pa_nil)) pa_nil)) (by rfl))
    (pss_cons (ps_if (PW.pt (pw_or (pt_cmpR op_ne (pe_ix ix_str (pe_call Dorder_at.ok (hr.mono (by omega)) rfl Dorder_at.g Dorder_at.kp Dorder_at.b .nil pass0 (pa_cons (pv 0) (pa_cons pe_int pa_nil))) pe_int (fun _ _ => rfl)) (pe_ix ix_tup (pv 0) pe_int (fun _ _ => rfl)) (nomark _)) (pw_or1 (pt_cmpR op_ne (pe_ix ix_str (pe_call Dorder_at.ok (hr.mono (by omega)) rfl Dorder_at.g Dorder_at.kp Dorder_at.b .nil pass0 (pa_cons (pv 0) (pa_cons (pe_op op_sub (pv 1) pe_int) pa_nil))) pe_int (fun _ _ => rfl)) (pe_ix ix_tup (pv 0) pe_int (fun _ _ => rfl)) (nomark _)))))
      (pss_one (ps_ret pe_bl)) pss_nil)
    (pss_cons (ps_if (pt_cmpR op_eq (pv 2) pe_int (nomark _))
      (pss_one (ps_ret (pe_cmpR op_eq (pv 1) pe_int (nomark _)))) pss_nil)
    (pss_cons (ps_set (i := 3) sc__law_shared_right.nd rfl (.inl rfl) (pe_op op_fdiv (pe_op op_mul (pv 1) (pe_call Dsize_of.ok (hr.mono (by omega)) rfl Dsize_of.g Dsize_of.kp Dsize_of.b .nil pass0 (pa_cons (pe_ix ix_tup (pv 0) pe_int (fun _ _ => rfl)) pa_nil))) (pe_op op_sub (pv 2) pe_int)))
    (pss_cons (ps_if (PW.pt (pw_and (pt_cmpR op_gt (pv 3) pe_int (nomark _)) (pw_and1 (pt_cmpR (op_neD hr.units) (pe_lc (own := [("_law_k", 4)]) (g := gName 4) (tt := tYes) rfl sc__law_shared_right.nd (pi_tup (pe_tup (pa_cons pe_int (pa_cons (pe_op op_sub (pv 3) pe_int) pa_nil)))) (blkOk_by (N := ["_law_tree", "_law_many", "_law_size", "_law_lefts", "_law_k"]) (sc := defScope s__law_shared_right) (by decide +kernel)) (fun _ _ _ _ _ => (pg_name (i := 4) sc__law_shared_right.nd rfl (.inl rfl))) (fun _ _ _ _ _ => pts_nil) (fun _ _ _ _ _ => (pe_ix ix_str (pe_call Dorder_at.ok (hr.mono (by omega)) rfl Dorder_at.g Dorder_at.kp Dorder_at.b .nil pass0 (pa_cons (pv 0) (pa_cons (pv 4) pa_nil))) pe_int (fun _ _ => rfl)))) (pe_op op_rep (pe_lst (pa_cons (pe_ix ix_tup (pe_ix ix_tup (pv 0) pe_int (fun _ _ => rfl)) pe_int (fun _ _ => rfl)) pa_nil)) pe_int) (nomark _)))))
      (pss_one (ps_ret pe_bl)) pss_nil)
    (pss_cons (ps_if (PW.pt (pw_and (pt_cmpR op_lt (pv 3) (pv 1) (nomark _)) (pw_and1 (pt_cmpR (op_neD hr.units) (pe_lc (own := [("_law_k", 4)]) (g := gName 4) (tt := tYes) rfl sc__law_shared_right.nd (pi_tup (pe_tup (pa_cons (pv 3) (pa_cons (pe_op op_sub (pv 1) pe_int) pa_nil)))) (blkOk_by (N := ["_law_tree", "_law_many", "_law_size", "_law_lefts", "_law_k"]) (sc := defScope s__law_shared_right) (by decide +kernel)) (fun _ _ _ _ _ => (pg_name (i := 4) sc__law_shared_right.nd rfl (.inl rfl))) (fun _ _ _ _ _ => pts_nil) (fun _ _ _ _ _ => (pe_ix ix_str (pe_call Dorder_at.ok (hr.mono (by omega)) rfl Dorder_at.g Dorder_at.kp Dorder_at.b .nil pass0 (pa_cons (pv 0) (pa_cons (pv 4) pa_nil))) pe_int (fun _ _ => rfl)))) (pe_op op_rep (pe_lst (pa_cons (pe_ix ix_tup (pe_ix ix_tup (pv 0) pe_int (fun _ _ => rfl)) pe_int (fun _ _ => rfl)) pa_nil)) pe_int) (nomark _)))))
      (pss_one (ps_ret pe_bl)) pss_nil)
    (pss_one (ps_ret (pe_cmpR op_eq (pe_call Dorder_index.ok (hr.mono (by omega)) rfl Dorder_index.g Dorder_index.kp Dorder_index.b .nil pass0 (pa_cons (pv 0) (pa_cons (pe_call Dorder_at.ok (hr.mono (by omega)) rfl Dorder_at.g Dorder_at.kp Dorder_at.b .nil pass0 (pa_cons (pv 0) (pa_cons (pe_callB (call_max2 rfl) rfl M.max (by decide +kernel) (pa_cons pe_int (pa_cons (pe_op op_sub (pv 3) pe_int) pa_nil))) pa_nil))) pa_nil))) (pe_callB (call_max2 rfl) rfl M.max (by decide +kernel) (pa_cons pe_int (pa_cons (pe_op op_sub (pv 3) pe_int) pa_nil))) (nomark _)))))))))), ?_⟩
  rcases hv.inv with ⟨_, e⟩ | ⟨a, l, r, x, tl, tr, rfl, e, ea, hl, hr'⟩
  · exact absurd e hn
  have np := num_pos t
  have nlt := num_lt hz
  have fg := ft_fg nd
  refine ⟨_, rfl, _, t, rfl, hv, by omega, fun H1 s1 => ?_⟩
  have hv1 := hv.same s1
  have T1 := hT.ext s1
  refine ⟨_, rfl, _, t, rfl, hv1, by omega, _, _, rfl, ?_⟩
  refine ⟨_, rfl, _, t, 0, rfl, hv1, hn, nd, by omega, np, T1, fun w1 H2 x2 T2 nw1 wl1 => ?_⟩
  have hv2 := hv1.keep (extN_keepT x2)
  have ea2 := extN_keepT x2 _ _ (s1 _ _ ea)
  obtain ⟨w1', rfl, nk1⟩ := num_first (by rw [e] at nw1; exact nw1)
  refine ⟨tx (x :: w1'), 0, x, rfl, rfl, (by rw [tx_len]; exact Nat.le_of_lt (small (by omega))), atI_nat (j := 0) rfl, _, rfl, a, _, _, _, rfl, rfl, SqT.of ea2, rfl, rfl, _, rfl, iteNS rfl ?_⟩
  refine ⟨_, rfl, _, rfl, _, _, rfl, rfl, _, t, t.num - 1, congrArg (fun z : Int => [V.ref a, V.int z]) (show (t.num : Int) - 1 = ((t.num - 1 : Nat) : Int) by omega), hv2, hn, nd, by omega, by omega, T2, fun w2 H3 x3 T3 nw2 wl2 => ?_⟩
  have x13 := (same_extN s1).trans (x2.trans x3)
  have kT3 := extN_keepT x13
  have hv3 := hv.keep kT3
  have hl3 := hl.keep kT3
  have hr3 := hr'.keep kT3
  have ea3 := kT3 _ _ ea
  obtain ⟨w2', rfl, nk2⟩ := num_first (by rw [e] at nw2; exact nw2)
  refine ⟨tx (x :: w2'), 0, x, rfl, rfl, (by rw [tx_len]; exact Nat.le_of_lt (small (by omega))), atI_nat (j := 0) rfl, _, rfl, a, _, _, _, rfl, rfl, SqT.of ea3, rfl, rfl, _, rfl, iteNS rfl ?_⟩
  refine ⟨_, rfl, rfl, _, rfl, ?_⟩
  have sz : t.size = tl.size + 1 + tr.size := by rw [e]; rfl
  by_cases h1 : t.size = 1
  · rw [decide_eq_true (congrArg V.int (show ((t.size : Nat) : Int) = 1 by omega))]
    refine iteT ⟨_, rfl, rfl, ?_⟩
    have one : t.num = 1 := by
      have z1 : tl.size = 0 := by omega
      have z2 : tr.size = 0 := by omega
      have : t.num ≤ facN t.size := t.num_le
      rw [h1] at this
      have : t.num ≤ 1 := this
      omega
    rw [decide_eq_true (congrArg V.int (show ((t.num : Nat) : Int) = 1 by omega))]
    exact q H3 x13 T3
  rw [decide_eq_false (fun z => h1 (by have := V.int.inj z; omega))]
  refine iteF ?_
  have hL : leftsOf tl tr x = t.num * tl.size / (tl.size + tr.size) := by unfold leftsOf; rw [← e]
  have hLe : leftsOf tl tr x ≤ t.num := by rw [e]; exact lefts_le tl tr x
  refine ⟨_, rfl, _, rfl, a, _, _, _, rfl, rfl, SqT.of ea3, rfl, l, tl, rfl, hl3, by omega, _, _, rfl, rfl, .inl ⟨by omega, by omega⟩, _, rfl, _, _, rfl, rfl, _, _, rfl, rfl, ⟨by omega, by omega⟩, ?_⟩
  have eL : ((t.num : Int) * (tl.size : Int)) / ((t.size : Int) - 1) = ((leftsOf tl tr x : Nat) : Int) := by
    rw [hL, show ((t.size : Int) - 1) = ((tl.size + tr.size : Nat) : Int) by omega, ← Int.natCast_mul]
    exact (Int.natCast_ediv _ _).symm
  generalize hv3' : (fun i j : Int => V.int (i / j)) ((t.num : Int) * (tl.size : Int)) ((t.size : Int) - 1) = z3
  obtain rfl : z3 = vn (leftsOf tl tr x) := hv3'.symm.trans (congrArg V.int eL)
  have bst' := bst
  rw [e] at bst'
  -- an order's second letter
  have second : ∀ (i : Nat) (w : List Nat), Num (ft t) i w → ∃ c w', w = x :: c :: w' ∧ (i < leftsOf tl tr x → tl ≠ .nil ∧ c = tl.root) ∧ (leftsOf tl tr x ≤ i → i < t.num → tr ≠ .nil ∧ c = tr.root) := fun i w h => by
    rw [e] at h
    obtain ⟨w', rfl, h'⟩ := num_first h
    obtain ⟨c, w'', rfl, g1, g2⟩ := num_second (x := x) bst' h' (by omega)
    exact ⟨c, w'', rfl, g1, by rw [e]; exact g2⟩
  refine ⟨_, rfl, _, _, rfl, rfl, _, rfl, ?_⟩
  by_cases h0 : 0 < leftsOf tl tr x
  · rw [decide_eq_true (show (0 : Int) < ((leftsOf tl tr x : Nat) : Int) by omega)]
    refine iteT ?_
    have nside : tl ≠ .nil := fun z => by rw [hL, z, show B.nil.size = 0 from rfl, Nat.mul_zero, Nat.zero_div] at h0; omega
    obtain ⟨b, l1, r1, y1, u1, u2, ev1, et1, eb0⟩ : ∃ (b : Addr) (l1 r1 : V) (y1 : Nat) (u1 u2 : B), l = .ref b ∧ tl = .node u1 y1 u2 ∧ H b = some (.tup [l1, .str (ch y1), r1]) := by
      rcases hl.inv with ⟨_, z⟩ | ⟨b, l1, r1, y1, u1, u2, z1, z2, z3, _⟩
      · exact absurd z nside
      · exact ⟨b, l1, r1, y1, u1, u2, z1, z2, z3⟩
    have rt : tl.root = y1 := by rw [et1]; rfl
    have each : ∀ (j : Nat) (y : V), [V.int 0, (fun i j : Int => V.int (i - j)) ((leftsOf tl tr x : Nat) : Int) 1][j]? = some y → ∃ kk : Nat, y = vn kk ∧ kk < t.num ∧ ∀ w, Num (ft t) kk w → ∃ w', w = x :: y1 :: w' := fun j y h => by
      match j, h with
      | 0, h => cases h; exact ⟨0, rfl, np, fun w hw => by obtain ⟨c, w', e1, g, _⟩ := second 0 w hw; obtain ⟨_, rfl⟩ := g h0; exact ⟨w', by rw [e1, rt]⟩⟩
      | 1, h => cases h; exact ⟨leftsOf tl tr x - 1, congrArg V.int (show ((leftsOf tl tr x : Nat) : Int) - 1 = ((leftsOf tl tr x - 1 : Nat) : Int) by omega), by omega, fun w hw => by obtain ⟨c, w', e1, g, _⟩ := second _ w hw; obtain ⟨_, rfl⟩ := g (by omega); exact ⟨w', by rw [e1, rt]⟩⟩
    refine ⟨_, rfl, _, _, rfl, rfl, (by show 2 ≤ sizeLine; decide), fun tp ntp => ⟨tp, rfl, ⟨_, SqT.of upd_same⟩, fun D nD => ?_⟩⟩
    have j1 := same_new ntp (.tup [V.int 0, (fun i j : Int => V.int (i - j)) ((leftsOf tl tr x : Nat) : Int) 1])
    have etp := upd_same (H := H3) (a := tp) (o := .tup [V.int 0, (fun i j : Int => V.int (i - j)) ((leftsOf tl tr x : Nat) : Int) 1])
    have xd := x13.trans (same_extN j1)
    have Td := T3.ext j1
    generalize upd H3 tp (.tup [V.int 0, (fun i j : Int => V.int (i - j)) ((leftsOf tl tr x : Nat) : Int) 1]) = Hd at j1 etp xd Td nD ⊢
    have jD := same_new nD (.lst [])
    refine lc_it (walk_tup (K := K) (a := tp) (xs := [V.int 0, (fun i j : Int => V.int (i - j)) ((leftsOf tl tr x : Nat) : Int) 1])) (fun j H' => LamX.ExtN Hd H' ∧ LamX.Tabs T H' ∧ H' D = some (.lst (List.replicate j (V.str (ch y1))))) ⟨same_extN jD, Td.ext jD, upd_same⟩ (fun j H' _ hp => SqT.of (extN_keepT hp.1 _ _ etp)) (fun j y H' H'' hj hp hy => ?_) (fun H4 hp => ?_)
    · obtain ⟨x', T', e'⟩ := hp
      obtain ⟨rfl, hy⟩ := hy
      obtain ⟨kk, rfl, lt, sec⟩ := each j y hy
      have hv' := hv.keep (extN_keepT (xd.trans x'))
      refine ⟨rfl, kept ?_⟩
      refine ⟨_, rfl, _, rfl, _, t, kk, rfl, hv', hn, nd, by omega, lt, T', fun w5 H5 x5 T5 nw5 wl5 => ?_⟩
      obtain ⟨w6, rfl⟩ := sec w5 nw5
      refine ⟨tx (x :: y1 :: w6), 1, y1, rfl, rfl, (by rw [tx_len]; exact Nat.le_of_lt (small (by omega))), atI_nat (j := 1) rfl, _, x5 _ _ e' (fun ps z => by cases z), ?_, fun b o e n => ?_, ?_, ?_⟩
      · rw [List.length_replicate]; exact small1000 (by have : j < 2 := hj; omega)
      · rw [upd_ne (ne_of_none e nD)]; exact x5 _ _ (x' _ _ e n) n
      · exact tabs_but (x5 _ _ e' (fun ps z => by cases z)) (fun b o hb e => by rw [upd_ne hb]; exact e) T5
      · rw [upd_same, List.replicate_succ']
    obtain ⟨x4, T4, e4⟩ := hp
    have e4 : H4 D = some (.lst [V.str (ch y1), V.str (ch y1)]) := e4
    have xh := xd.trans x4
    have ea4 := extN_keepT xh _ _ ea
    have eb4 := extN_keepT xh _ _ eb0
    refine ⟨_, rfl, a, _, _, _, rfl, rfl, SqT.of ea4, rfl, b, _, _, _, ev1, rfl, SqT.of eb4, rfl, (by show 1 ≤ sizeLine; decide), fun pl npl => ?_⟩
    have j5 := same_new npl (.lst [V.str (ch y1)])
    refine ⟨pl, 2, _, rfl, rfl, upd_same, by decide, by decide, (by show 1 * 2 ≤ sizeLine; decide), fun p2 np2 => ?_⟩
    have j6 := same_new np2 (.lst (List.replicate (2 : Int).toNat [V.str (ch y1)]).flatten)
    have e6 := upd_same (H := upd H4 pl (.lst [V.str (ch y1)])) (a := p2) (o := .lst (List.replicate (2 : Int).toNat [V.str (ch y1)]).flatten)
    have e46 := j6 _ _ (j5 _ _ e4)
    have x6 := xh.trans (same_extN (j5.trans j6))
    have T6 := (T4.ext j5).ext j6
    generalize upd (upd H4 pl (.lst [V.str (ch y1)])) p2 (.lst (List.replicate (2 : Int).toNat [V.str (ch y1)]).flatten) = H6 at e6 e46 x6 T6 ⊢
    have e6 : H6 p2 = some (.lst [V.str (ch y1), V.str (ch y1)]) := e6
    have sh := shaped_two (ltb y1 (by rw [e]; first | exact List.mem_cons_of_mem _ (List.mem_append_left _ (by rw [et1]; exact List.mem_cons_self)) | exact List.mem_cons_of_mem _ (List.mem_append_right _ (by rw [et1]; exact List.mem_cons_self))))
    refine ⟨.list [.str (ch y1), .str (ch y1)], .list [.str (ch y1), .str (ch y1)], .lst (SqL.of e46) (.cons (.str _) (.cons (.str _) .nil)), .lst (SqL.of e6) (.cons (.str _) (.cons (.str _) .nil)), sh, sh, _, rfl, ?_⟩
    rw [SeqAt.eqv_refl _ (SeqAt.canLay_of_shaped sh)]
    refine iteF ?_
    refine ⟨_, rfl, _, rfl, _, _, rfl, rfl, _, rfl, ?_⟩
    by_cases h2 : leftsOf tl tr x < t.num
    · rw [decide_eq_true (show ((leftsOf tl tr x : Nat) : Int) < ((t.num : Nat) : Int) by omega)]
      refine iteT ?_
      have nside : tr ≠ .nil := fun z => by rw [hL, z, show B.nil.size = 0 from rfl, Nat.add_zero] at h2; have p := size_pos (t := tl) (fun q => by rw [q, z] at sz; exact h1 sz); rw [Nat.mul_div_cancel _ p] at h2; omega
      obtain ⟨b, l1, r1, y1, u1, u2, ev1, et1, eb0⟩ : ∃ (b : Addr) (l1 r1 : V) (y1 : Nat) (u1 u2 : B), r = .ref b ∧ tr = .node u1 y1 u2 ∧ H b = some (.tup [l1, .str (ch y1), r1]) := by
        rcases hr'.inv with ⟨_, z⟩ | ⟨b, l1, r1, y1, u1, u2, z1, z2, z3, _⟩
        · exact absurd z nside
        · exact ⟨b, l1, r1, y1, u1, u2, z1, z2, z3⟩
      have rt : tr.root = y1 := by rw [et1]; rfl
      have each : ∀ (j : Nat) (y : V), [vn (leftsOf tl tr x), (fun i j : Int => V.int (i - j)) ((t.num : Nat) : Int) 1][j]? = some y → ∃ kk : Nat, y = vn kk ∧ kk < t.num ∧ ∀ w, Num (ft t) kk w → ∃ w', w = x :: y1 :: w' := fun j y h => by
        match j, h with
        | 0, h => cases h; exact ⟨leftsOf tl tr x, rfl, h2, fun w hw => by obtain ⟨c, w', e1, _, g⟩ := second _ w hw; obtain ⟨_, rfl⟩ := g (Nat.le_refl _) h2; exact ⟨w', by rw [e1, rt]⟩⟩
        | 1, h => cases h; exact ⟨t.num - 1, congrArg V.int (show ((t.num : Nat) : Int) - 1 = ((t.num - 1 : Nat) : Int) by omega), by omega, fun w hw => by obtain ⟨c, w', e1, _, g⟩ := second _ w hw; obtain ⟨_, rfl⟩ := g (by omega) (by omega); exact ⟨w', by rw [e1, rt]⟩⟩
      refine ⟨_, rfl, _, rfl, _, _, rfl, rfl, (by show 2 ≤ sizeLine; decide), fun tp ntp => ⟨tp, rfl, ⟨_, SqT.of upd_same⟩, fun D nD => ?_⟩⟩
      have j1 := same_new ntp (.tup [vn (leftsOf tl tr x), (fun i j : Int => V.int (i - j)) ((t.num : Nat) : Int) 1])
      have etp := upd_same (H := H6) (a := tp) (o := .tup [vn (leftsOf tl tr x), (fun i j : Int => V.int (i - j)) ((t.num : Nat) : Int) 1])
      have xd := x6.trans (same_extN j1)
      have Td := T6.ext j1
      generalize upd H6 tp (.tup [vn (leftsOf tl tr x), (fun i j : Int => V.int (i - j)) ((t.num : Nat) : Int) 1]) = Hd at j1 etp xd Td nD ⊢
      have jD := same_new nD (.lst [])
      refine lc_it (walk_tup (K := K) (a := tp) (xs := [vn (leftsOf tl tr x), (fun i j : Int => V.int (i - j)) ((t.num : Nat) : Int) 1])) (fun j H' => LamX.ExtN Hd H' ∧ LamX.Tabs T H' ∧ H' D = some (.lst (List.replicate j (V.str (ch y1))))) ⟨same_extN jD, Td.ext jD, upd_same⟩ (fun j H' _ hp => SqT.of (extN_keepT hp.1 _ _ etp)) (fun j y H' H'' hj hp hy => ?_) (fun H4 hp => ?_)
      · obtain ⟨x', T', e'⟩ := hp
        obtain ⟨rfl, hy⟩ := hy
        obtain ⟨kk, rfl, lt, sec⟩ := each j y hy
        have hv' := hv.keep (extN_keepT (xd.trans x'))
        refine ⟨rfl, kept ?_⟩
        refine ⟨_, rfl, _, rfl, _, t, kk, rfl, hv', hn, nd, by omega, lt, T', fun w5 H5 x5 T5 nw5 wl5 => ?_⟩
        obtain ⟨w6, rfl⟩ := sec w5 nw5
        refine ⟨tx (x :: y1 :: w6), 1, y1, rfl, rfl, (by rw [tx_len]; exact Nat.le_of_lt (small (by omega))), atI_nat (j := 1) rfl, _, x5 _ _ e' (fun ps z => by cases z), ?_, fun b o e n => ?_, ?_, ?_⟩
        · rw [List.length_replicate]; exact small1000 (by have : j < 2 := hj; omega)
        · rw [upd_ne (ne_of_none e nD)]; exact x5 _ _ (x' _ _ e n) n
        · exact tabs_but (x5 _ _ e' (fun ps z => by cases z)) (fun b o hb e => by rw [upd_ne hb]; exact e) T5
        · rw [upd_same, List.replicate_succ']
      obtain ⟨x4, T4, e4⟩ := hp
      have e4 : H4 D = some (.lst [V.str (ch y1), V.str (ch y1)]) := e4
      have xh := xd.trans x4
      have ea4 := extN_keepT xh _ _ ea
      have eb4 := extN_keepT xh _ _ eb0
      refine ⟨_, rfl, a, _, _, _, rfl, rfl, SqT.of ea4, rfl, b, _, _, _, ev1, rfl, SqT.of eb4, rfl, (by show 1 ≤ sizeLine; decide), fun pl npl => ?_⟩
      have j5 := same_new npl (.lst [V.str (ch y1)])
      refine ⟨pl, 2, _, rfl, rfl, upd_same, by decide, by decide, (by show 1 * 2 ≤ sizeLine; decide), fun p2 np2 => ?_⟩
      have j6 := same_new np2 (.lst (List.replicate (2 : Int).toNat [V.str (ch y1)]).flatten)
      have e6 := upd_same (H := upd H4 pl (.lst [V.str (ch y1)])) (a := p2) (o := .lst (List.replicate (2 : Int).toNat [V.str (ch y1)]).flatten)
      have e46 := j6 _ _ (j5 _ _ e4)
      have x6 := xh.trans (same_extN (j5.trans j6))
      have T6 := (T4.ext j5).ext j6
      generalize upd (upd H4 pl (.lst [V.str (ch y1)])) p2 (.lst (List.replicate (2 : Int).toNat [V.str (ch y1)]).flatten) = H6 at e6 e46 x6 T6 ⊢
      have e6 : H6 p2 = some (.lst [V.str (ch y1), V.str (ch y1)]) := e6
      have sh := shaped_two (ltb y1 (by rw [e]; first | exact List.mem_cons_of_mem _ (List.mem_append_left _ (by rw [et1]; exact List.mem_cons_self)) | exact List.mem_cons_of_mem _ (List.mem_append_right _ (by rw [et1]; exact List.mem_cons_self))))
      refine ⟨.list [.str (ch y1), .str (ch y1)], .list [.str (ch y1), .str (ch y1)], .lst (SqL.of e46) (.cons (.str _) (.cons (.str _) .nil)), .lst (SqL.of e6) (.cons (.str _) (.cons (.str _) .nil)), sh, sh, _, rfl, ?_⟩
      rw [SeqAt.eqv_refl _ (SeqAt.canLay_of_shaped sh)]
      refine iteF ?_
      have eM : (if ((leftsOf tl tr x : Nat) : Int) - 1 > 0 then ((leftsOf tl tr x : Nat) : Int) - 1 else 0) = ((leftsOf tl tr x - 1 : Nat) : Int) := by
        split <;> omega
      have hvF := hv.keep (extN_keepT x6)
      refine ⟨_, rfl, _, rfl, _, rfl, _, _, rfl, rfl, _, _, rfl, _, t, leftsOf tl tr x - 1, congrArg (fun z : Int => [V.ref a, V.int z]) eM, hvF, hn, nd, by omega, by omega, T6, fun wF HF xF TF nwF wlF => ?_⟩
      refine ⟨_, t, wF, rfl, hvF.keep (extN_keepT xF), hn, nd, by omega, nwF.valid, TF, fun kF HG xG TG ixF => ?_⟩
      have ek : kF = leftsOf tl tr x - 1 := idx_one ixF fg (num_idx nwF fg (by rw [togR_ft]; omega))
      subst ek
      refine ⟨_, rfl, _, _, rfl, rfl, _, _, rfl, rfl, ?_⟩
      rw [decide_eq_true (congrArg V.int eM.symm)]
      exact q HG ((x6.trans xF).trans xG) TG
    · rw [decide_eq_false (show ¬ ((leftsOf tl tr x : Nat) : Int) < ((t.num : Nat) : Int) by omega)]
      refine iteF (iteF ?_)
      have eM : (if ((leftsOf tl tr x : Nat) : Int) - 1 > 0 then ((leftsOf tl tr x : Nat) : Int) - 1 else 0) = ((leftsOf tl tr x - 1 : Nat) : Int) := by
        split <;> omega
      have hvF := hv.keep (extN_keepT x6)
      refine ⟨_, rfl, _, rfl, _, rfl, _, _, rfl, rfl, _, _, rfl, _, t, leftsOf tl tr x - 1, congrArg (fun z : Int => [V.ref a, V.int z]) eM, hvF, hn, nd, by omega, by omega, T6, fun wF HF xF TF nwF wlF => ?_⟩
      refine ⟨_, t, wF, rfl, hvF.keep (extN_keepT xF), hn, nd, by omega, nwF.valid, TF, fun kF HG xG TG ixF => ?_⟩
      have ek : kF = leftsOf tl tr x - 1 := idx_one ixF fg (num_idx nwF fg (by rw [togR_ft]; omega))
      subst ek
      refine ⟨_, rfl, _, _, rfl, rfl, _, _, rfl, rfl, ?_⟩
      rw [decide_eq_true (congrArg V.int eM.symm)]
      exact q HG ((x6.trans xF).trans xG) TG
  · rw [decide_eq_false (show ¬ (0 : Int) < ((leftsOf tl tr x : Nat) : Int) by omega)]
    refine iteF (iteF ?_)
    refine ⟨_, rfl, _, rfl, _, _, rfl, rfl, _, rfl, ?_⟩
    by_cases h2 : leftsOf tl tr x < t.num
    · rw [decide_eq_true (show ((leftsOf tl tr x : Nat) : Int) < ((t.num : Nat) : Int) by omega)]
      refine iteT ?_
      have nside : tr ≠ .nil := fun z => by rw [hL, z, show B.nil.size = 0 from rfl, Nat.add_zero] at h2; have p := size_pos (t := tl) (fun q => by rw [q, z] at sz; exact h1 sz); rw [Nat.mul_div_cancel _ p] at h2; omega
      obtain ⟨b, l1, r1, y1, u1, u2, ev1, et1, eb0⟩ : ∃ (b : Addr) (l1 r1 : V) (y1 : Nat) (u1 u2 : B), r = .ref b ∧ tr = .node u1 y1 u2 ∧ H b = some (.tup [l1, .str (ch y1), r1]) := by
        rcases hr'.inv with ⟨_, z⟩ | ⟨b, l1, r1, y1, u1, u2, z1, z2, z3, _⟩
        · exact absurd z nside
        · exact ⟨b, l1, r1, y1, u1, u2, z1, z2, z3⟩
      have rt : tr.root = y1 := by rw [et1]; rfl
      have each : ∀ (j : Nat) (y : V), [vn (leftsOf tl tr x), (fun i j : Int => V.int (i - j)) ((t.num : Nat) : Int) 1][j]? = some y → ∃ kk : Nat, y = vn kk ∧ kk < t.num ∧ ∀ w, Num (ft t) kk w → ∃ w', w = x :: y1 :: w' := fun j y h => by
        match j, h with
        | 0, h => cases h; exact ⟨leftsOf tl tr x, rfl, h2, fun w hw => by obtain ⟨c, w', e1, _, g⟩ := second _ w hw; obtain ⟨_, rfl⟩ := g (Nat.le_refl _) h2; exact ⟨w', by rw [e1, rt]⟩⟩
        | 1, h => cases h; exact ⟨t.num - 1, congrArg V.int (show ((t.num : Nat) : Int) - 1 = ((t.num - 1 : Nat) : Int) by omega), by omega, fun w hw => by obtain ⟨c, w', e1, _, g⟩ := second _ w hw; obtain ⟨_, rfl⟩ := g (by omega) (by omega); exact ⟨w', by rw [e1, rt]⟩⟩
      refine ⟨_, rfl, _, rfl, _, _, rfl, rfl, (by show 2 ≤ sizeLine; decide), fun tp ntp => ⟨tp, rfl, ⟨_, SqT.of upd_same⟩, fun D nD => ?_⟩⟩
      have j1 := same_new ntp (.tup [vn (leftsOf tl tr x), (fun i j : Int => V.int (i - j)) ((t.num : Nat) : Int) 1])
      have etp := upd_same (H := H3) (a := tp) (o := .tup [vn (leftsOf tl tr x), (fun i j : Int => V.int (i - j)) ((t.num : Nat) : Int) 1])
      have xd := x13.trans (same_extN j1)
      have Td := T3.ext j1
      generalize upd H3 tp (.tup [vn (leftsOf tl tr x), (fun i j : Int => V.int (i - j)) ((t.num : Nat) : Int) 1]) = Hd at j1 etp xd Td nD ⊢
      have jD := same_new nD (.lst [])
      refine lc_it (walk_tup (K := K) (a := tp) (xs := [vn (leftsOf tl tr x), (fun i j : Int => V.int (i - j)) ((t.num : Nat) : Int) 1])) (fun j H' => LamX.ExtN Hd H' ∧ LamX.Tabs T H' ∧ H' D = some (.lst (List.replicate j (V.str (ch y1))))) ⟨same_extN jD, Td.ext jD, upd_same⟩ (fun j H' _ hp => SqT.of (extN_keepT hp.1 _ _ etp)) (fun j y H' H'' hj hp hy => ?_) (fun H4 hp => ?_)
      · obtain ⟨x', T', e'⟩ := hp
        obtain ⟨rfl, hy⟩ := hy
        obtain ⟨kk, rfl, lt, sec⟩ := each j y hy
        have hv' := hv.keep (extN_keepT (xd.trans x'))
        refine ⟨rfl, kept ?_⟩
        refine ⟨_, rfl, _, rfl, _, t, kk, rfl, hv', hn, nd, by omega, lt, T', fun w5 H5 x5 T5 nw5 wl5 => ?_⟩
        obtain ⟨w6, rfl⟩ := sec w5 nw5
        refine ⟨tx (x :: y1 :: w6), 1, y1, rfl, rfl, (by rw [tx_len]; exact Nat.le_of_lt (small (by omega))), atI_nat (j := 1) rfl, _, x5 _ _ e' (fun ps z => by cases z), ?_, fun b o e n => ?_, ?_, ?_⟩
        · rw [List.length_replicate]; exact small1000 (by have : j < 2 := hj; omega)
        · rw [upd_ne (ne_of_none e nD)]; exact x5 _ _ (x' _ _ e n) n
        · exact tabs_but (x5 _ _ e' (fun ps z => by cases z)) (fun b o hb e => by rw [upd_ne hb]; exact e) T5
        · rw [upd_same, List.replicate_succ']
      obtain ⟨x4, T4, e4⟩ := hp
      have e4 : H4 D = some (.lst [V.str (ch y1), V.str (ch y1)]) := e4
      have xh := xd.trans x4
      have ea4 := extN_keepT xh _ _ ea
      have eb4 := extN_keepT xh _ _ eb0
      refine ⟨_, rfl, a, _, _, _, rfl, rfl, SqT.of ea4, rfl, b, _, _, _, ev1, rfl, SqT.of eb4, rfl, (by show 1 ≤ sizeLine; decide), fun pl npl => ?_⟩
      have j5 := same_new npl (.lst [V.str (ch y1)])
      refine ⟨pl, 2, _, rfl, rfl, upd_same, by decide, by decide, (by show 1 * 2 ≤ sizeLine; decide), fun p2 np2 => ?_⟩
      have j6 := same_new np2 (.lst (List.replicate (2 : Int).toNat [V.str (ch y1)]).flatten)
      have e6 := upd_same (H := upd H4 pl (.lst [V.str (ch y1)])) (a := p2) (o := .lst (List.replicate (2 : Int).toNat [V.str (ch y1)]).flatten)
      have e46 := j6 _ _ (j5 _ _ e4)
      have x6 := xh.trans (same_extN (j5.trans j6))
      have T6 := (T4.ext j5).ext j6
      generalize upd (upd H4 pl (.lst [V.str (ch y1)])) p2 (.lst (List.replicate (2 : Int).toNat [V.str (ch y1)]).flatten) = H6 at e6 e46 x6 T6 ⊢
      have e6 : H6 p2 = some (.lst [V.str (ch y1), V.str (ch y1)]) := e6
      have sh := shaped_two (ltb y1 (by rw [e]; first | exact List.mem_cons_of_mem _ (List.mem_append_left _ (by rw [et1]; exact List.mem_cons_self)) | exact List.mem_cons_of_mem _ (List.mem_append_right _ (by rw [et1]; exact List.mem_cons_self))))
      refine ⟨.list [.str (ch y1), .str (ch y1)], .list [.str (ch y1), .str (ch y1)], .lst (SqL.of e46) (.cons (.str _) (.cons (.str _) .nil)), .lst (SqL.of e6) (.cons (.str _) (.cons (.str _) .nil)), sh, sh, _, rfl, ?_⟩
      rw [SeqAt.eqv_refl _ (SeqAt.canLay_of_shaped sh)]
      refine iteF ?_
      have eM : (if ((leftsOf tl tr x : Nat) : Int) - 1 > 0 then ((leftsOf tl tr x : Nat) : Int) - 1 else 0) = ((leftsOf tl tr x - 1 : Nat) : Int) := by
        split <;> omega
      have hvF := hv.keep (extN_keepT x6)
      refine ⟨_, rfl, _, rfl, _, rfl, _, _, rfl, rfl, _, _, rfl, _, t, leftsOf tl tr x - 1, congrArg (fun z : Int => [V.ref a, V.int z]) eM, hvF, hn, nd, by omega, by omega, T6, fun wF HF xF TF nwF wlF => ?_⟩
      refine ⟨_, t, wF, rfl, hvF.keep (extN_keepT xF), hn, nd, by omega, nwF.valid, TF, fun kF HG xG TG ixF => ?_⟩
      have ek : kF = leftsOf tl tr x - 1 := idx_one ixF fg (num_idx nwF fg (by rw [togR_ft]; omega))
      subst ek
      refine ⟨_, rfl, _, _, rfl, rfl, _, _, rfl, rfl, ?_⟩
      rw [decide_eq_true (congrArg V.int eM.symm)]
      exact q HG ((x6.trans xF).trans xG) TG
    · rw [decide_eq_false (show ¬ ((leftsOf tl tr x : Nat) : Int) < ((t.num : Nat) : Int) by omega)]
      refine iteF (iteF ?_)
      have eM : (if ((leftsOf tl tr x : Nat) : Int) - 1 > 0 then ((leftsOf tl tr x : Nat) : Int) - 1 else 0) = ((leftsOf tl tr x - 1 : Nat) : Int) := by
        split <;> omega
      have hvF := hv.keep (extN_keepT x13)
      refine ⟨_, rfl, _, rfl, _, rfl, _, _, rfl, rfl, _, _, rfl, _, t, leftsOf tl tr x - 1, congrArg (fun z : Int => [V.ref a, V.int z]) eM, hvF, hn, nd, by omega, by omega, T3, fun wF HF xF TF nwF wlF => ?_⟩
      refine ⟨_, t, wF, rfl, hvF.keep (extN_keepT xF), hn, nd, by omega, nwF.valid, TF, fun kF HG xG TG ixF => ?_⟩
      have ek : kF = leftsOf tl tr x - 1 := idx_one ixF fg (num_idx nwF fg (by rw [togR_ft]; omega))
      subst ek
      refine ⟨_, rfl, _, _, rfl, rfl, _, _, rfl, rfl, ?_⟩
      rw [decide_eq_true (congrArg V.int eM.symm)]
      exact q HG ((x13.trans xF).trans xG) TG
end
/-! ### ascending, and equal to its sorted set -/
theorem asc_iff : ∀ {zs : List Nat}, asc zs = true ↔ zs.Pairwise (· < ·)
  | [] => ⟨fun _ => .nil, fun _ => rfl⟩
  | [a] => ⟨fun _ => List.pairwise_singleton _ _, fun _ => rfl⟩
  | a :: b :: r => by
    have ih := asc_iff (zs := b :: r)
    have e : asc (a :: b :: r) = (decide (a < b) && asc (b :: r)) := rfl
    rw [e, Bool.and_eq_true, decide_eq_true_eq, ih]
    constructor
    · rintro ⟨h1, h2⟩
      refine List.pairwise_cons.mpr ⟨fun c hc => ?_, h2⟩
      rcases List.mem_cons.mp hc with rfl | hc
      · exact h1
      · exact Nat.lt_trans h1 ((List.pairwise_cons.mp h2).1 c hc)
    · intro h
      exact ⟨(List.pairwise_cons.mp h).1 b List.mem_cons_self, (List.pairwise_cons.mp h).2⟩
theorem risingS_ch : ∀ (p : Nat) (l : List Nat), risingS (ch p) (l.map ch) = true → (p :: l).Pairwise (· ≤ ·)
  | p, [], _ => List.pairwise_singleton _ _
  | p, c :: l, h => by
    have h : (!ltCps (ch c).cps.toList (ch p).cps.toList && risingS (ch c) (l.map ch)) = true := h
    rw [Bool.and_eq_true] at h
    have h2 := risingS_ch c l h.2
    have h1 : p ≤ c := by
      have := h.1
      rw [ltCps_eq, ch_lt] at this
      have : ¬ c < p := by simpa using this
      omega
    refine List.pairwise_cons.mpr ⟨fun d hd => ?_, h2⟩
    rcases List.mem_cons.mp hd with rfl | hd
    · exact h1
    · exact Nat.le_trans h1 ((List.pairwise_cons.mp h2).1 d hd)
theorem sortedS_ch : ∀ {l : List Nat}, sortedS (l.map ch) = true → l.Pairwise (· ≤ ·)
  | [], _ => .nil
  | p :: l, h => risingS_ch p l h
theorem lt_of_le_nd : ∀ {l : List Nat}, l.Pairwise (· ≤ ·) → l.Nodup → l.Pairwise (· < ·)
  | [], _, _ => .nil
  | x :: l, h, d => by
    obtain ⟨h1, h2⟩ := List.pairwise_cons.mp h
    obtain ⟨d1, d2⟩ := List.nodup_cons.mp d
    refine List.pairwise_cons.mpr ⟨fun y hy => ?_, lt_of_le_nd h2 d2⟩
    have a := h1 y hy
    have b : x ≠ y := fun z => d1 (z ▸ hy)
    omega
theorem of_chs {l : List Str} {cs : List Nat} (h : ∀ y ∈ l, y ∈ cs.map ch) : ∃ l' : List Nat, l = l'.map ch := by
  induction l with
  | nil => exact ⟨[], rfl⟩
  | cons y l ih =>
    obtain ⟨l', e⟩ := ih fun z hz => h z (List.mem_cons_of_mem _ hz)
    obtain ⟨c, _, rfl⟩ := List.mem_map.mp (h y List.mem_cons_self)
    exact ⟨c :: l', by rw [e]; rfl⟩
theorem nodup_ch {l : List Nat} (h : (l.map ch).Nodup) : l.Nodup := by
  refine List.Pairwise.imp (fun {a b} hab e => hab (by rw [e])) (List.pairwise_map.mp h)
/-! ### the law -/
def spLaw (K : PySem.W.Frag) (T : List (Addr × Str)) : Sp := fun vs H Q _ => ∃ (a : Addr) (ns : List Int), vs = [.ref a] ∧ SqL K H a (ns.map V.int) ∧ ns.length ≤ 63 ∧ LamX.Tabs T H ∧ ∀ H', Q (.bl true) H'
section
variable {P : Program} {w : World} {K : PySem.W.Frag} {mg : Str → Option Value} {base : Heap} {f : Addr} {fd : FuncData}
theorem ok_law {T : List (Addr × Str)} (F : Fun K "law" "law" s_law f fd) (M : Mgs mg) (D_law_begin : Df P w K mg base 1 "_law_begin" ["_law_script"] (spBegin K)) (D_law_order : Df P w K mg base 32 "_law_order" ["_law_deck", "_law_low", "_law_high"] spOrder)
    (D_law_grown : Df P w K mg base 41 "_law_grown" ["_law_order_here"] spGr) (D_law_search_trees : Df P w K mg base 7 "_law_search_trees" ["_law_letters"] (spAllT 7)) (Dcount_orders : Df P w K mg base 22 "count_orders" ["tree"] spCountO)
    (Dis_search_tree : Df P w K mg base 63 "is_search_tree" ["tree"] spSearch) (D_law_shared_right : Df P w K mg base 62 "_law_shared_right" ["_law_tree"] (spShared T)) : FnOk P w K mg base CX0 66 f fd ["_law_script"] (spLaw K T) := by
  refine F.ok sc_law (fun vs H Q E h => ?_) (fun cdv A outer s H vs Q E hr h => ?_)
  · obtain ⟨a, ns, rfl, _⟩ := h
    rfl
  obtain ⟨a, ns, rfl, hS, hn, hT, q⟩ := h
  refine ⟨_, (pss_cons (ps_set (i := 1) sc_law.nd rfl (.inl rfl) (pe_call D_law_begin.ok (hr.mono (by omega)) rfl D_law_begin.g D_law_begin.kp D_law_begin.b .nil pass0 (pa_cons (pv 0) pa_nil)))
    (pss_cons (ps_for PassesOwn.never rfl (RZ.pi_zipA rfl M.zip (pa_cons (pe_lst (pa_cons pe_int (pa_cons pe_int (pa_cons pe_int (pa_cons pe_int (pa_cons pe_int (pa_cons pe_int pa_nil))))))) (pa_cons (pe_lst (pa_cons pe_int (pa_cons pe_int (pa_cons pe_int (pa_cons pe_int (pa_cons pe_int (pa_cons pe_int pa_nil))))))) pa_nil))) (pg_tup rfl (pgs_cons (pg_name (i := 2) sc_law.nd rfl (.inl rfl)) (pgs_cons (pg_name (i := 3) sc_law.nd rfl (.inl rfl)) pgs_nil)))
      (pss_cons (ps_set (i := 4) sc_law.nd rfl (.inl rfl) (pe_call D_law_search_trees.ok (hr.mono (by omega)) rfl D_law_search_trees.g D_law_search_trees.kp D_law_search_trees.b .nil pass0 (pa_cons (pe_bm PySem.F.plainAttrs_str PySem.F.slot_str_join PySem.F.type_str_join mt_join pe_str (pa_cons (pe_callB (cr_sortedTx rfl) rfl M.sorted (by decide +kernel) (pa_cons (pe_call D_law_order.ok (hr.mono (by omega)) rfl D_law_order.g D_law_order.kp D_law_order.b .nil pass0 (pa_cons (pv 1) (pa_cons (pv 2) (pa_cons (pv 2) pa_nil)))) pa_nil)) pa_nil)) pa_nil)))
    (pss_cons (ps_if (pt_cmpR op_ne (pe_callB (cr_sum rfl) rfl M.sum (by decide +kernel) (pa_cons (pe_lc (own := [("_law_tree", 5)]) (g := gName 5) (tt := tYes) rfl sc_law.nd (pi_list (pv 4)) (blkOk_by (N := ["_law_script", "_law_deck", "_law_size", "_law_due", "_law_trees", "_law_tree", "_law_turn"]) (sc := defScope s_law) (by decide +kernel)) (fun _ _ _ _ _ => (pg_name (i := 5) sc_law.nd rfl (.inl rfl))) (fun _ _ _ _ _ => pts_nil) (fun _ _ _ _ _ => (pe_call Dcount_orders.ok (hr.mono (by omega)) rfl Dcount_orders.g Dcount_orders.kp Dcount_orders.b .nil pass0 (pa_cons (pv 5) pa_nil)))) pa_nil)) (pv 3) (nomark _))
      (pss_one (ps_ret pe_bl)) pss_nil)
    (pss_one (ps_if (pt_cmpR (op_neL hr.units0) (pe_lc (own := [("_law_tree", 5)]) (g := gName 5) rfl sc_law.nd (pi_list (pv 4)) (blkOk_by (N := ["_law_script", "_law_deck", "_law_size", "_law_due", "_law_trees", "_law_tree", "_law_turn"]) (sc := defScope s_law) (by decide +kernel)) (fun _ _ _ _ _ => (pg_name (i := 5) sc_law.nd rfl (.inl rfl))) (fun _ _ _ _ _ => pts_one (pt_cmpR op_notBl (pe_call Dis_search_tree.ok (hr.mono (by omega)) rfl Dis_search_tree.g Dis_search_tree.kp Dis_search_tree.b .nil pass0 (pa_cons (pv 5) pa_nil)) pe_bl (nomark _))) (fun _ _ _ _ _ => (pv 5))) (pe_lst pa_nil) (nomark _))
      (pss_one (ps_ret pe_bl)) pss_nil)))))
    (pss_cons (ps_for PassesOwn.never rfl (pi_range1 rfl M.range (pa_cons pe_int pa_nil)) (pg_name (i := 6) sc_law.nd rfl (.inl rfl))
      (pss_one (ps_if (pt_not (pt_val (pe_call D_law_shared_right.ok (hr.mono (by omega)) rfl D_law_shared_right.g D_law_shared_right.kp D_law_shared_right.b .nil pass0 (pa_cons (pe_call D_law_grown.ok (hr.mono (by omega)) rfl D_law_grown.g D_law_grown.kp D_law_grown.b .nil pass0 (pa_cons (pe_call D_law_order.ok (hr.mono (by omega)) rfl D_law_order.g D_law_order.kp D_law_order.b .nil pass0 (pa_cons (pv 1) (pa_cons pe_int (pa_cons pe_int pa_nil)))) pa_nil)) pa_nil))))
      (pss_one (ps_ret pe_bl)) pss_nil)))
    (pss_one (ps_ret pe_bl))))), ?_⟩
  refine ⟨_, rfl, a, ns, rfl, hS, hn, fun D H1 d1 s1 => ?_⟩
  refine ⟨(by show 6 ≤ sizeLine; decide), fun p1 n1 => ⟨(by show 6 ≤ sizeLine; decide), fun p2 n2 => ?_⟩⟩
  have j1 := same_new n1 (.lst [.int 1, .int 2, .int 3, .int 4, .int 5, .int 6])
  have j2 := same_new n2 (.lst [.int 1, .int 2, .int 6, .int 24, .int 120, .int 720])
  have e1 := j2 _ _ (upd_same (H := H1) (a := p1) (o := .lst [.int 1, .int 2, .int 3, .int 4, .int 5, .int 6]))
  have e2 := upd_same (H := upd H1 p1 (.lst [.int 1, .int 2, .int 3, .int 4, .int 5, .int 6])) (a := p2) (o := .lst [.int 1, .int 2, .int 6, .int 24, .int 120, .int 720])
  have d2 := (d1.same j1).same j2
  have o1 := d1.new n1
  have o2 := (d1.same j1).new n2
  have T2 := ((hT.ext s1).ext j1).ext j2
  generalize upd (upd H1 p1 (.lst [.int 1, .int 2, .int 3, .int 4, .int 5, .int 6])) p2 (.lst [.int 1, .int 2, .int 6, .int 24, .int 120, .int 720]) = H2 at e1 e2 d2 T2 ⊢
  refine ⟨p1, p2, _, _, rfl, .inl ⟨SqL.of e1, SqL.of e2, ?_⟩⟩
  refine RZ.for_zipL (K := K) (a := p1) (b := p2) (xs := [.int 1, .int 2, .int 3, .int 4, .int 5, .int 6]) (ys := [.int 1, .int 2, .int 6, .int 24, .int 120, .int 720]) rfl (fun i σ H' => ∃ z2 z3 z4 z5 z6, σ = [some (.ref a), some (.ref D.dk), z2, z3, z4, z5, z6] ∧ DeckOk H' D ∧ LamX.Tabs T H' ∧ H' p1 = some (.lst [.int 1, .int 2, .int 3, .int 4, .int 5, .int 6]) ∧ H' p2 = some (.lst [.int 1, .int 2, .int 6, .int 24, .int 120, .int 720])) ⟨_, _, _, _, _, rfl, d2, T2, e1, e2⟩ (fun i σ H' hp => by obtain ⟨_, _, _, _, _, _, _, _, g1, g2⟩ := hp; exact ⟨SqL.of g1, SqL.of g2⟩) (fun i x y tp σ H3 hx hy hp ntp => ?_) (fun σ H3 hp => ?_)
  · obtain ⟨z2, z3, z4, z5, z6, rfl, d3, T3, g1, g2⟩ := hp
    obtain ⟨m, rfl, rfl, m1, m6⟩ : ∃ m : Nat, x = vn m ∧ y = vn (facN m) ∧ 1 ≤ m ∧ m ≤ 6 := by
      match i, hx, hy with
      | 0, hx, hy => cases hx; cases hy; exact ⟨1, rfl, rfl, by decide, by decide⟩
      | 1, hx, hy => cases hx; cases hy; exact ⟨2, rfl, rfl, by decide, by decide⟩
      | 2, hx, hy => cases hx; cases hy; exact ⟨3, rfl, rfl, by decide, by decide⟩
      | 3, hx, hy => cases hx; cases hy; exact ⟨4, rfl, rfl, by decide, by decide⟩
      | 4, hx, hy => cases hx; cases hy; exact ⟨5, rfl, rfl, by decide, by decide⟩
      | 5, hx, hy => cases hx; cases hy; exact ⟨6, rfl, rfl, by decide, by decide⟩
    have j4 := same_new ntp (.tup [vn m, vn (facN m)])
    have et := upd_same (H := H3) (a := tp) (o := .tup [vn m, vn (facN m)])
    have d4 := d3.same j4
    have T4 := T3.ext j4
    have g14 := j4 _ _ g1
    have g24 := j4 _ _ g2
    generalize upd H3 tp (.tup [vn m, vn (facN m)]) = H4 at et d4 T4 g14 g24 ⊢
    refine ⟨tp, _, rfl, SqT.of et, rfl, _, _, rfl, _, _, rfl, rfl, ?_⟩
    refine ⟨rfl, _, rfl, _, rfl, _, rfl, D, m, m, rfl, d4, Nat.le_refl m, by omega, fun zs H5 d5 s5 lz z1 z2' => ?_⟩
    have T5 := tabsD d4 s5 T4
    have g15 := s5.at o1 g14
    have g25 := s5.at o2 g24
    refine ⟨tx zs, rfl, by rw [tx_len]; omega, fun ys p pm so np => ?_⟩
    obtain ⟨L, rfl, pL⟩ := perm_ch pm
    have pL : L.Perm zs := pL
    have lL := pL.length_eq
    have ndL : L.Nodup := pL.nodup_iff.mpr lz.1
    have ascL := lt_of_le_nd (sortedS_ch so) ndL
    have j6 := same_new np (.lst ((L.map ch).map V.str))
    have e6 := upd_same (H := H5) (a := p) (o := .lst ((L.map ch).map V.str))
    have d6 := d5.same j6
    have T6 := T5.ext j6
    have g16 := j6 _ _ g15
    have g26 := j6 _ _ g25
    generalize upd H5 p (.lst ((L.map ch).map V.str)) = H6 at e6 d6 T6 g16 g26 ⊢
    refine ⟨_, p, L.map ch, rfl, rfl, .inl (SqL.of e6), tx_joinOk _ (by omega), ?_⟩
    rw [tx_join]
    refine ⟨L, rfl, by omega, by omega, fun pt us H7 s7 npt ept tt => ?_⟩
    rw [show 7 - 1 = 6 from rfl] at tt
    have sumT := allT_sum 6 L (by omega)
    have midT := allT_mid 6 L (by omega)
    have sizT : ∀ t ∈ allT 6 L, t.size = L.length := fun t ht => allT_size (by omega) ht
    have fewT := allT_few 6 L (by omega)
    have f6 := fac6 (show L.length ≤ 6 by omega)
    have Lne : L ≠ [] := fun z => by rw [z] at lL; rw [← lL] at z1; exact absurd z1 (by show ¬ m ≤ 0; omega)
    have eLm : L.length = m := by omega
    generalize allT 6 L = TT at tt sumT midT sizT fewT
    have lus := tt.len
    have d7 := d6.same s7
    have T7 := T6.ext s7
    have g17 := s7 _ _ g16
    have g27 := s7 _ _ g26
    refine ⟨_, rfl, pt, rfl, ⟨_, SqL.of ept⟩, fun D2 n2' => ?_⟩
    have j8 := same_new n2' (.lst [])
    refine lc_list (K := K) (a := pt) (xs := us) (fun k H' => Same H7 H' ∧ H' D2 = some (.lst (((TT.take k).map fun t => ((t.num : Nat) : Int)).map V.int))) ⟨j8, upd_same⟩ (fun k H' _ hp => SqL.of (hp.1 _ _ ept)) (fun k y H' hy hp => ?_) (fun H8 hp => ?_)
    · obtain ⟨s', e'⟩ := hp
      obtain ⟨t, ht, hat⟩ := tt.get hy
      have hk := (List.getElem?_eq_some_iff.mp ht).1
      have st := sizT t (List.mem_of_getElem? ht)
      refine ⟨rfl, kept ?_⟩
      refine ⟨_, rfl, y, t, rfl, hat.same s', by omega, fun H9 s9 => ?_⟩
      refine ⟨_, s9 _ _ e', ?_, fun b o e => ?_, ?_⟩
      · rw [List.length_map, List.length_map, List.length_take]; exact small1000 (by omega)
      · rw [upd_ne (ne_of_none e n2')]; exact s9 _ _ (s' _ _ e)
      · rw [upd_same, take_nextG ht, List.map_append, List.map_append]; rfl
    obtain ⟨s8, e8⟩ := hp
    rw [lus, List.take_length] at e8
    have sm : ((TT.map fun t => ((t.num : Nat) : Int))).sum = (facN m : Int) := by
      rw [← eLm, ← sumT]
      clear e8 fewT sizT midT sumT lus tt
      induction TT with
      | nil => rfl
      | cons t TT ih => rw [List.map_cons, List.map_cons, List.sum_cons, List.sum_cons, ih, Int.natCast_add]
    refine ⟨D2, _, rfl, SqL.of e8, _, rfl, rfl, _, rfl, iteNS (congrArg V.int sm) ?_⟩
    have ept8 := s8 _ _ ept
    have tt8 := tt.same s8
    refine ⟨_, rfl, pt, rfl, ⟨_, SqL.of ept8⟩, fun D3 n3 => ?_⟩
    have j9 := same_new n3 (.lst [])
    refine lc_list (K := K) (a := pt) (xs := us) (fun k H' => Same H8 H' ∧ H' D3 = some (.lst [])) ⟨j9, upd_same⟩ (fun k H' _ hp => SqL.of (hp.1 _ _ ept8)) (fun k y H' hy hp => ?_) (fun H9 hp => ?_)
    · obtain ⟨s', e'⟩ := hp
      obtain ⟨t, ht, hat⟩ := tt8.get hy
      have hm := List.mem_of_getElem? ht
      have st := sizT t hm
      obtain ⟨mi, ne⟩ := midT t hm
      refine ⟨rfl, ?_⟩
      refine ⟨_, rfl, y, t, rfl, hat.same s', ne Lne, by omega, fun H10 s10 => ?_⟩
      rw [mi, asc_iff.mpr ascL]
      refine ⟨true, true, rfl, rfl, _, rfl, iteF ?_⟩
      exact ⟨s'.trans s10, s10 _ _ e'⟩
    obtain ⟨s9, e9⟩ := hp
    refine ⟨(by show 0 ≤ sizeLine; decide), fun el nel => ?_⟩
    have j10 := same_new nel (.lst [])
    refine ⟨D3, el, [], rfl, rfl, SqL.of (j10 _ _ e9), SqL.of upd_same, _, rfl, iteF ?_⟩
    have s710 := (s8.trans s9).trans j10
    exact ⟨_, _, _, _, _, rfl, d7.same s710, T7.ext s710, s710 _ _ g17, s710 _ _ g27⟩
  · obtain ⟨z2, z3, z4, z5, z6, rfl, d3, T3, _, _⟩ := hp
    refine ⟨6, rfl, by decide, by decide, ?_⟩
    refine for_range (lo := 0) (n := 6) (fun i σ H' => ∃ z2 z3 z4 z5 z6, σ = [some (.ref a), some (.ref D.dk), z2, z3, z4, z5, z6] ∧ DeckOk H' D ∧ LamX.Tabs T H') ⟨_, _, _, _, _, rfl, d3, T3⟩ (fun i σ H4 hi hp => ?_) (fun σ H4 hp => ?_)
    · obtain ⟨z2, z3, z4, z5, z6, rfl, d4, T4⟩ := hp
      refine ⟨_, rfl, D, 1, 12, rfl, d4, by decide, by decide, fun zs H5 d5 s5 lz z1 z12 => ?_⟩
      have T5 := tabsD d4 s5 T4
      refine ⟨zs, rfl, by omega, fun v H6 s6 hv => ?_⟩
      have gsz := gr_size zs
      have pz := gr_perm zs
      refine ⟨v, gr zs, rfl, hv, ?_, gr_bst zs, pz.nodup_iff.mpr lz.1, fun c hc => lz.2 c (pz.mem_iff.mp hc), by omega, T5.ext s6, fun H7 x7 T7 => ?_⟩
      · intro z
        rw [z] at gsz
        have : (0 : Nat) = zs.length := gsz
        omega
      refine ⟨_, rfl, iteF ?_⟩
      exact ⟨_, _, _, _, _, rfl, (d5.same s6).ext x7, T7⟩
    · exact q H4
end
/-! ### what the top has left -/
theorem all_mk {l : PySem.W.OpenLaw} {w : World} {K : PySem.W.Frag} {h : Heap} {mg : Str → Option Value} {fa f1 f2 f3 f4 f5 f6 f7 f8 f9 f10 f11 f12 f13 f14 f15 f16 f17 f18 f19 f20 f21 f22 f23 f24 f25 f26  : Addr} (X : K.In h) (G : h.Ns mainGlobals mg) (hfa : mg "law" = some (.ref fa))
    {od1 an1 od2 an2 od3 an3 od4 an4 od5 an5 od6 an6 od7 an7 od8 an8 od9 an9 od10 an10 od11 an11 od12 an12 od13 an13 od14 an14 od15 an15 od16 an16 od17 an17 od18 an18 od19 an19 od20 an20 od21 an21 od22 an22 od23 an23 od24 an24 od25 an25 od26 an26 : Option Addr} {sl1 sl2 sl3 sl4 sl5 sl6 sl7 sl8 sl9 sl10 sl11 sl12 sl13 sl14 sl15 sl16 sl17 sl18 sl19 sl20 sl21 sl22 sl23 sl24 sl25 sl26 : Array (Option Value)}
    {oc1 kV1 dc1 pm1 cd1 ct1 oc2 kV2 dc2 pm2 cd2 ct2 oc3 kV3 dc3 pm3 cd3 ct3 oc4 kV4 dc4 pm4 cd4 ct4 oc5 kV5 dc5 pm5 cd5 ct5 oc6 kV6 dc6 pm6 cd6 ct6 oc7 kV7 dc7 pm7 cd7 ct7 oc8 kV8 dc8 pm8 cd8 ct8 oc9 kV9 dc9 pm9 cd9 ct9 oc10 kV10 dc10 pm10 cd10 ct10 oc11 kV11 dc11 pm11 cd11 ct11 oc12 kV12 dc12 pm12 cd12 ct12 oc13 kV13 dc13 pm13 cd13 ct13 oc14 kV14 dc14 pm14 cd14 ct14 oc15 kV15 dc15 pm15 cd15 ct15 oc16 kV16 dc16 pm16 cd16 ct16 oc17 kV17 dc17 pm17 cd17 ct17 oc18 kV18 dc18 pm18 cd18 ct18 oc19 kV19 dc19 pm19 cd19 ct19 oc20 kV20 dc20 pm20 cd20 ct20 oc21 kV21 dc21 pm21 cd21 ct21 oc22 kV22 dc22 pm22 cd22 ct22 oc23 kV23 dc23 pm23 cd23 ct23 oc24 kV24 dc24 pm24 cd24 ct24 oc25 kV25 dc25 pm25 cd25 ct25 oc26 kV26 dc26 pm26 cd26 ct26 : Value}
    {aK : Addr} {oK : Option Addr} {tK1 tK2 tK3 tK4 : Tok} {nK : Nat} {sK : Array (Option Value)} {cT PT : Addr} {ocT : Value} {odT : Option Addr} {vsT : Array Value} {slT : Array (Option Value)}
    (aKn : PySem.W.nsIn K mainGlobals "KINDS" = some (some (.ref aK)))
    (aKl : K.lookup aK = some ⟨.type "tuple", oK, .seq #[.str "first" tK1, .str "between" tK2, .str "last" tK3, .str "level" tK4] nK, sK⟩)
    (eCd : cd13 = .ref cT)
    (eLk : K.lookup cT = some ⟨ocT, odT, .fields vsT, slT⟩)
    (eP : vsT[11]? = some (.ref PT))
    (eHd : PySem.W.codeHdIn K cT PT = true)
    (eNo : K.lookup PT = none)
    (eNe : mainGlobals ≠ PT)
    (eTs : h.get? PT = some { cls := .none, data := .fields #[] })
    (a1 : PySem.W.nsIn K mainGlobals "is_whole_number" = some (some (.ref f1)))
    (l1 : K.lookup f1 = some ⟨oc1, od1, .func (PySem.W.fnOf "is_whole_number" "is_whole_number" (defArgs s_is_whole_number) (defBody s_is_whole_number) (defScope s_is_whole_number) .none kV1 dc1 pm1 an1 cd1 ct1), sl1⟩)
    (c1 : PySem.W.codeIn K cd1 "is_whole_number" = true)
    (k1 : PySem.W.keepIn K (.ref f1) = true)
    (a2 : PySem.W.nsIn K mainGlobals "is_index" = some (some (.ref f2)))
    (l2 : K.lookup f2 = some ⟨oc2, od2, .func (PySem.W.fnOf "is_index" "is_index" (defArgs s_is_index) (defBody s_is_index) (defScope s_is_index) .none kV2 dc2 pm2 an2 cd2 ct2), sl2⟩)
    (c2 : PySem.W.codeIn K cd2 "is_index" = true)
    (k2 : PySem.W.keepIn K (.ref f2) = true)
    (a3 : PySem.W.nsIn K mainGlobals "is_ascending" = some (some (.ref f3)))
    (l3 : K.lookup f3 = some ⟨oc3, od3, .func (PySem.W.fnOf "is_ascending" "is_ascending" (defArgs s_is_ascending) (defBody s_is_ascending) (defScope s_is_ascending) .none kV3 dc3 pm3 an3 cd3 ct3), sl3⟩)
    (c3 : PySem.W.codeIn K cd3 "is_ascending" = true)
    (k3 : PySem.W.keepIn K (.ref f3) = true)
    (a4 : PySem.W.nsIn K mainGlobals "size_of" = some (some (.ref f4)))
    (l4 : K.lookup f4 = some ⟨oc4, od4, .func (PySem.W.fnOf "size_of" "size_of" (defArgs s_size_of) (defBody s_size_of) (defScope s_size_of) .none kV4 dc4 pm4 an4 cd4 ct4), sl4⟩)
    (c4 : PySem.W.codeIn K cd4 "size_of" = true)
    (k4 : PySem.W.keepIn K (.ref f4) = true)
    (a5 : PySem.W.nsIn K mainGlobals "is_kind" = some (some (.ref f5)))
    (l5 : K.lookup f5 = some ⟨oc5, od5, .func (PySem.W.fnOf "is_kind" "is_kind" (defArgs s_is_kind) (defBody s_is_kind) (defScope s_is_kind) .none kV5 dc5 pm5 an5 cd5 ct5), sl5⟩)
    (c5 : PySem.W.codeIn K cd5 "is_kind" = true)
    (k5 : PySem.W.keepIn K (.ref f5) = true)
    (a6 : PySem.W.nsIn K mainGlobals "ordered_steps" = some (some (.ref f6)))
    (l6 : K.lookup f6 = some ⟨oc6, od6, .func (PySem.W.fnOf "ordered_steps" "ordered_steps" (defArgs s_ordered_steps) (defBody s_ordered_steps) (defScope s_ordered_steps) .none kV6 dc6 pm6 an6 cd6 ct6), sl6⟩)
    (c6 : PySem.W.codeIn K cd6 "ordered_steps" = true)
    (k6 : PySem.W.keepIn K (.ref f6) = true)
    (a7 : PySem.W.nsIn K mainGlobals "deep_steps" = some (some (.ref f7)))
    (l7 : K.lookup f7 = some ⟨oc7, od7, .func (PySem.W.fnOf "deep_steps" "deep_steps" (defArgs s_deep_steps) (defBody s_deep_steps) (defScope s_deep_steps) .none kV7 dc7 pm7 an7 cd7 ct7), sl7⟩)
    (c7 : PySem.W.codeIn K cd7 "deep_steps" = true)
    (k7 : PySem.W.keepIn K (.ref f7) = true)
    (a8 : PySem.W.nsIn K mainGlobals "walk" = some (some (.ref f8)))
    (l8 : K.lookup f8 = some ⟨oc8, od8, .func (PySem.W.fnOf "walk" "walk" (defArgs s_walk) (defBody s_walk) (defScope s_walk) .none kV8 dc8 pm8 an8 cd8 ct8), sl8⟩)
    (c8 : PySem.W.codeIn K cd8 "walk" = true)
    (k8 : PySem.W.keepIn K (.ref f8) = true)
    (a9 : PySem.W.nsIn K mainGlobals "is_search_tree" = some (some (.ref f9)))
    (l9 : K.lookup f9 = some ⟨oc9, od9, .func (PySem.W.fnOf "is_search_tree" "is_search_tree" (defArgs s_is_search_tree) (defBody s_is_search_tree) (defScope s_is_search_tree) .none kV9 dc9 pm9 an9 cd9 ct9), sl9⟩)
    (c9 : PySem.W.codeIn K cd9 "is_search_tree" = true)
    (k9 : PySem.W.keepIn K (.ref f9) = true)
    (a10 : PySem.W.nsIn K mainGlobals "sizes_in" = some (some (.ref f10)))
    (l10 : K.lookup f10 = some ⟨oc10, od10, .func (PySem.W.fnOf "sizes_in" "sizes_in" (defArgs s_sizes_in) (defBody s_sizes_in) (defScope s_sizes_in) .none kV10 dc10 pm10 an10 cd10 ct10), sl10⟩)
    (c10 : PySem.W.codeIn K cd10 "sizes_in" = true)
    (k10 : PySem.W.keepIn K (.ref f10) = true)
    (a11 : PySem.W.nsIn K mainGlobals "count_together" = some (some (.ref f11)))
    (l11 : K.lookup f11 = some ⟨oc11, od11, .func (PySem.W.fnOf "count_together" "count_together" (defArgs s_count_together) (defBody s_count_together) (defScope s_count_together) .none kV11 dc11 pm11 an11 cd11 ct11), sl11⟩)
    (c11 : PySem.W.codeIn K cd11 "count_together" = true)
    (k11 : PySem.W.keepIn K (.ref f11) = true)
    (a12 : PySem.W.nsIn K mainGlobals "count_orders" = some (some (.ref f12)))
    (l12 : K.lookup f12 = some ⟨oc12, od12, .func (PySem.W.fnOf "count_orders" "count_orders" (defArgs s_count_orders) (defBody s_count_orders) (defScope s_count_orders) .none kV12 dc12 pm12 an12 cd12 ct12), sl12⟩)
    (c12 : PySem.W.codeIn K cd12 "count_orders" = true)
    (k12 : PySem.W.keepIn K (.ref f12) = true)
    (a13 : PySem.W.nsIn K mainGlobals "next_steps" = some (some (.ref f13)))
    (l13 : K.lookup f13 = some ⟨oc13, od13, .func (PySem.W.fnOf "next_steps" "next_steps" (defArgs s_next_steps) (defBody s_next_steps) (defScope s_next_steps) .none kV13 dc13 pm13 an13 cd13 ct13), sl13⟩)
    (c13 : PySem.W.codeIn K cd13 "next_steps" = true)
    (k13 : PySem.W.keepIn K (.ref f13) = true)
    (a14 : PySem.W.nsIn K mainGlobals "numbered_order" = some (some (.ref f14)))
    (l14 : K.lookup f14 = some ⟨oc14, od14, .func (PySem.W.fnOf "numbered_order" "numbered_order" (defArgs s_numbered_order) (defBody s_numbered_order) (defScope s_numbered_order) .none kV14 dc14 pm14 an14 cd14 ct14), sl14⟩)
    (c14 : PySem.W.codeIn K cd14 "numbered_order" = true)
    (k14 : PySem.W.keepIn K (.ref f14) = true)
    (a15 : PySem.W.nsIn K mainGlobals "order_at" = some (some (.ref f15)))
    (l15 : K.lookup f15 = some ⟨oc15, od15, .func (PySem.W.fnOf "order_at" "order_at" (defArgs s_order_at) (defBody s_order_at) (defScope s_order_at) .none kV15 dc15 pm15 an15 cd15 ct15), sl15⟩)
    (c15 : PySem.W.codeIn K cd15 "order_at" = true)
    (k15 : PySem.W.keepIn K (.ref f15) = true)
    (a16 : PySem.W.nsIn K mainGlobals "order_index" = some (some (.ref f16)))
    (l16 : K.lookup f16 = some ⟨oc16, od16, .func (PySem.W.fnOf "order_index" "order_index" (defArgs s_order_index) (defBody s_order_index) (defScope s_order_index) .none kV16 dc16 pm16 an16 cd16 ct16), sl16⟩)
    (c16 : PySem.W.codeIn K cd16 "order_index" = true)
    (k16 : PySem.W.keepIn K (.ref f16) = true)
    (a17 : PySem.W.nsIn K mainGlobals "_law_begin" = some (some (.ref f17)))
    (l17 : K.lookup f17 = some ⟨oc17, od17, .func (PySem.W.fnOf "_law_begin" "_law_begin" (defArgs s__law_begin) (defBody s__law_begin) (defScope s__law_begin) .none kV17 dc17 pm17 an17 cd17 ct17), sl17⟩)
    (c17 : PySem.W.codeIn K cd17 "_law_begin" = true)
    (k17 : PySem.W.keepIn K (.ref f17) = true)
    (a18 : PySem.W.nsIn K mainGlobals "_law_next" = some (some (.ref f18)))
    (l18 : K.lookup f18 = some ⟨oc18, od18, .func (PySem.W.fnOf "_law_next" "_law_next" (defArgs s__law_next) (defBody s__law_next) (defScope s__law_next) .none kV18 dc18 pm18 an18 cd18 ct18), sl18⟩)
    (c18 : PySem.W.codeIn K cd18 "_law_next" = true)
    (k18 : PySem.W.keepIn K (.ref f18) = true)
    (a19 : PySem.W.nsIn K mainGlobals "_law_mixed" = some (some (.ref f19)))
    (l19 : K.lookup f19 = some ⟨oc19, od19, .func (PySem.W.fnOf "_law_mixed" "_law_mixed" (defArgs s__law_mixed) (defBody s__law_mixed) (defScope s__law_mixed) .none kV19 dc19 pm19 an19 cd19 ct19), sl19⟩)
    (c19 : PySem.W.codeIn K cd19 "_law_mixed" = true)
    (k19 : PySem.W.keepIn K (.ref f19) = true)
    (a20 : PySem.W.nsIn K mainGlobals "_law_free" = some (some (.ref f20)))
    (l20 : K.lookup f20 = some ⟨oc20, od20, .func (PySem.W.fnOf "_law_free" "_law_free" (defArgs s__law_free) (defBody s__law_free) (defScope s__law_free) .none kV20 dc20 pm20 an20 cd20 ct20), sl20⟩)
    (c20 : PySem.W.codeIn K cd20 "_law_free" = true)
    (k20 : PySem.W.keepIn K (.ref f20) = true)
    (a21 : PySem.W.nsIn K mainGlobals "_law_order" = some (some (.ref f21)))
    (l21 : K.lookup f21 = some ⟨oc21, od21, .func (PySem.W.fnOf "_law_order" "_law_order" (defArgs s__law_order) (defBody s__law_order) (defScope s__law_order) .none kV21 dc21 pm21 an21 cd21 ct21), sl21⟩)
    (c21 : PySem.W.codeIn K cd21 "_law_order" = true)
    (k21 : PySem.W.keepIn K (.ref f21) = true)
    (a22 : PySem.W.nsIn K mainGlobals "_law_put" = some (some (.ref f22)))
    (l22 : K.lookup f22 = some ⟨oc22, od22, .func (PySem.W.fnOf "_law_put" "_law_put" (defArgs s__law_put) (defBody s__law_put) (defScope s__law_put) .none kV22 dc22 pm22 an22 cd22 ct22), sl22⟩)
    (c22 : PySem.W.codeIn K cd22 "_law_put" = true)
    (k22 : PySem.W.keepIn K (.ref f22) = true)
    (a23 : PySem.W.nsIn K mainGlobals "_law_grown" = some (some (.ref f23)))
    (l23 : K.lookup f23 = some ⟨oc23, od23, .func (PySem.W.fnOf "_law_grown" "_law_grown" (defArgs s__law_grown) (defBody s__law_grown) (defScope s__law_grown) .none kV23 dc23 pm23 an23 cd23 ct23), sl23⟩)
    (c23 : PySem.W.codeIn K cd23 "_law_grown" = true)
    (k23 : PySem.W.keepIn K (.ref f23) = true)
    (a24 : PySem.W.nsIn K mainGlobals "_law_search_trees" = some (some (.ref f24)))
    (l24 : K.lookup f24 = some ⟨oc24, od24, .func (PySem.W.fnOf "_law_search_trees" "_law_search_trees" (defArgs s__law_search_trees) (defBody s__law_search_trees) (defScope s__law_search_trees) .none kV24 dc24 pm24 an24 cd24 ct24), sl24⟩)
    (c24 : PySem.W.codeIn K cd24 "_law_search_trees" = true)
    (k24 : PySem.W.keepIn K (.ref f24) = true)
    (a25 : PySem.W.nsIn K mainGlobals "_law_shared_right" = some (some (.ref f25)))
    (l25 : K.lookup f25 = some ⟨oc25, od25, .func (PySem.W.fnOf "_law_shared_right" "_law_shared_right" (defArgs s__law_shared_right) (defBody s__law_shared_right) (defScope s__law_shared_right) .none kV25 dc25 pm25 an25 cd25 ct25), sl25⟩)
    (c25 : PySem.W.codeIn K cd25 "_law_shared_right" = true)
    (k25 : PySem.W.keepIn K (.ref f25) = true)
    (a26 : PySem.W.nsIn K mainGlobals "law" = some (some (.ref f26)))
    (l26 : K.lookup f26 = some ⟨oc26, od26, .func (PySem.W.fnOf "law" "law" (defArgs s_law) (defBody s_law) (defScope s_law) .none kV26 dc26 pm26 an26 cd26 ct26), sl26⟩)
    (c26 : PySem.W.codeIn K cd26 "law" = true)
    (k26 : PySem.W.keepIn K (.ref f26) = true)
    (z1 : PySem.W.nsIn K mainGlobals "zip" = some none)
    (z2 : PySem.W.nsIn K mainGlobals "all" = some none)
    (z3 : PySem.W.nsIn K mainGlobals "repr" = some none)
    (z4 : PySem.W.nsIn K mainGlobals "len" = some none)
    (z5 : PySem.W.nsIn K mainGlobals "isinstance" = some none)
    (z6 : PySem.W.nsIn K mainGlobals "list" = some none)
    (z7 : PySem.W.nsIn K mainGlobals "tuple" = some none)
    (z8 : PySem.W.nsIn K mainGlobals "str" = some none)
    (z9 : PySem.W.nsIn K mainGlobals "int" = some none)
    (z10 : PySem.W.nsIn K mainGlobals "bool" = some none)
    (z11 : PySem.W.nsIn K mainGlobals "dict" = some none)
    (z12 : PySem.W.nsIn K mainGlobals "range" = some none)
    (z13 : PySem.W.nsIn K mainGlobals "enumerate" = some none)
    (z14 : PySem.W.nsIn K mainGlobals "sum" = some none)
    (z15 : PySem.W.nsIn K mainGlobals "sorted" = some none)
    (z16 : PySem.W.nsIn K mainGlobals "abs" = some none)
    (z17 : PySem.W.nsIn K mainGlobals "min" = some none)
    (z18 : PySem.W.nsIn K mainGlobals "max" = some none)
    : LamX.LawAtS l w K CX0 66 63 "_law_script" mg fa h := by
  have e := hfa.symm.trans (PySem.W.mg_of X G a26)
  cases e
  refine ⟨PySem.W.fnOf "law" "law" (defArgs s_law) (defBody s_law) (defScope s_law) .none kV26 dc26 pm26 an26 cd26 ct26, [(cT, PT)], spLaw K [(PT, ("next_steps.<locals>.<lambda>" : Str))], fun p hp => ?_, fun p hp => ?_, fun p hp => ?_, fun s u => .of_eq rfl, fun H a ns hn _ hT hS => ⟨a, ns, rfl, hS, hn, fun p hp => ?_, fun _ => rfl⟩, fun base inB gl TB0 => ?_⟩
  · rw [List.mem_singleton.mp hp]; exact eTs
  · rw [List.mem_singleton.mp hp]; exact eNo
  · rw [List.mem_singleton.mp hp]; exact PySem.W.codeHd_of_K X eHd
  · rw [List.mem_singleton.mp hp]; exact LamX.TabS.nil (hT (cT, PT) (List.mem_singleton.mpr rfl))
  have TB := TB0 (cT, PT) (List.mem_singleton.mpr rfl)
  have F1 := fun_mk (st := s_is_whole_number) l1 c1 k1
  have g1 := PySem.W.mg_of X G a1
  have F2 := fun_mk (st := s_is_index) l2 c2 k2
  have g2 := PySem.W.mg_of X G a2
  have F3 := fun_mk (st := s_is_ascending) l3 c3 k3
  have g3 := PySem.W.mg_of X G a3
  have F4 := fun_mk (st := s_size_of) l4 c4 k4
  have g4 := PySem.W.mg_of X G a4
  have F5 := fun_mk (st := s_is_kind) l5 c5 k5
  have g5 := PySem.W.mg_of X G a5
  have F6 := fun_mk (st := s_ordered_steps) l6 c6 k6
  have g6 := PySem.W.mg_of X G a6
  have F7 := fun_mk (st := s_deep_steps) l7 c7 k7
  have g7 := PySem.W.mg_of X G a7
  have F8 := fun_mk (st := s_walk) l8 c8 k8
  have g8 := PySem.W.mg_of X G a8
  have F9 := fun_mk (st := s_is_search_tree) l9 c9 k9
  have g9 := PySem.W.mg_of X G a9
  have F10 := fun_mk (st := s_sizes_in) l10 c10 k10
  have g10 := PySem.W.mg_of X G a10
  have F11 := fun_mk (st := s_count_together) l11 c11 k11
  have g11 := PySem.W.mg_of X G a11
  have F12 := fun_mk (st := s_count_orders) l12 c12 k12
  have g12 := PySem.W.mg_of X G a12
  have F13 := fun_mk (st := s_next_steps) l13 c13 k13
  have g13 := PySem.W.mg_of X G a13
  have F14 := fun_mk (st := s_numbered_order) l14 c14 k14
  have g14 := PySem.W.mg_of X G a14
  have F15 := fun_mk (st := s_order_at) l15 c15 k15
  have g15 := PySem.W.mg_of X G a15
  have F16 := fun_mk (st := s_order_index) l16 c16 k16
  have g16 := PySem.W.mg_of X G a16
  have F17 := fun_mk (st := s__law_begin) l17 c17 k17
  have g17 := PySem.W.mg_of X G a17
  have F18 := fun_mk (st := s__law_next) l18 c18 k18
  have g18 := PySem.W.mg_of X G a18
  have F19 := fun_mk (st := s__law_mixed) l19 c19 k19
  have g19 := PySem.W.mg_of X G a19
  have F20 := fun_mk (st := s__law_free) l20 c20 k20
  have g20 := PySem.W.mg_of X G a20
  have F21 := fun_mk (st := s__law_order) l21 c21 k21
  have g21 := PySem.W.mg_of X G a21
  have F22 := fun_mk (st := s__law_put) l22 c22 k22
  have g22 := PySem.W.mg_of X G a22
  have F23 := fun_mk (st := s__law_grown) l23 c23 k23
  have g23 := PySem.W.mg_of X G a23
  have F24 := fun_mk (st := s__law_search_trees) l24 c24 k24
  have g24 := PySem.W.mg_of X G a24
  have F25 := fun_mk (st := s__law_shared_right) l25 c25 k25
  have g25 := PySem.W.mg_of X G a25
  have F26 := fun_mk (st := s_law) l26 c26 k26
  have m_zip := PySem.W.mg_none_of X G z1
  have m_all := PySem.W.mg_none_of X G z2
  have m_repr := PySem.W.mg_none_of X G z3
  have m_len := PySem.W.mg_none_of X G z4
  have m_isinstance := PySem.W.mg_none_of X G z5
  have m_list := PySem.W.mg_none_of X G z6
  have m_tuple := PySem.W.mg_none_of X G z7
  have m_str := PySem.W.mg_none_of X G z8
  have m_int := PySem.W.mg_none_of X G z9
  have m_bool := PySem.W.mg_none_of X G z10
  have m_dict := PySem.W.mg_none_of X G z11
  have m_range := PySem.W.mg_none_of X G z12
  have m_enumerate := PySem.W.mg_none_of X G z13
  have m_sum := PySem.W.mg_none_of X G z14
  have m_sorted := PySem.W.mg_none_of X G z15
  have m_abs := PySem.W.mg_none_of X G z16
  have m_min := PySem.W.mg_none_of X G z17
  have m_max := PySem.W.mg_none_of X G z18
  have b1 := F1.binds (ps := ["value"]) fun _ _ _ _ _ _ us hl => match us, hl with | [_], _ => rfl
  have b2 := F2.binds (ps := ["value", "many"]) fun _ _ _ _ _ _ us hl => match us, hl with | [_, _], _ => rfl
  have b3 := F3.binds (ps := ["items"]) fun _ _ _ _ _ _ us hl => match us, hl with | [_], _ => rfl
  have b4 := F4.binds (ps := ["tree"]) fun _ _ _ _ _ _ us hl => match us, hl with | [_], _ => rfl
  have b5 := F5.binds (ps := ["value"]) fun _ _ _ _ _ _ us hl => match us, hl with | [_], _ => rfl
  have b6 := F6.binds (ps := ["tree", "kind"]) fun _ _ _ _ _ _ us hl => match us, hl with | [_, _], _ => rfl
  have b7 := F7.binds (ps := ["tree", "kind", "path"]) fun _ _ _ _ _ _ us hl => match us, hl with | [_, _, _], _ => rfl
  have b8 := F8.binds (ps := ["tree", "kind"]) fun _ _ _ _ _ _ us hl => match us, hl with | [_, _], _ => rfl
  have b9 := F9.binds (ps := ["tree"]) fun _ _ _ _ _ _ us hl => match us, hl with | [_], _ => rfl
  have b10 := F10.binds (ps := ["tree"]) fun _ _ _ _ _ _ us hl => match us, hl with | [_], _ => rfl
  have b11 := F11.binds (ps := ["parts"]) fun _ _ _ _ _ _ us hl => match us, hl with | [_], _ => rfl
  have b12 := F12.binds (ps := ["tree"]) fun _ _ _ _ _ _ us hl => match us, hl with | [_], _ => rfl
  have b13 := F13.binds (ps := ["parts"]) fun _ _ _ _ _ _ us hl => match us, hl with | [_], _ => rfl
  have b14 := F14.binds (ps := ["parts", "index"]) fun _ _ _ _ _ _ us hl => match us, hl with | [_, _], _ => rfl
  have b15 := F15.binds (ps := ["tree", "index"]) fun _ _ _ _ _ _ us hl => match us, hl with | [_, _], _ => rfl
  have b16 := F16.binds (ps := ["tree", "value"]) fun _ _ _ _ _ _ us hl => match us, hl with | [_, _], _ => rfl
  have b17 := F17.binds (ps := ["_law_script"]) fun _ _ _ _ _ _ us hl => match us, hl with | [_], _ => rfl
  have b18 := F18.binds (ps := ["_law_deck", "_law_many"]) fun _ _ _ _ _ _ us hl => match us, hl with | [_, _], _ => rfl
  have b19 := F19.binds (ps := ["_law_deck", "_law_items"]) fun _ _ _ _ _ _ us hl => match us, hl with | [_, _], _ => rfl
  have b20 := F20.binds (ps := ["_law_deck", "_law_letters"]) fun _ _ _ _ _ _ us hl => match us, hl with | [_, _], _ => rfl
  have b21 := F21.binds (ps := ["_law_deck", "_law_low", "_law_high"]) fun _ _ _ _ _ _ us hl => match us, hl with | [_, _, _], _ => rfl
  have b22 := F22.binds (ps := ["_law_tree", "_law_letter"]) fun _ _ _ _ _ _ us hl => match us, hl with | [_, _], _ => rfl
  have b23 := F23.binds (ps := ["_law_order_here"]) fun _ _ _ _ _ _ us hl => match us, hl with | [_], _ => rfl
  have b24 := F24.binds (ps := ["_law_letters"]) fun _ _ _ _ _ _ us hl => match us, hl with | [_], _ => rfl
  have b25 := F25.binds (ps := ["_law_tree"]) fun _ _ _ _ _ _ us hl => match us, hl with | [_], _ => rfl
  have M : Mgs mg := ⟨m_zip, m_all, m_repr, m_len, m_isinstance, m_list, m_tuple, m_str, m_int, m_bool, m_dict, m_range, m_enumerate, m_sum, m_sorted, m_abs, m_min, m_max⟩
  have Kk : KindsT K mg aK := ⟨PySem.W.mg_of X G aKn, fun H => .inr ⟨_, _, _, aKl, rfl, rfl, (by show 4 ≤ sizeLine; decide), .cons ⟨_, rfl⟩ (.cons ⟨_, rfl⟩ (.cons ⟨_, rfl⟩ (.cons ⟨_, rfl⟩ .nil)))⟩⟩
  have Dis_whole_number : Df l.prog w K mg base 1 "is_whole_number" ["value"] spWhole := ⟨f1, _, ok_whole (k := 0) F1 M, b1, k1, g1⟩
  have Dis_index : Df l.prog w K mg base 2 "is_index" ["value", "many"] spIndex := ⟨f2, _, ok_index (k := 0) F2 Dis_whole_number, b2, k2, g2⟩
  have Dsize_of : Df l.prog w K mg base 60 "size_of" ["tree"] (fun vs H Q _ => ∃ (v : V) (t : B), vs = [v] ∧ BAt H v t ∧ t.size < 60 ∧ Q (.int (t.size : Int)) H) := ⟨f4, _, ok_size F4 b4 g4 60, b4, k4, g4⟩
  have Dis_kind : Df l.prog w K mg base 1 "is_kind" ["value"] spKind := ⟨f5, _, ok_kind (k := 0) F5 M Kk, b5, k5, g5⟩
  have Ddeep_steps : Df l.prog w K mg base 60 "deep_steps" ["tree", "kind", "path"] (spDeep 60) := ⟨f7, _, ok_deep F7 b7 g7 60, b7, k7, g7⟩
  have Dordered_steps : Df l.prog w K mg base 61 "ordered_steps" ["tree", "kind"] spSteps := ⟨f6, _, ok_steps F6 Dis_kind Ddeep_steps, b6, k6, g6⟩
  have Dwalk : Df l.prog w K mg base 62 "walk" ["tree", "kind"] spWalk := ⟨f8, _, ok_walk F8 Dordered_steps, b8, k8, g8⟩
  have Dis_ascending : Df l.prog w K mg base 1 "is_ascending" ["items"] (spAsc K) := ⟨f3, _, ok_asc (k := 0) F3 M, b3, k3, g3⟩
  have Dis_search_tree : Df l.prog w K mg base 63 "is_search_tree" ["tree"] spSearch := ⟨f9, _, ok_search F9 Dwalk Dis_ascending, b9, k9, g9⟩
  have Dsizes_in : Df l.prog w K mg base 20 "sizes_in" ["tree"] (spSizesIn 20) := ⟨f10, _, ok_sizesIn F10 M b10 g10 20, b10, k10, g10⟩
  have Dcount_together : Df l.prog w K mg base 21 "count_together" ["parts"] (spTogether K) := ⟨f11, _, ok_together F11 M Dsizes_in, b11, k11, g11⟩
  have Dcount_orders : Df l.prog w K mg base 22 "count_orders" ["tree"] spCountO := ⟨f12, _, ok_countO F12 Dcount_together, b12, k12, g12⟩
  have Dnext_steps : Df l.prog w K mg base 3 "next_steps" ["parts"] (spNextSteps K [(PT, ("next_steps.<locals>.<lambda>" : Str))]) := ⟨f13, _, ok_nextSteps F13 eCd M TB (List.mem_singleton.mpr rfl) (fun p hp _ => by rw [List.mem_singleton.mp hp]), b13, k13, g13⟩
  have Dnumbered_order : Df l.prog w K mg base 41 "numbered_order" ["parts", "index"] (spNumO K [(PT, ("next_steps.<locals>.<lambda>" : Str))] 20) := ⟨f14, _, ok_numO F14 M b14 g14 Dnext_steps Dcount_together 20, b14, k14, g14⟩
  have Dorder_at : Df l.prog w K mg base 42 "order_at" ["tree", "index"] (spOrderAt [(PT, ("next_steps.<locals>.<lambda>" : Str))]) := ⟨f15, _, ok_orderAt F15 Dis_index Dcount_orders Dnumbered_order, b15, k15, g15⟩
  have Dorder_index : Df l.prog w K mg base 61 "order_index" ["tree", "value"] (spOrderIdx [(PT, ("next_steps.<locals>.<lambda>" : Str))]) := ⟨f16, _, ok_orderIdx F16 M Dnext_steps Dcount_together Dsize_of, b16, k16, g16⟩
  have D_law_begin : Df l.prog w K mg base 1 "_law_begin" ["_law_script"] (spBegin K) := ⟨f17, _, ok_begin (k := 0) F17 M, b17, k17, g17⟩
  have D_law_next : Df l.prog w K mg base 1 "_law_next" ["_law_deck", "_law_many"] spNext := ⟨f18, _, ok_next (k := 0) F18, b18, k18, g18⟩
  have D_law_mixed : Df l.prog w K mg base 2 "_law_mixed" ["_law_deck", "_law_items"] spMixed := ⟨f19, _, ok_mixed F19 M D_law_next, b19, k19, g19⟩
  have D_law_free : Df l.prog w K mg base 31 "_law_free" ["_law_deck", "_law_letters"] (spFree 30) := ⟨f20, _, ok_free F20 b20 g20 M D_law_next 30, b20, k20, g20⟩
  have D_law_order : Df l.prog w K mg base 32 "_law_order" ["_law_deck", "_law_low", "_law_high"] spOrder := ⟨f21, _, ok_order F21 M D_law_next D_law_mixed D_law_free, b21, k21, g21⟩
  have D_law_put : Df l.prog w K mg base 40 "_law_put" ["_law_tree", "_law_letter"] (spPut 40) := ⟨f22, _, ok_put F22 b22 g22 40, b22, k22, g22⟩
  have D_law_grown : Df l.prog w K mg base 41 "_law_grown" ["_law_order_here"] spGr := ⟨f23, _, ok_grown F23 D_law_put, b23, k23, g23⟩
  have D_law_search_trees : Df l.prog w K mg base 7 "_law_search_trees" ["_law_letters"] (spAllT 7) := ⟨f24, _, ok_allT F24 M b24 g24 7, b24, k24, g24⟩
  have D_law_shared_right : Df l.prog w K mg base 62 "_law_shared_right" ["_law_tree"] (spShared [(PT, ("next_steps.<locals>.<lambda>" : Str))]) := ⟨f25, _, ok_shared F25 M Dcount_orders Dsize_of Dorder_at Dorder_index, b25, k25, g25⟩
  exact ok_law F26 M D_law_begin D_law_order D_law_grown D_law_search_trees Dcount_orders Dis_search_tree D_law_shared_right
end Tw
open PySem PySem.W PyProof.Rows
set_option maxRecDepth 100000 in
set_option maxHeartbeats 0 in
theorem PySem.Challenge.cw_treewalks_k36_whole_orders_add_up_holds : PySem.Challenge.rw_treewalks_k36_whole_orders_add_up.Holds := by
  w_on; o_law; k_head; (case hw => w_witness2)
  k_fill
  refine LamX.walk_ofTs (l := PySem.Challenge.rw_treewalks_k36_whole_orders_add_up) (n := 63) (k := 66) (CX := fun _ => L2.CX0) (x := "_law_script") rfl (by decide) rfl ⟨rfl, by decide, by decide⟩ (fun w h Y => PySem.W.km_in_of Y) ?F (fun _ _ _ _ _ z => z)
  case F =>
    intro w mg fa h Y KX G hmg
    refine' Tw.all_mk KX G hmg ?aKn ?aKl ?eCd ?eLk ?eP ?eHd ?eNo ?eNe ?eTs ?a1 ?l1 ?c1 ?k1 ?a2 ?l2 ?c2 ?k2 ?a3 ?l3 ?c3 ?k3 ?a4 ?l4 ?c4 ?k4 ?a5 ?l5 ?c5 ?k5 ?a6 ?l6 ?c6 ?k6 ?a7 ?l7 ?c7 ?k7 ?a8 ?l8 ?c8 ?k8 ?a9 ?l9 ?c9 ?k9 ?a10 ?l10 ?c10 ?k10 ?a11 ?l11 ?c11 ?k11 ?a12 ?l12 ?c12 ?k12 ?a13 ?l13 ?c13 ?k13 ?a14 ?l14 ?c14 ?k14 ?a15 ?l15 ?c15 ?k15 ?a16 ?l16 ?c16 ?k16 ?a17 ?l17 ?c17 ?k17 ?a18 ?l18 ?c18 ?k18 ?a19 ?l19 ?c19 ?k19 ?a20 ?l20 ?c20 ?k20 ?a21 ?l21 ?c21 ?k21 ?a22 ?l22 ?c22 ?k22 ?a23 ?l23 ?c23 ?k23 ?a24 ?l24 ?c24 ?k24 ?a25 ?l25 ?c25 ?k25 ?a26 ?l26 ?c26 ?k26 ?z1 ?z2 ?z3 ?z4 ?z5 ?z6 ?z7 ?z8 ?z9 ?z10 ?z11 ?z12 ?z13 ?z14 ?z15 ?z16 ?z17 ?z18
    (case aKn => first | k_is | rfl | decide +kernel)
    (case aKl => first | k_is | rfl | decide +kernel)
    (case a1 => k_is)
    (case l1 => k_is)
    (case c1 => k_is)
    (case k1 => k_is)
    (case a2 => k_is)
    (case l2 => k_is)
    (case c2 => k_is)
    (case k2 => k_is)
    (case a3 => k_is)
    (case l3 => k_is)
    (case c3 => k_is)
    (case k3 => k_is)
    (case a4 => k_is)
    (case l4 => k_is)
    (case c4 => k_is)
    (case k4 => k_is)
    (case a5 => k_is)
    (case l5 => k_is)
    (case c5 => k_is)
    (case k5 => k_is)
    (case a6 => k_is)
    (case l6 => k_is)
    (case c6 => k_is)
    (case k6 => k_is)
    (case a7 => k_is)
    (case l7 => k_is)
    (case c7 => k_is)
    (case k7 => k_is)
    (case a8 => k_is)
    (case l8 => k_is)
    (case c8 => k_is)
    (case k8 => k_is)
    (case a9 => k_is)
    (case l9 => k_is)
    (case c9 => k_is)
    (case k9 => k_is)
    (case a10 => k_is)
    (case l10 => k_is)
    (case c10 => k_is)
    (case k10 => k_is)
    (case a11 => k_is)
    (case l11 => k_is)
    (case c11 => k_is)
    (case k11 => k_is)
    (case a12 => k_is)
    (case l12 => k_is)
    (case c12 => k_is)
    (case k12 => k_is)
    (case a13 => k_is)
    (case l13 => k_is)
    (case c13 => k_is)
    (case k13 => k_is)
    (case a14 => k_is)
    (case l14 => k_is)
    (case c14 => k_is)
    (case k14 => k_is)
    (case a15 => k_is)
    (case l15 => k_is)
    (case c15 => k_is)
    (case k15 => k_is)
    (case a16 => k_is)
    (case l16 => k_is)
    (case c16 => k_is)
    (case k16 => k_is)
    (case a17 => k_is)
    (case l17 => k_is)
    (case c17 => k_is)
    (case k17 => k_is)
    (case a18 => k_is)
    (case l18 => k_is)
    (case c18 => k_is)
    (case k18 => k_is)
    (case a19 => k_is)
    (case l19 => k_is)
    (case c19 => k_is)
    (case k19 => k_is)
    (case a20 => k_is)
    (case l20 => k_is)
    (case c20 => k_is)
    (case k20 => k_is)
    (case a21 => k_is)
    (case l21 => k_is)
    (case c21 => k_is)
    (case k21 => k_is)
    (case a22 => k_is)
    (case l22 => k_is)
    (case c22 => k_is)
    (case k22 => k_is)
    (case a23 => k_is)
    (case l23 => k_is)
    (case c23 => k_is)
    (case k23 => k_is)
    (case a24 => k_is)
    (case l24 => k_is)
    (case c24 => k_is)
    (case k24 => k_is)
    (case a25 => k_is)
    (case l25 => k_is)
    (case c25 => k_is)
    (case k25 => k_is)
    (case a26 => k_is)
    (case l26 => k_is)
    (case c26 => k_is)
    (case k26 => k_is)
    (case z1 => k_is)
    (case z2 => k_is)
    (case z3 => k_is)
    (case z4 => k_is)
    (case z5 => k_is)
    (case z6 => k_is)
    (case z7 => k_is)
    (case z8 => k_is)
    (case z9 => k_is)
    (case z10 => k_is)
    (case z11 => k_is)
    (case z12 => k_is)
    (case z13 => k_is)
    (case z14 => k_is)
    (case z15 => k_is)
    (case z16 => k_is)
    (case z17 => k_is)
    (case z18 => k_is)
    (case eCd => rfl)
    (case eLk => k_is)
    (case eP => rfl)
    (case eHd => first | kernel_rfl | decide +kernel | rfl)
    (case eNo => first | kernel_rfl | decide +kernel | rfl | k_is)
    (case eNe => first | decide +kernel | decide)
    (case eTs => exact PySem.W.km_tabs_of Y _ (by first | k_mem | simp | decide))
