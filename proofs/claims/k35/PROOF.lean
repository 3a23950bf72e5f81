import PyProof.Rows.All
import Wide.All
import OpenK.AllK
import Wide.FinOn
import HandS.ForMost
import HandS.ForExc
import HandS.Wide
import HandS.IsInst
import HandS.Flow
import HandS.FStrTup
import HandS.NoneIn
import HandS.TupAny
import HandS.Style
import HandS.TryMany
import HandS.ExcIs
import HandS.ExcField
import HandS.ExcOwn
import KE.KExcInit
import KE.KExcIs
import HandS.Walk
import HandS.Zip
import HandS.Star
import HandS.Style
import PyProof.Rows.SortShellAny
import KE.GoesZip
import KE.GoesMore
import KE.SortKeyHeap
import HandS.Lambda
import HandS.EndTab
import HandS.TupLen
import HandS.Iter
import KE.KeyNested
import HandS.Strs
import HandS.Sort
import HandS.Conv
import PySem.Challenge.RW_treewalks_k35_whole_all_orders
set_option Elab.async false
set_option maxRecDepth 100000
set_option maxHeartbeats 4000000
namespace Tw
open PySem PySem.Spec PyProof.Rows L2
/-! ### trees over signs -/
abbrev ch (c : Nat) : Str := ⟨#[c]⟩
def tx (l : List Nat) : Str := ⟨l.toArray⟩
theorem tx_cps (l : List Nat) : (tx l).cps.toList = l := rfl
theorem tx_size (l : List Nat) : (tx l).cps.size = l.length := rfl
theorem tx_len (l : List Nat) : (tx l).length = l.length := rfl
theorem tx_one (c : Nat) : tx [c] = ch c := rfl
theorem tx_app (a b : List Nat) : tx a ++ tx b = tx (a ++ b) := by
  show (⟨(tx a).cps ++ (tx b).cps⟩ : Str) = _
  simp [tx]
theorem ch_app (c : Nat) (b : List Nat) : ch c ++ tx b = tx (c :: b) := tx_app [c] b
theorem tx_inj {a b : List Nat} (h : tx a = tx b) : a = b := congrArg (fun z : Str => z.cps.toList) h
theorem ch_inj {a b : Nat} (h : ch a = ch b) : a = b := by have := tx_inj (a := [a]) (b := [b]) h; simpa using this
theorem ch_lt (a b : Nat) : decide ((ch a).cps.toList < (ch b).cps.toList) = decide (a < b) := by
  have : ((ch a).cps.toList < (ch b).cps.toList) ↔ a < b := by
    show [a] < [b] ↔ _
    simp [List.cons_lt_cons_iff]
  simp only [this]
theorem tx_to (l : List Nat) (k : Nat) : cutS (tx l) none (some (k : Int)) = tx (l.take k) := by
  unfold cutS tx
  show (⟨_⟩ : Str) = ⟨_⟩
  rw [HT.sIx_nat, HT.sIx_none]
  show (⟨((l.drop 0).take (min k l.length - 0)).toArray⟩ : Str) = ⟨(l.take k).toArray⟩
  rw [List.drop_zero, Nat.sub_zero, Nat.min_def]
  split
  · rfl
  · rw [List.take_of_length_le (Nat.le_refl _), List.take_of_length_le (by omega)]
theorem tx_from (l : List Nat) (k : Nat) : cutS (tx l) (some (k : Int)) none = tx (l.drop k) := by
  unfold cutS tx
  show (⟨_⟩ : Str) = ⟨_⟩
  rw [HT.sIx_nat, HT.sIx_none]
  show (⟨((l.drop (min k l.length)).take (l.length - min k l.length)).toArray⟩ : Str) = ⟨(l.drop k).toArray⟩
  by_cases h : k ≤ l.length
  · rw [Nat.min_eq_left h, List.take_of_length_le (by rw [List.length_drop]; omega)]
  · rw [Nat.min_eq_right (by omega), List.drop_eq_nil_of_le (Nat.le_refl _), List.drop_eq_nil_of_le (by omega), List.take_nil]
theorem joinL_ones : ∀ l : List Nat, TL.joinL [] (l.map fun c => [c]) = l
  | [] => rfl
  | [c] => rfl
  | c :: d :: r => by
    have := joinL_ones (d :: r)
    show [c] ++ ([] ++ TL.joinL [] ((d :: r).map fun c => [c])) = _
    rw [this]; rfl
theorem tx_join (l : List Nat) : Txt.join (Str.ofString "") (l.map ch) = tx l := by
  rw [TL.join_eq]
  have e := TL.tl_join (Str.ofString "") (l.map ch)
  refine TL.ext_tl (e.trans ?_)
  rw [List.map_map]
  exact joinL_ones l
theorem tx_joinOk (l : List Nat) (h : l.length ≤ 1000) : ((l.map ch).map (·.length)).sum + (l.map ch).length * (Str.ofString "").length ≤ 16777216 := by
  have e0 : (Str.ofString "").length = 0 := by decide +kernel
  have e1 : ∀ l : List Nat, ((l.map ch).map (·.length)).sum = l.length := by
    intro l
    induction l with
    | nil => rfl
    | cons c r ih =>
      rw [List.map_cons, List.map_cons, List.sum_cons, ih, List.length_cons]
      show 1 + r.length = _
      omega
  rw [e0, e1]
  omega
inductive B where
  | nil
  | node (l : B) (x : Nat) (r : B)
  deriving DecidableEq
def B.size : B → Nat
  | .nil => 0
  | .node l _ r => l.size + 1 + r.size
def B.deep : B → Nat
  | .nil => 0
  | .node l _ r => 1 + max l.deep r.deep
def B.data : B → PyData
  | .nil => .none
  | .node l x r => .tuple [l.data, .str (ch x), r.data]
def B.pre : B → List Nat
  | .nil => []
  | .node l x r => x :: (l.pre ++ r.pre)
def B.mid : B → List Nat
  | .nil => []
  | .node l x r => l.mid ++ x :: r.mid
theorem B.deep_le : ∀ t : B, t.deep ≤ t.size
  | .nil => Nat.le_refl _
  | .node l _ r => by
    have h1 := l.deep_le
    have h2 := r.deep_le
    show 1 + max l.deep r.deep ≤ l.size + 1 + r.size
    omega
theorem B.pre_len : ∀ t : B, t.pre.length = t.size
  | .nil => rfl
  | .node l x r => by
    have h1 := l.pre_len
    have h2 := r.pre_len
    show (x :: (l.pre ++ r.pre)).length = l.size + 1 + r.size
    rw [List.length_cons, List.length_append]
    omega
theorem B.mid_len : ∀ t : B, t.mid.length = t.size
  | .nil => rfl
  | .node l x r => by
    have h1 := l.mid_len
    have h2 := r.mid_len
    show (l.mid ++ x :: r.mid).length = l.size + 1 + r.size
    rw [List.length_append, List.length_cons]
    omega
theorem B.mid_mem (t : B) (c : Nat) : c ∈ t.mid ↔ c ∈ t.pre := by
  induction t with
  | nil => exact Iff.rfl
  | node l x r h1 h2 =>
    show c ∈ l.mid ++ x :: r.mid ↔ c ∈ x :: (l.pre ++ r.pre)
    rw [List.mem_append, List.mem_cons, List.mem_cons, List.mem_append, h1, h2]
    constructor
    · rintro (h | h | h)
      · exact .inr (.inl h)
      · exact .inl h
      · exact .inr (.inr h)
    · rintro (h | h | h)
      · exact .inr (.inl h)
      · exact .inl h
      · exact .inr (.inr h)
/-- the tree t lies at v -/
inductive BAt (H : Hp) : V → B → Prop
  | nil : BAt H .non .nil
  | node {a : Addr} {l r : V} {x : Nat} {tl tr : B} : H a = some (.tup [l, .str (ch x), r]) → BAt H l tl → BAt H r tr → BAt H (.ref a) (.node tl x tr)
/-- tuples stand still -/
def KeepT (H H' : Hp) : Prop := ∀ b xs, H b = some (.tup xs) → H' b = some (.tup xs)
theorem KeepT.refl (H : Hp) : KeepT H H := fun _ _ h => h
theorem KeepT.trans {H H1 H2 : Hp} (a : KeepT H H1) (b : KeepT H1 H2) : KeepT H H2 := fun c xs h => b c xs (a c xs h)
theorem Same.keepT {H H' : Hp} (h : Same H H') : KeepT H H' := fun b xs e => h b _ e
theorem BAt.keep {H H' : Hp} (k : KeepT H H') {v : V} {t : B} (h : BAt H v t) : BAt H' v t := by
  induction h with
  | nil => exact .nil
  | node e _ _ h1 h2 => exact .node (k _ _ e) h1 h2
theorem BAt.same {H H' : Hp} (k : Same H H') {v : V} {t : B} (h : BAt H v t) : BAt H' v t := h.keep (Tw.Same.keepT k)
theorem BAt.dp {K : PySem.W.Frag} {H : Hp} {v : V} {t : B} (h : BAt H v t) : Dp K H v t.data := by
  induction h with
  | nil => exact .non
  | node e _ _ h1 h2 => exact .tup (SqT.of e) (.cons h1 (.cons (.str _) (.cons h2 .nil)))
theorem BAt.inv {H : Hp} {v : V} {t : B} (h : BAt H v t) : (v = .non ∧ t = .nil) ∨ ∃ a l r x tl tr, v = .ref a ∧ t = .node tl x tr ∧ H a = some (.tup [l, .str (ch x), r]) ∧ BAt H l tl ∧ BAt H r tr := by
  cases h with
  | nil => exact .inl ⟨rfl, rfl⟩
  | node e h1 h2 => exact .inr ⟨_, _, _, _, _, _, rfl, rfl, e, h1, h2⟩
theorem same_new {H : Hp} {p : Addr} (h : H p = none) (o : HO) : Same H (upd H p o) := fun b u q => by rw [upd_ne (ne_of_none q h)]; exact q
theorem small {n : Nat} (h : n ≤ 1000) : n ≤ sizeLine := Nat.le_of_lt (small1000 h)
theorem at_map {α : Type} {f : α → V} {ns : List α} {i : Int} {v : α} (h0 : 0 ≤ i) (h : ns[i.toNat]? = some v) : atI (ns.map f) i = some (f v) := by
  have e : i = ((i.toNat : Nat) : Int) := by omega
  rw [e]
  exact atI_nat (by rw [List.getElem?_map, h]; rfl)
theorem ixN_nat {n : Nat} {i : Int} (h0 : 0 ≤ i) (h : i < n) : ixN n i = some i.toNat := by
  unfold ixN
  first
    | rw [if_pos h0, if_pos h]
    | (rw [if_pos h0]; rw [if_pos (by omega)])
    | simp [h0, h]
theorem cut_to (xs : List V) (k : Nat) : cutV xs none (some (k : Int)) = xs.take k := by
  unfold cutV
  rw [HT.sIx_nat, HT.sIx_none, List.drop_zero, Nat.sub_zero]
  rw [Nat.min_def]
  split
  · rfl
  · rw [List.take_of_length_le (Nat.le_refl _), List.take_of_length_le (by omega)]
theorem cut_from (xs : List V) (k : Nat) : cutV xs (some (k : Int)) none = xs.drop k := by
  unfold cutV
  rw [HT.sIx_nat, HT.sIx_none]
  by_cases h : k ≤ xs.length
  · rw [Nat.min_eq_left h, List.take_of_length_le (by rw [List.length_drop]; omega)]
  · rw [Nat.min_eq_right (by omega), List.drop_eq_nil_of_le (Nat.le_refl _), List.drop_eq_nil_of_le (by omega), List.take_nil]
theorem kept {σ : L2.St} {H : Hp} {A B : Hp → Prop} (h : A H) : tYes σ H (fun b H3 => if b = true then A H3 else B H3) := by
  show if true = true then A H else B H
  exact iteT h
theorem erase_map {α β : Type} (f : α → β) : ∀ (l : List α) (i : Nat), (l.map f).eraseIdx i = (l.eraseIdx i).map f
  | [], _ => rfl
  | _ :: _, 0 => rfl
  | x :: l, i + 1 => congrArg (f x :: ·) (erase_map f l i)
/-- a def that stands at a name, with its promise -/
structure Df (P : Program) (w : World) (K : PySem.W.Frag) (mg : Str → Option Value) (base : Heap) (k : Nat) (nm : Str) (ps : List Str) (sp : Sp) where
  f : Addr
  fd : FuncData
  ok : FnOk P w K mg base CX0 k f fd ps sp
  b : Binds K fd ps []
  kp : PySem.W.keepIn K (.ref f) = true
  g : mg nm = some (.ref f)
structure Mgs (mg : Str → Option Value) : Prop where
  zip : mg "zip" = none
  all : mg "all" = none
  repr : mg "repr" = none
  len : mg "len" = none
  isinstance : mg "isinstance" = none
  list : mg "list" = none
  tuple : mg "tuple" = none
  str : mg "str" = none
  int : mg "int" = none
  bool : mg "bool" = none
  dict : mg "dict" = none
  range : mg "range" = none
  enumerate : mg "enumerate" = none
  sum : mg "sum" = none
  sorted : mg "sorted" = none
  abs : mg "abs" = none
  min : mg "min" = none
  max : mg "max" = none
theorem vals_signs : ∀ (l : List Nat) (vs : List Value), vs.length = l.length → (∀ (j : Nat) (v : Value), vs[j]? = some v → ∃ c u, l[j]? = some c ∧ v = .str ⟨#[c]⟩ u) → Vals (l.map fun c => V.str ⟨#[c]⟩) vs
  | [], [], _, _ => .nil
  | [], _ :: _, h, _ => by simp at h
  | _ :: _, [], h, _ => by simp at h
  | c :: l, v :: vs, h, k => by
    obtain ⟨c', u, e, rfl⟩ := k 0 v rfl
    cases e
    exact .cons ⟨u, rfl⟩ (vals_signs l vs (by simpa using h) fun j v e => k (j + 1) v e)
theorem call_signs {X : Cx} (hc : X.calm = true) : CallR X (.type "list") (fun xs H Q => ∃ x : Str, xs = [.str x] ∧ x.cps.size ≤ 1000 ∧ ∀ p, H p = none → Q (.ref p) (upd H p (.lst (x.cps.toList.map fun c => V.str ⟨#[c]⟩)))) := by
  intro pins s σ H xs us Q I r h
  obtain ⟨x, rfl, hz, q⟩ := h
  obtain ⟨u, rfl, t, rfl⟩ := vals1 r
  have hz' : x.cps.size ≤ sizeLine := small hz
  refine call_list_str (I.ok.hd hc) x t (fun h' tk acc' c' hk hS hacc => ?_) hz'
  have hv : Vals (x.cps.toList.map fun c => V.str ⟨#[c]⟩) acc'.toList := vals_signs _ _ (by rw [Array.length_toList, Array.length_toList]; exact hacc.1) fun j v e => by
    obtain ⟨c, u, h1, h2⟩ := hacc.2 j v (by rw [← Array.getElem?_toList]; exact e)
    exact ⟨c, u, by rw [Array.getElem?_toList]; exact h1, h2⟩
  exact ⟨.ref s.heap.objs.size, _, I.laid (t' := tk) hk (Nat.le_refl _) (show ObjOk X.prog X.w _ h' _ (.lst _) from ⟨by rw [List.length_map, Array.length_toList]; exact hz', acc'.toList, c', hv, by rw [Array.toArray_toList]; exact hS⟩), rfl, q _ (I.hok.fresh (Nat.le_refl _))⟩
/-- for c in text -/
theorem for_text {x : Str} {g : TG} {tb : TS} {D : Ends} {σ : L2.St} {H : Hp} (Pv : Nat → L2.St → Hp → Prop) (h0 : Pv 0 σ H)
    (hs : ∀ i c σ H, x.cps.toList[i]? = some c → Pv i σ H → g (.str ⟨#[c]⟩) σ H fun σ2 H2 => tb { D with nx := Pv (i + 1), ct := Pv (i + 1), bk := D.nx } σ2 H2)
    (hd : ∀ σ H, Pv x.cps.toList.length σ H → D.nx σ H) :
    ∃ W : Nat → Nat → L2.St → Hp → Prop, (∃ m, W 0 m σ H) ∧ ∀ i m σ H, W i m σ H →
      ((Its x).stop i H ∧ D.nx σ H) ∨ ((Its x).go i H ∧ ∃ N : L2.St → Hp → Prop, (∀ σ' H', N σ' H' → ∃ m', m' < m ∧ W (i + 1) m' σ' H') ∧ ∀ v H', (Its x).yld i H v H' → g v σ H' fun σ2 H2 => tb { D with nx := N, ct := N, bk := D.nx } σ2 H2) := by
  refine for_it walk_str Pv h0 (fun _ _ _ _ _ => trivial) (fun i v σ H H' hi hp hy => ?_) (fun σ H hp => hd σ H (by rw [Array.length_toList]; exact hp))
  obtain ⟨rfl, c, hc, rfl⟩ := hy
  exact hs i c σ H' (by rw [Array.getElem?_toList]; exact hc) hp
theorem lc_text {x : Str} {g : TG} {tt : TT} {te : TE} {vs : List Nat} {σ : L2.St} {H1 : Hp} {D : Addr} {Qd : Hp → Prop} (Pv : Nat → Hp → Prop) (h0 : Pv 0 (upd H1 D (.lst [])))
    (hs : ∀ i c H, x.cps.toList[i]? = some c → Pv i H → g (.str ⟨#[c]⟩) (wipe σ vs) H fun σ2 H2 => wipe σ2 vs = wipe σ vs ∧ tt σ2 H2 fun b H3 =>
      if b = true then te σ2 H3 fun y H4 => ∃ acc, H4 D = some (.lst acc) ∧ acc.length < sizeLine ∧ Pv (i + 1) (upd H4 D (.lst (acc ++ [y]))) else Pv (i + 1) H3) (hd : ∀ H, Pv x.cps.toList.length H → Qd H) :
    ∃ W : Nat → Nat → Hp → Prop, (∃ m, W 0 m (upd H1 D (.lst []))) ∧ ∀ i m H, W i m H →
      ((Its x).stop i H ∧ Qd H) ∨ ((Its x).go i H ∧ ∃ Nx : Hp → Prop, (∀ H', Nx H' → ∃ m', m' < m ∧ W (i + 1) m' H') ∧ ∀ v H', (Its x).yld i H v H' → g v (wipe σ vs) H' fun σ2 H2 => wipe σ2 vs = wipe σ vs ∧ tt σ2 H2 fun b H3 =>
        if b = true then te σ2 H3 fun y H4 => ∃ acc, H4 D = some (.lst acc) ∧ acc.length < sizeLine ∧ Nx (upd H4 D (.lst (acc ++ [y]))) else Nx H3) := by
  refine lc_it walk_str Pv h0 (fun _ _ _ _ => trivial) (fun i v H H' hi hp hy => ?_) (fun H hp => hd H (by rw [Array.length_toList]; exact hp))
  obtain ⟨rfl, c, hc, rfl⟩ := hy
  exact hs i c H' (by rw [Array.getElem?_toList]; exact hc) hp
/-! ### the text by places -/
def top (i : Nat) : Stmt := PySem.Challenge.pw_treewalks_k35_whole_all_orders.main.body.getD i (.Pass ⟨0, 0, 0, 0⟩)
abbrev s_is_whole_number : Stmt := top 8
abbrev s_is_index : Stmt := top 9
abbrev s_is_ascending : Stmt := top 10
abbrev s_size_of : Stmt := top 12
abbrev s_is_kind : Stmt := top 15
abbrev s_ordered_steps : Stmt := top 16
abbrev s_deep_steps : Stmt := top 17
abbrev s_level_steps : Stmt := top 18
abbrev s_walk : Stmt := top 19
abbrev s_is_barrier : Stmt := top 21
abbrev s_barriers_of : Stmt := top 22
abbrev s_search_certificate : Stmt := top 23
abbrev s_with_letter : Stmt := top 24
abbrev s_inserted : Stmt := top 25
abbrev s_tree_of : Stmt := top 26
abbrev s_sizes_in : Stmt := top 27
abbrev s_count_together : Stmt := top 28
abbrev s_count_orders : Stmt := top 29
abbrev s_next_steps : Stmt := top 30
abbrev s_order_index : Stmt := top 31
abbrev s__law_begin : Stmt := top 33
abbrev s__law_next : Stmt := top 34
abbrev s__law_same : Stmt := top 35
abbrev s__law_mixed : Stmt := top 36
abbrev s__law_free : Stmt := top 37
abbrev s__law_order : Stmt := top 38
abbrev s__law_barriers : Stmt := top 39
abbrev s__law_all : Stmt := top 40
abbrev s__law_grouped : Stmt := top 41
abbrev s_law : Stmt := top 42
abbrev s_TooLarge___init__ : Stmt := inClass (top 3) 0
abbrev s_Twice___init__ : Stmt := inClass (top 4) 0
abbrev s_NoKind___init__ : Stmt := inClass (top 6) 0
theorem sc_is_whole_number : FnScope ["value"] ["value"] (defScope s_is_whole_number) := ⟨rfl, rfl, rfl, by decide +kernel, rfl, by decide +kernel, by decide +kernel⟩
theorem sc_is_index : FnScope ["value", "many"] ["value", "many"] (defScope s_is_index) := ⟨rfl, rfl, rfl, by decide +kernel, rfl, by decide +kernel, by decide +kernel⟩
theorem sc_is_ascending : FnScope ["items", "one", "other"] ["items"] (defScope s_is_ascending) := ⟨rfl, rfl, rfl, by decide +kernel, rfl, by decide +kernel, by decide +kernel⟩
theorem sc_size_of : FnScope ["tree"] ["tree"] (defScope s_size_of) := ⟨rfl, rfl, rfl, by decide +kernel, rfl, by decide +kernel, by decide +kernel⟩
theorem sc_is_kind : FnScope ["value"] ["value"] (defScope s_is_kind) := ⟨rfl, rfl, rfl, by decide +kernel, rfl, by decide +kernel, by decide +kernel⟩
theorem sc_ordered_steps : FnScope ["tree", "kind"] ["tree", "kind"] (defScope s_ordered_steps) := ⟨rfl, rfl, rfl, by decide +kernel, rfl, by decide +kernel, by decide +kernel⟩
theorem sc_deep_steps : FnScope ["tree", "kind", "path", "left", "label", "right", "root", "lefts", "rights"] ["tree", "kind", "path"] (defScope s_deep_steps) := ⟨rfl, rfl, rfl, by decide +kernel, rfl, by decide +kernel, by decide +kernel⟩
theorem sc_level_steps : FnScope ["tree"] ["tree"] (defScope s_level_steps) := ⟨rfl, rfl, rfl, by decide +kernel, rfl, by decide +kernel, by decide +kernel⟩
theorem sc_walk : FnScope ["tree", "kind", "path", "label"] ["tree", "kind"] (defScope s_walk) := ⟨rfl, rfl, rfl, by decide +kernel, rfl, by decide +kernel, by decide +kernel⟩
theorem sc_is_barrier : FnScope ["order", "value", "place", "low", "high", "behind"] ["order", "value"] (defScope s_is_barrier) := ⟨rfl, rfl, rfl, by decide +kernel, rfl, by decide +kernel, by decide +kernel⟩
theorem sc_barriers_of : FnScope ["order", "behind", "high", "low"] ["order"] (defScope s_barriers_of) := ⟨rfl, rfl, rfl, by decide +kernel, rfl, by decide +kernel, by decide +kernel⟩
theorem sc_search_certificate : FnScope ["order", "barriers"] ["order"] (defScope s_search_certificate) := ⟨rfl, rfl, rfl, by decide +kernel, rfl, by decide +kernel, by decide +kernel⟩
theorem sc_with_letter : FnScope ["tree", "letter", "left", "label", "right"] ["tree", "letter"] (defScope s_with_letter) := ⟨rfl, rfl, rfl, by decide +kernel, rfl, by decide +kernel, by decide +kernel⟩
theorem sc_inserted : FnScope ["tree", "letter"] ["tree", "letter"] (defScope s_inserted) := ⟨rfl, rfl, rfl, by decide +kernel, rfl, by decide +kernel, by decide +kernel⟩
theorem sc_tree_of : FnScope ["order", "tree", "letter"] ["order"] (defScope s_tree_of) := ⟨rfl, rfl, rfl, by decide +kernel, rfl, by decide +kernel, by decide +kernel⟩
theorem sc_sizes_in : FnScope ["tree", "left", "label", "right", "below"] ["tree"] (defScope s_sizes_in) := ⟨rfl, rfl, rfl, by decide +kernel, rfl, by decide +kernel, by decide +kernel⟩
theorem sc_count_together : FnScope ["parts", "part", "size", "sizes", "orders", "at"] ["parts"] (defScope s_count_together) := ⟨rfl, rfl, rfl, by decide +kernel, rfl, by decide +kernel, by decide +kernel⟩
theorem sc_count_orders : FnScope ["tree"] ["tree"] (defScope s_count_orders) := ⟨rfl, rfl, rfl, by decide +kernel, rfl, by decide +kernel, by decide +kernel⟩
theorem sc_next_steps : FnScope ["parts", "found", "at", "left", "letter", "right", "side", "sides"] ["parts"] (defScope s_next_steps) := ⟨rfl, rfl, rfl, by decide +kernel, rfl, by decide +kernel, by decide +kernel⟩
theorem sc_order_index : FnScope ["tree", "value", "index", "parts", "letter", "steps", "other", "rest", "taken"] ["tree", "value"] (defScope s_order_index) := ⟨rfl, rfl, rfl, by decide +kernel, rfl, by decide +kernel, by decide +kernel⟩
theorem sc__law_begin : FnScope ["_law_script", "_law_cell", "_law_greats", "_law_whole"] ["_law_script"] (defScope s__law_begin) := ⟨rfl, rfl, rfl, by decide +kernel, rfl, by decide +kernel, by decide +kernel⟩
theorem sc__law_next : FnScope ["_law_deck", "_law_many", "_law_rest", "_law_mixed_here"] ["_law_deck", "_law_many"] (defScope s__law_next) := ⟨rfl, rfl, rfl, by decide +kernel, rfl, by decide +kernel, by decide +kernel⟩
theorem sc__law_same : FnScope ["_law_found", "_law_due", "_law_k"] ["_law_found", "_law_due"] (defScope s__law_same) := ⟨rfl, rfl, rfl, by decide +kernel, rfl, by decide +kernel, by decide +kernel⟩
theorem sc__law_mixed : FnScope ["_law_deck", "_law_items", "_law_rest", "_law_found"] ["_law_deck", "_law_items"] (defScope s__law_mixed) := ⟨rfl, rfl, rfl, by decide +kernel, rfl, by decide +kernel, by decide +kernel⟩
theorem sc__law_free : FnScope ["_law_deck", "_law_letters", "_law_spot"] ["_law_deck", "_law_letters"] (defScope s__law_free) := ⟨rfl, rfl, rfl, by decide +kernel, rfl, by decide +kernel, by decide +kernel⟩
theorem sc__law_order : FnScope ["_law_deck", "_law_low", "_law_high", "_law_size", "_law_way", "_law_letters"] ["_law_deck", "_law_low", "_law_high"] (defScope s__law_order) := ⟨rfl, rfl, rfl, by decide +kernel, rfl, by decide +kernel, by decide +kernel⟩
theorem sc__law_barriers : FnScope ["_law_order_here", "_law_found", "_law_size", "_law_p", "_law_q", "_law_r"] ["_law_order_here"] (defScope s__law_barriers) := ⟨rfl, rfl, rfl, by decide +kernel, rfl, by decide +kernel, by decide +kernel⟩
theorem sc__law_all : FnScope ["_law_letters", "_law_found", "_law_letter", "_law_longer", "_law_order_here", "_law_k"] ["_law_letters"] (defScope s__law_all) := ⟨rfl, rfl, rfl, by decide +kernel, rfl, by decide +kernel, by decide +kernel⟩
theorem sc__law_grouped : FnScope ["_law_orders", "_law_found", "_law_order_here"] ["_law_orders"] (defScope s__law_grouped) := ⟨rfl, rfl, rfl, by decide +kernel, rfl, by decide +kernel, by decide +kernel⟩
theorem sc_law : FnScope ["_law_script", "_law_deck", "_law_size", "_law_due", "_law_orders", "_law_order_here", "_law_free_here", "_law_known", "_law_groups", "_law_tree", "_law_numbers", "_law_many"] ["_law_script"] (defScope s_law) := ⟨rfl, rfl, rfl, by decide +kernel, rfl, by decide +kernel, by decide +kernel⟩
theorem sc_TooLarge___init__ : FnScope ["self", "limit"] ["self", "limit"] (defScope s_TooLarge___init__) := ⟨rfl, rfl, rfl, by decide +kernel, rfl, by decide +kernel, by decide +kernel⟩
theorem sc_Twice___init__ : FnScope ["self", "letter"] ["self", "letter"] (defScope s_Twice___init__) := ⟨rfl, rfl, rfl, by decide +kernel, rfl, by decide +kernel, by decide +kernel⟩
theorem sc_NoKind___init__ : FnScope ["self", "value"] ["self", "value"] (defScope s_NoKind___init__) := ⟨rfl, rfl, rfl, by decide +kernel, rfl, by decide +kernel, by decide +kernel⟩
/-! ### xs != [], xs == [] -/
section
variable {X : Cx}
theorem op_neL (hu : X.A.units < cLine) : OpR X (compareOp .NotEq) (fun x y H Q => ∃ a b xs, x = .ref a ∧ y = .ref b ∧ SqL X.K H a xs ∧ SqL X.K H b [] ∧ Q (.bl (!xs.isEmpty)) H) := by
  intro pins s σ H x y v u Q I rx ry h
  obtain ⟨a, b, xs, rfl, rfl, hx, hy, q⟩ := h
  cases rx
  cases ry
  obtain ⟨its, r1, t1, _⟩ := I.list hx
  obtain ⟨its2, r2, t2, _⟩ := I.list hy
  cases r2
  cases r1 with
  | nil =>
    have rc := SeqAt.RcNeAt.lists (A := X.A) (s := s) (items := ([] : List Value).toArray) (items2 := ([] : List Value).toArray) (e := fun _ => true) t1.isList t2.isList rfl hu (fun j h1 _ => absurd h1 (by simp))
    exact rc X.prog X.w X.xe _ ⟨.bl _, H, I, rfl, q⟩
  | cons _ _ =>
    have rc := SeqAt.RcNeAt.lists_lengths (A := X.A) (s := s) t1.isList t2.isList (by simp) hu
    exact rc X.prog X.w X.xe _ ⟨.bl _, H, I, rfl, q⟩
theorem cmpOf_ltS {prog : Program} {w : World} {A : Around} (x y : Str) (t u : Tok) :
    CmpOf prog w A .Lt (fun i v => (#[Value.str x t, Value.str y u])[i]? = some v) (fun i j => decide (([x, y].getD i x).cps.toList < ([x, y].getD j x).cps.toList)) := fun i j vi vj s Q E hi hj h => by
  have one : ∀ (i : Nat) (v : Value), (#[Value.str x t, Value.str y u])[i]? = some v → ∃ tk, v = .str ([x, y].getD i x) tk := fun i v e => by
    match i with
    | 0 => exact ⟨t, by simpa using e.symm⟩
    | 1 => exact ⟨u, by simpa using e.symm⟩
    | n + 2 => simp at e
  obtain ⟨t1, rfl⟩ := one i vi hi
  obtain ⟨t2, rfl⟩ := one j vj hj
  exact lt_str h
theorem cmpOf_gtS {prog : Program} {w : World} {A : Around} (x y : Str) (t u : Tok) :
    CmpOf prog w A .Gt (fun i v => (#[Value.str x t, Value.str y u])[i]? = some v) (fun i j => decide (([x, y].getD j x).cps.toList < ([x, y].getD i x).cps.toList)) := fun i j vi vj s Q E hi hj h => by
  have one : ∀ (i : Nat) (v : Value), (#[Value.str x t, Value.str y u])[i]? = some v → ∃ tk, v = .str ([x, y].getD i x) tk := fun i v e => by
    match i with
    | 0 => exact ⟨t, by simpa using e.symm⟩
    | 1 => exact ⟨u, by simpa using e.symm⟩
    | n + 2 => simp at e
  obtain ⟨t1, rfl⟩ := one i vi hi
  obtain ⟨t2, rfl⟩ := one j vj hj
  exact PySem.P.gt_str h
theorem argBest1 (bt : Nat → Nat → Bool) : argBest bt 1 = if bt 1 0 = true then 1 else 0 := rfl
theorem max_two_str {prog : Program} {w : World} {A : Around} {E : Value → Shared → Prop} {s : Shared} {Q : Value → Shared → Prop} {x y : Str} {t u : Tok} (hh : A.handled = none)
    (h : ∀ h' tk, (∀ c o, s.heap.get? c = some o → h'.get? c = some o) → Q (if x.cps.toList < y.cps.toList then .str y u else .str x t) { s with heap := h', toks := tk }) :
    wpAny (model prog w) A (call (.builtin "max") [.str x t, .str y u]) Q E s := by
  have hT : (s.heap.push { cls := .type "tuple", data := .seq #[.str x t, .str y u] }).IsTuple s.heap.objs.size #[.str x t, .str y u] := ⟨_, Heap.get?_push_size _ rfl, rfl, 0, rfl⟩
  refine call_max_two (wpAny_pyIter_tuple hT ?_)
  have hsz : (s.heap.push { cls := .type "tuple", data := .seq #[.str x t, .str y u] }).objs.size = s.heap.objs.size + 1 := Heap.size_push ..
  refine ⟨_, [_, s.heap.objs.size], [_], _, _, _, _, rfl, Walks.tuple (A := A.in1) hh _ s.heap.objs.size (by rw [hsz]; exact Nat.ne_of_lt (Nat.lt_succ_self _)) #[.str x t, .str y u],
    ⟨⟨_, Heap.get?_push_size _ rfl, rfl, rfl⟩, hT.push _⟩, fun c hc => ?_, by simp, cmpOf_gtS x y t u, fun v h' tk hP hk => ?_⟩
  · show c < ((s.heap.push _).push _).objs.size
    rw [Heap.size_push, hsz]
    rcases List.mem_cons.mp hc with rfl | hc
    · rw [hsz]; exact Nat.lt_succ_self _
    · rcases List.mem_cons.mp hc with rfl | hc
      · exact Nat.lt_succ_of_lt (Nat.lt_succ_self _)
      · cases hc
  · have hold : ∀ c o, s.heap.get? c = some o → h'.get? c = some o := fun c o e => by
      refine hk c o (fun hm => ?_) (Heap.get?_push_of_some _ (Heap.get?_push_of_some _ e))
      rcases List.mem_cons.mp hm with e1 | hm
      · have := Heap.lt_size e; rw [e1, hsz] at this; exact Nat.lt_irrefl _ (Nat.lt_of_succ_lt this)
      · cases hm
    have := h h' tk hold
    have hv : v = if x.cps.toList < y.cps.toList then .str y u else .str x t := by
      rw [show #[Value.str x t, Value.str y u].size - 1 = 1 from rfl, argBest1] at hP
      replace hP : #[Value.str x t, Value.str y u][if decide (x.cps.toList < y.cps.toList) = true then 1 else 0]? = some v := hP
      by_cases hc : x.cps.toList < y.cps.toList
      · rw [if_pos (decide_eq_true hc)] at hP
        rw [if_pos hc]
        exact (Option.some.inj hP).symm
      · rw [if_neg (fun z => hc (of_decide_eq_true z))] at hP
        rw [if_neg hc]
        exact (Option.some.inj hP).symm
    rw [hv]; exact this
theorem min_two_str {prog : Program} {w : World} {A : Around} {E : Value → Shared → Prop} {s : Shared} {Q : Value → Shared → Prop} {x y : Str} {t u : Tok} (hh : A.handled = none)
    (h : ∀ h' tk, (∀ c o, s.heap.get? c = some o → h'.get? c = some o) → Q (if y.cps.toList < x.cps.toList then .str y u else .str x t) { s with heap := h', toks := tk }) :
    wpAny (model prog w) A (call (.builtin "min") [.str x t, .str y u]) Q E s := by
  have hT : (s.heap.push { cls := .type "tuple", data := .seq #[.str x t, .str y u] }).IsTuple s.heap.objs.size #[.str x t, .str y u] := ⟨_, Heap.get?_push_size _ rfl, rfl, 0, rfl⟩
  refine call_min_two (wpAny_pyIter_tuple hT ?_)
  have hsz : (s.heap.push { cls := .type "tuple", data := .seq #[.str x t, .str y u] }).objs.size = s.heap.objs.size + 1 := Heap.size_push ..
  refine ⟨_, [_, s.heap.objs.size], [_], _, _, _, _, rfl, Walks.tuple (A := A.in1) hh _ s.heap.objs.size (by rw [hsz]; exact Nat.ne_of_lt (Nat.lt_succ_self _)) #[.str x t, .str y u],
    ⟨⟨_, Heap.get?_push_size _ rfl, rfl, rfl⟩, hT.push _⟩, fun c hc => ?_, by simp, cmpOf_ltS x y t u, fun v h' tk hP hk => ?_⟩
  · show c < ((s.heap.push _).push _).objs.size
    rw [Heap.size_push, hsz]
    rcases List.mem_cons.mp hc with rfl | hc
    · rw [hsz]; exact Nat.lt_succ_self _
    · rcases List.mem_cons.mp hc with rfl | hc
      · exact Nat.lt_succ_of_lt (Nat.lt_succ_self _)
      · cases hc
  · have hold : ∀ c o, s.heap.get? c = some o → h'.get? c = some o := fun c o e => by
      refine hk c o (fun hm => ?_) (Heap.get?_push_of_some _ (Heap.get?_push_of_some _ e))
      rcases List.mem_cons.mp hm with e1 | hm
      · have := Heap.lt_size e; rw [e1, hsz] at this; exact Nat.lt_irrefl _ (Nat.lt_of_succ_lt this)
      · cases hm
    have := h h' tk hold
    have hv : v = if y.cps.toList < x.cps.toList then .str y u else .str x t := by
      rw [show #[Value.str x t, Value.str y u].size - 1 = 1 from rfl, argBest1] at hP
      replace hP : #[Value.str x t, Value.str y u][if decide (y.cps.toList < x.cps.toList) = true then 1 else 0]? = some v := hP
      by_cases hc : y.cps.toList < x.cps.toList
      · rw [if_pos (decide_eq_true hc)] at hP
        rw [if_pos hc]
        exact (Option.some.inj hP).symm
      · rw [if_neg (fun z => hc (of_decide_eq_true z))] at hP
        rw [if_neg hc]
        exact (Option.some.inj hP).symm
    rw [hv]; exact this
theorem call_max2S (hc : X.calm = true) : CallR X (.builtin "max") (fun xs H Q => ∃ a b : Nat, xs = [.str (ch a), .str (ch b)] ∧ Q (.str (ch (max a b))) H) := by
  intro pins s σ H xs us Q I r h
  obtain ⟨a, b, rfl, q⟩ := h
  obtain ⟨u, w', rfl, ⟨t, rfl⟩, ⟨t', rfl⟩⟩ := vals2 r
  refine max_two_str (I.ok.hd hc) fun h' tk k => ⟨_, H, I.kept k, ?_, q⟩
  have e : ((ch a).cps.toList < (ch b).cps.toList) ↔ a < b := by
    have := ch_lt a b
    simpa using this
  by_cases hj : a < b
  · rw [if_pos (e.mpr hj), Nat.max_eq_right (Nat.le_of_lt hj)]; exact ⟨_, rfl⟩
  · rw [if_neg (fun z => hj (e.mp z)), Nat.max_eq_left (by omega)]; exact ⟨_, rfl⟩
theorem call_min2S (hc : X.calm = true) : CallR X (.builtin "min") (fun xs H Q => ∃ a b : Nat, xs = [.str (ch a), .str (ch b)] ∧ Q (.str (ch (min a b))) H) := by
  intro pins s σ H xs us Q I r h
  obtain ⟨a, b, rfl, q⟩ := h
  obtain ⟨u, w', rfl, ⟨t, rfl⟩, ⟨t', rfl⟩⟩ := vals2 r
  refine min_two_str (I.ok.hd hc) fun h' tk k => ⟨_, H, I.kept k, ?_, q⟩
  have e : ((ch b).cps.toList < (ch a).cps.toList) ↔ b < a := by
    have := ch_lt b a
    simpa using this
  by_cases hj : b < a
  · rw [if_pos (e.mpr hj), Nat.min_eq_right (Nat.le_of_lt hj)]; exact ⟨_, rfl⟩
  · rw [if_neg (fun z => hj (e.mp z)), Nat.min_eq_left (by omega)]; exact ⟨_, rfl⟩
end
/-! ### the deck -/
structure Deck where
  dk : Addr
  ga : Addr
structure DeckOk (H : Hp) (D : Deck) : Prop where
  ex : ∃ (gs : List Int) (wh n : Int), H D.dk = some (.lst [.ref D.ga, .int wh, .int n]) ∧ H D.ga = some (.lst (gs.map V.int)) ∧ gs.length ≤ 63 ∧ 0 ≤ wh ∧ wh < 2 ^ 62
  ne : D.dk ≠ D.ga
/-- all stands still but the deck's two lists -/
def SameD (D : Deck) (H H' : Hp) : Prop := ∀ b o, b ≠ D.dk → b ≠ D.ga → H b = some o → H' b = some o
theorem SameD.refl (D : Deck) (H : Hp) : SameD D H H := fun _ _ _ _ h => h
theorem SameD.trans {D : Deck} {H H1 H2 : Hp} (a : SameD D H H1) (b : SameD D H1 H2) : SameD D H H2 := fun c o h1 h2 h => b c o h1 h2 (a c o h1 h2 h)
theorem SameD.of {D : Deck} {H H' : Hp} (h : Same H H') : SameD D H H' := fun b o _ _ e => h b o e
theorem DeckOk.lists {H : Hp} {D : Deck} (d : DeckOk H D) : (∃ xs, H D.dk = some (.lst xs)) ∧ (∃ xs, H D.ga = some (.lst xs)) := by
  obtain ⟨gs, wh, n, h1, h2, _⟩ := d.ex
  exact ⟨⟨_, h1⟩, ⟨_, h2⟩⟩
theorem SameD.keepT {D : Deck} {H H' : Hp} (h : SameD D H H') (d : DeckOk H D) : KeepT H H' := fun b xs e => by
  obtain ⟨⟨x1, h1⟩, ⟨x2, h2⟩⟩ := d.lists
  exact h b _ (ne_of e h1 (by intro z; cases z)) (ne_of e h2 (by intro z; cases z)) e
theorem SameD.free {D : Deck} {H H' : Hp} (h : SameD D H H') (d : DeckOk H' D) {p : Addr} (e : H' p = none) : H p = none := by
  obtain ⟨⟨x1, h1⟩, ⟨x2, h2⟩⟩ := d.lists
  have n1 : p ≠ D.dk := fun z => by rw [z, h1] at e; cases e
  have n2 : p ≠ D.ga := fun z => by rw [z, h2] at e; cases e
  cases q : H p with
  | none => rfl
  | some o =>
    rw [h p o n1 n2 q] at e
    cases e
theorem DeckOk.same {H H' : Hp} {D : Deck} (d : DeckOk H D) (h : Same H H') : DeckOk H' D := by
  obtain ⟨gs, wh, n, h1, h2, h3⟩ := d.ex
  exact ⟨⟨gs, wh, n, h _ _ h1, h _ _ h2, h3⟩, d.ne⟩
structure Off (D : Deck) (p : Addr) : Prop where
  dk : p ≠ D.dk
  ga : p ≠ D.ga
theorem DeckOk.new {H : Hp} {D : Deck} (d : DeckOk H D) {p : Addr} (e : H p = none) : Off D p := by
  obtain ⟨⟨x1, h1⟩, ⟨x2, h2⟩⟩ := d.lists
  refine ⟨fun z => ?_, fun z => ?_⟩
  · rw [z, h1] at e
    cases e
  · rw [z, h2] at e
    cases e
theorem DeckOk.put {H : Hp} {D : Deck} (d : DeckOk H D) {p : Addr} (f : Off D p) (o : HO) : DeckOk (upd H p o) D := by
  obtain ⟨gs, wh, n, h1, h2, h3⟩ := d.ex
  exact ⟨⟨gs, wh, n, by rw [upd_ne f.dk.symm]; exact h1, by rw [upd_ne f.ga.symm]; exact h2, h3⟩, d.ne⟩
theorem SameD.put {D : Deck} {H H' : Hp} {p : Addr} (s : SameD D H H') (e : H p = none) (o : HO) : SameD D H (upd H' p o) := fun b u h1 h2 h => by
  rw [upd_ne (ne_of_none h e)]
  exact s b u h1 h2 h
theorem SameD.at {D : Deck} {H H' : Hp} {p : Addr} {o : HO} (s : SameD D H H') (f : Off D p) (e : H p = some o) : H' p = some o := s p o f.dk f.ga e
theorem modP (z p : Int) (h0 : 0 < p) (h1 : p < 2 ^ 64) : -(2 ^ 64) < z % p ∧ z % p < 2 ^ 64 := by
  have a := Int.emod_nonneg z (show p ≠ 0 by omega)
  have b := Int.emod_lt_of_pos z h0
  omega
def spNext : Sp := fun vs H Q _ => ∃ (D : Deck) (m : Int), vs = [.ref D.dk, .int m] ∧ DeckOk H D ∧ 0 < m ∧ m < 1073741824 ∧ ∀ (i : Int) (H' : Hp), 0 ≤ i → i < m → DeckOk H' D → SameD D H H' → Q (.int i) H'
section
variable {P : Program} {w : World} {K : PySem.W.Frag} {mg : Str → Option Value} {base : Heap} {f : Addr} {fd : FuncData}
theorem ok_next {k : Nat} (F : Fun K "_law_next" "_law_next" s__law_next f fd) : FnOk P w K mg base CX0 (k + 1) f fd ["_law_deck", "_law_many"] spNext := by
  refine F.ok sc__law_next (fun vs H Q E h => ?_) (fun cdv A outer s H vs Q E hr h => ?_)
  · obtain ⟨D, m, rfl, _⟩ := h
    rfl
  obtain ⟨D, m, rfl, d, m0, m1, q⟩ := h
  refine ⟨_, (pss_cons (ps_while PassesOwn.never (pt_cmpR (op_neL hr.units0) (pe_ix ix_list (pv 0) pe_int (fun _ _ => rfl)) (pe_lst pa_nil) (nomark _))
      (pss_cons (ps_set (i := 2) sc__law_next.nd rfl (.inl rfl) (pe_bm0 PySem.F.plainAttrs_list PySem.F.slot_list_pop PySem.F.type_list_pop mt_pop (pe_ix ix_list (pv 0) pe_int (fun _ _ => rfl))))
    (pss_one (ps_if (pt_cmpR op_gt (pv 2) pe_int (nomark _))
      (pss_cons (ps_expr (pe_bm PySem.F.plainAttrs_list PySem.F.slot_list_append PySem.F.type_list_append mt_append (pe_ix ix_list (pv 0) pe_int (fun _ _ => rfl)) (pa_cons (pe_op op_fdiv (pv 2) (pv 1)) pa_nil)))
    (pss_one (ps_ret (pe_op op_mod (pv 2) (pv 1))))) pss_nil))))
    (pss_cons (ps_asg (pe_op op_add (pe_ix ix_list (pv 0) pe_int (fun _ _ => rfl)) pe_int) (pg_sub (pv 0) pe_int set_list))
    (pss_cons (ps_set (i := 3) sc__law_next.nd rfl (.inl rfl) (pe_op op_add (pe_op op_mul (pe_ix ix_list (pv 0) pe_int (fun _ _ => rfl)) (pe_op op_add pe_int (pe_op op_mul pe_int (pe_ix ix_list (pv 0) pe_int (fun _ _ => rfl))))) (pe_op op_mul pe_int (pe_ix ix_list (pv 0) pe_int (fun _ _ => rfl)))))
    (pss_cons (ps_set (i := 3) sc__law_next.nd rfl (.inl rfl) (pe_op op_mod (pv 3) pe_int))
    (pss_cons (ps_set (i := 3) sc__law_next.nd rfl (.inl rfl) (pe_op op_mod (pe_op op_mul (pv 3) (pv 3)) pe_int))
    (pss_one (ps_ret (pe_op op_mod (pe_op op_fdiv (pe_op op_mod (pe_op op_mul (pv 3) (pv 3)) pe_int) pe_int) (pv 1))))))))), ?_⟩
  refine while_by (fun σ H' => ∃ r, σ = [some (.ref D.dk), some (.int m), r, none] ∧ DeckOk H' D ∧ SameD D H H') (fun σ H' => match H' D.ga with | some (.lst xs) => xs.length | _ => 0) ⟨none, rfl, d, SameD.refl D H⟩ (fun σ H' hp => ?_) ?_
  · obtain ⟨r, rfl, d', s'⟩ := hp
    obtain ⟨gs, wh, n, e1, e2, gl, w0, w1⟩ := d'.ex
    have at0 : ∀ b c, atI [V.ref D.ga, b, c] 0 = some (.ref D.ga) := fun _ _ => atI_nat (j := 0) rfl
    refine ⟨_, rfl, D.dk, _, _, _, rfl, rfl, SqL.of e1, at0 _ _, (by show 0 ≤ sizeLine; decide), fun el ne => ?_⟩
    have q1 := same_new ne (.lst [])
    refine ⟨D.ga, el, _, rfl, rfl, SqL.of (q1 _ _ e2), SqL.of upd_same, _, rfl, ?_⟩
    have d1 := d'.same q1
    have s1 := s'.trans (SameD.of q1)
    have e1' := q1 _ _ e1
    have e2' := q1 _ _ e2
    generalize upd H' el (.lst []) = H1 at d1 s1 e1' e2'
    cases hg : gs with
    | nil =>
      refine iteF ?_
      subst hg
      -- the count
      refine ⟨_, rfl, D.dk, _, _, _, rfl, rfl, SqL.of e1', atI_nat (j := 2) rfl, _, _, rfl, rfl, _, rfl, D.dk, _, _, 2, rfl, rfl, e1', rfl, ?_⟩
      have x1 : (upd H1 D.dk (.lst [.ref D.ga, .int wh, .int (n + 1)])) D.dk = some (.lst [.ref D.ga, .int wh, .int (n + 1)]) := upd_same
      have x2 : (upd H1 D.dk (.lst [.ref D.ga, .int wh, .int (n + 1)])) D.ga = some (.lst []) := by rw [upd_ne d.ne.symm]; exact e2'
      have s2 : SameD D H (upd H1 D.dk (.lst [.ref D.ga, .int wh, .int (n + 1)])) := s1.trans fun b o h1 _ e => by rw [upd_ne h1]; exact e
      have y1 : atI [V.ref D.ga, .int wh, .int (n + 1)] 1 = some (.int wh) := atI_nat (j := 1) rfl
      have y2 : atI [V.ref D.ga, .int wh, .int (n + 1)] 2 = some (.int (n + 1)) := atI_nat (j := 2) rfl
      refine ⟨_, rfl, D.dk, _, _, _, rfl, rfl, SqL.of x1, y1, _, rfl, D.dk, _, _, _, rfl, rfl, SqL.of x1, y2, _, _, rfl, rfl, .inl ⟨by decide, by decide⟩, _, _, rfl, rfl, _, _, rfl, rfl, .inl ⟨by omega, by omega⟩, ?_⟩
      refine ⟨_, rfl, D.dk, _, _, _, rfl, rfl, SqL.of x1, y2, _, _, rfl, rfl, .inl ⟨by decide, by decide⟩, _, _, rfl, rfl, ?_⟩
      refine ⟨_, rfl, _, _, rfl, rfl, (show (0 : Int) < 2305843009213693951 by decide), ?_⟩
      refine ⟨_, rfl, _, rfl, _, _, rfl, rfl, .inl (modP _ _ (by decide) (by decide)), _, _, rfl, rfl, (show (0 : Int) < 2305843009213693951 by decide), ?_⟩
      refine ⟨_, rfl, _, rfl, _, _, rfl, rfl, .inl (modP _ _ (by decide) (by decide)), _, _, rfl, rfl, (show (0 : Int) < 4611686018427387847 by decide), _, _, rfl, rfl, ⟨by decide, by decide⟩, _, rfl, _, _, rfl, rfl, m0, ?_⟩
      exact q _ _ (Int.emod_nonneg _ (by omega)) (Int.emod_lt_of_pos _ m0) ⟨⟨[], wh, n + 1, x1, x2, by decide, w0, w1⟩, d.ne⟩ s2
    | cons g0 gr =>
      refine iteT ?_
      have gne : gs ≠ [] := by rw [hg]; exact List.cons_ne_nil _ _
      have gl' : gs.length - 1 < gs.length := by rw [hg]; exact Nat.lt_succ_self _
      have lst : (gs.map V.int)[(gs.map V.int).length - 1]? = some (.int gs[gs.length - 1]) := by
        rw [List.length_map, List.getElem?_map, List.getElem?_eq_getElem gl']
        rfl
      refine ⟨_, rfl, D.dk, _, _, _, rfl, rfl, SqL.of e1', at0 _ _, .inl ⟨rfl, _, SqL.of e2'⟩, D.ga, _, _, rfl, rfl, e2', lst, ?_⟩
      have z1 : (upd H1 D.ga (.lst (gs.map V.int).dropLast)) D.dk = some (.lst [.ref D.ga, .int wh, .int n]) := by rw [upd_ne d.ne]; exact e1'
      have z2 : (upd H1 D.ga (.lst (gs.map V.int).dropLast)) D.ga = some (.lst (gs.dropLast.map V.int)) := by rw [upd_same, List.map_dropLast]
      have s2 : SameD D H (upd H1 D.ga (.lst (gs.map V.int).dropLast)) := s1.trans fun b o _ h2 e => by rw [upd_ne h2]; exact e
      have dl : gs.dropLast.length < gs.length := by rw [List.length_dropLast]; exact gl'
      refine ⟨_, rfl, _, _, rfl, rfl, _, rfl, ite2 (fun _ => ?_) (fun _ => ?_)⟩
      · refine ⟨_, rfl, D.dk, _, _, _, rfl, rfl, SqL.of z1, at0 _ _, .inl ⟨rfl, _, SqL.of z2⟩, _, rfl, _, rfl, _, _, rfl, rfl, ⟨m0, m1⟩, D.ga, _, _, rfl, rfl, z2, by rw [List.length_map]; exact small1000 (by omega), ?_⟩
        refine ⟨_, rfl, _, rfl, _, _, rfl, rfl, m0, ?_⟩
        refine q _ _ (Int.emod_nonneg _ (by omega)) (Int.emod_lt_of_pos _ m0) ⟨⟨gs.dropLast ++ [gs[gs.length - 1] / m], wh, n, ?_, ?_, ?_, w0, w1⟩, d.ne⟩ ?_
        · rw [upd_ne d.ne]; exact z1
        · rw [upd_same, List.map_append]; rfl
        · rw [List.length_append, List.length_cons, List.length_nil]; omega
        · exact s2.trans fun b o _ h2 e => by rw [upd_ne h2]; exact e
      · refine ⟨⟨_, rfl, ⟨⟨gs.dropLast, wh, n, z1, z2, by omega, w0, w1⟩, d.ne⟩, s2⟩, ?_⟩
        show (match (upd H1 D.ga (.lst (gs.map V.int).dropLast)) D.ga with | some (.lst xs) => xs.length | _ => 0) < (match H' D.ga with | some (.lst xs) => xs.length | _ => 0)
        rw [z2, e2]
        show (gs.dropLast.map V.int).length < (gs.map V.int).length
        rw [List.length_map, List.length_map]
        exact dl
  · intro σ H' Q1 Q2 hQ h
    obtain ⟨v, e, p, xs, i, y, e2, e3, e4, e5, e6, h⟩ := h
    refine ⟨v, e, p, xs, i, y, e2, e3, e4, e5, e6, fun el ne => ?_⟩
    obtain ⟨a, b, zs, h1, h2, h3, h4, k, h5, h6⟩ := h el ne
    exact ⟨a, b, zs, h1, h2, h3, h4, k, h5, hQ _ _ h6⟩
end
/-! ### _law_begin -/
def spBegin (K : PySem.W.Frag) : Sp := fun vs H Q _ => ∃ (a : Addr) (ns : List Int), vs = [.ref a] ∧ SqL K H a (ns.map V.int) ∧ ns.length ≤ 63 ∧ ∀ (D : Deck) (H' : Hp), DeckOk H' D → Same H H' → Q (.ref D.dk) H'
section
variable {P : Program} {w : World} {K : PySem.W.Frag} {mg : Str → Option Value} {base : Heap} {f : Addr} {fd : FuncData}
theorem ok_begin {k : Nat} (F : Fun K "_law_begin" "_law_begin" s__law_begin f fd) (M : Mgs mg) : FnOk P w K mg base CX0 (k + 1) f fd ["_law_script"] (spBegin K) := by
  refine F.ok sc__law_begin (fun vs H Q E h => ?_) (fun cdv A outer s H vs Q E hr h => ?_)
  · obtain ⟨a, ns, rfl, _⟩ := h
    rfl
  obtain ⟨a, ns, rfl, hS, hn, q⟩ := h
  refine ⟨_, (pss_cons (ps_setLc (i := 2) (own := [("_law_cell", 1)]) (g := gName 1) (by rfl) sc__law_begin.nd rfl rfl (sw_true rfl rfl rfl (by decide +kernel)) (pi_list (pv 0)) (blkOk_by (N := ["_law_script", "_law_cell", "_law_greats", "_law_whole"]) (sc := defScope s__law_begin) (by decide +kernel)) (fun _ _ _ _ _ => (pg_name (i := 1) sc__law_begin.nd rfl (.inl rfl))) (fun _ _ _ _ _ => pts_one (pt_cmpR op_ge (pe_callB call_abs rfl M.abs (by decide +kernel) (pa_cons (pv 1) pa_nil)) (pe_op op_pow pe_int pe_int) (nomark _))) (fun _ _ _ _ _ => (pe_callB call_abs rfl M.abs (by decide +kernel) (pa_cons (pv 1) pa_nil))))
    (pss_cons (ps_set (i := 3) sc__law_begin.nd rfl (.inl rfl) (pe_op op_add pe_int (pe_callB call_len_seq rfl M.len PySem.boot_len (pa_cons (pv 0) pa_nil))))
    (pss_cons (ps_for PassesOwn.never rfl (pi_list (pv 0)) (pg_name (i := 1) sc__law_begin.nd rfl (.inl rfl))
      (pss_one (ps_set (i := 3) sc__law_begin.nd rfl (.inl rfl) (pe_op op_mod (pe_op op_add (pe_op op_add (pe_op op_mul (pv 3) pe_int) (pe_op op_mul pe_int (pe_callB call_abs rfl M.abs (by decide +kernel) (pa_cons (pv 1) pa_nil)))) (pe_callTy call_int1 rfl M.int (by decide +kernel) (pa_cons (pe_cmpR op_lt (pv 1) pe_int (nomark _)) pa_nil))) pe_int))))
    (pss_one (ps_ret (pe_lst (pa_cons (pe_revL (pv 2)) (pa_cons (pv 3) (pa_cons pe_int pa_nil))))))))), ?_⟩
  refine ⟨.ref a, rfl, a, rfl, ⟨_, hS⟩, fun d1 n1 => ?_⟩
  have s1 := same_new n1 (.lst [])
  refine lc_list (K := K) (a := a) (xs := ns.map V.int) (fun i H' => Same H H' ∧ ∃ zs : List Int, zs.length ≤ i ∧ H' d1 = some (.lst (zs.map V.int))) ⟨s1, [], Nat.le_refl _, upd_same⟩ (fun i H' _ hp => hp.1.seq hS) (fun i x H' hx hp => ?_) (fun H1 hp => ?_)
  · obtain ⟨sm, zs, hz, hd⟩ := hp
    rw [List.getElem?_map] at hx
    obtain ⟨y, hy, rfl⟩ := Option.map_eq_some_iff.mp hx
    have hi : i < 63 := by
      have := (List.getElem?_eq_some_iff.mp hy).1
      omega
    refine ⟨rfl, ?_⟩
    refine ⟨_, rfl, _, rfl, _, _, rfl, rfl, ⟨by decide, by decide, by decide⟩, _, _, rfl, rfl, _, rfl, ite2 (fun _ => ?_) (fun _ => ?_)⟩
    · refine ⟨_, rfl, _, rfl, _, hd, by rw [List.length_map]; exact small1000 (by omega), fun b o e => ?_, zs ++ [if y < 0 then -y else y], by rw [List.length_append]; show zs.length + 1 ≤ i + 1; omega, ?_⟩
      · rw [upd_ne (ne_of_none e n1)]
        exact sm _ _ e
      · rw [upd_same, List.map_append]
        rfl
    · exact ⟨sm, zs, by omega, hd⟩
  obtain ⟨sm, zs, hz, hd⟩ := hp
  rw [List.length_map] at hz
  refine ⟨.ref a, rfl, a, _, rfl, .inl (sm.seq hS), _, _, rfl, rfl, ?_⟩
  refine ⟨.ref a, rfl, a, rfl, ⟨_, sm.seq hS⟩, ?_⟩
  refine for_list (K := K) (a := a) (xs := ns.map V.int) (fun i σ H' => H' = H1 ∧ ∃ (c : Option V) (wh : Int), σ = [some (.ref a), c, some (.ref d1), some (.int wh)] ∧ 0 ≤ wh ∧ wh < 2 ^ 62) ⟨rfl, _, _, rfl, by omega, by rw [List.length_map]; omega⟩ (fun i σ H' _ hp => by rw [hp.1]; exact sm.seq hS) (fun i x σ H' hx hp => ?_) (fun σ H' hp => ?_)
  · obtain ⟨rfl, c, wh, rfl, w0, w1⟩ := hp
    rw [List.getElem?_map] at hx
    obtain ⟨y, hy, rfl⟩ := Option.map_eq_some_iff.mp hx
    refine ⟨_, rfl, _, _, rfl, rfl, .inl ⟨by omega, by omega⟩, _, rfl, _, rfl, _, _, rfl, rfl, .inl ⟨by decide, by decide⟩, _, _, rfl, rfl, _, rfl, _, _, rfl, rfl, .inr ⟨_, rfl, _, _, rfl, rfl, _, _, rfl, rfl, (show (0 : Int) < 2305843009213693951 by decide), ?_⟩⟩
    refine ⟨rfl, _, _, rfl, Int.emod_nonneg _ (by decide), ?_⟩
    exact Int.lt_trans (Int.emod_lt_of_pos _ (by decide)) (by decide)
  · obtain ⟨rfl, c, wh, rfl, w0, w1⟩ := hp
    refine ⟨_, rfl, d1, _, rfl, SqL.of hd, fun ga nga => ?_⟩
    refine ⟨_, rfl, (by show 3 ≤ sizeLine; decide), fun dk ndk => ?_⟩
    have s2 := same_new nga (.lst (zs.map V.int).reverse)
    have s3 := same_new ndk (.lst [.ref ga, .int wh, .int 0])
    have ega : (upd H' ga (.lst (zs.map V.int).reverse)) ga = some (.lst (zs.reverse.map V.int)) := by rw [upd_same, List.map_reverse]
    exact q ⟨dk, ga⟩ _ ⟨⟨zs.reverse, wh, 0, upd_same, s3 _ _ ega, by rw [List.length_reverse]; omega, w0, w1⟩, (ne_of_none ega ndk).symm⟩ (sm.trans (s2.trans s3))
end
/-! ### _law_mixed, _law_free -/
abbrev vc (c : Nat) : V := .str (ch c)
theorem erase_perm {α : Type} : ∀ {l : List α} {i : Nat} (h : i < l.length), List.Perm (l[i] :: l.eraseIdx i) l
  | x :: l, 0, _ => List.Perm.refl _
  | x :: l, i + 1, h => by
    have := erase_perm (l := l) (i := i) (Nat.lt_of_succ_lt_succ h)
    show List.Perm (l[i]'(Nat.lt_of_succ_lt_succ h) :: x :: l.eraseIdx i) (x :: l)
    exact (List.Perm.swap _ _ _).trans (this.cons x)
def spMixed : Sp := fun vs H Q _ => ∃ (D : Deck) (a : Addr) (ls : List Nat), vs = [.ref D.dk, .ref a] ∧ DeckOk H D ∧ H a = some (.lst (ls.map vc)) ∧ Off D a ∧ ls.length ≤ 60 ∧
  ∀ (p : Addr) (zs : List Nat) (H' : Hp), DeckOk H' D → SameD D H H' → H' p = some (.lst (zs.map vc)) → zs.Perm ls → Off D p → Q (.ref p) H'
section
variable {P : Program} {w : World} {K : PySem.W.Frag} {mg : Str → Option Value} {base : Heap} {f : Addr} {fd : FuncData}
theorem ok_mixed {k : Nat} (F : Fun K "_law_mixed" "_law_mixed" s__law_mixed f fd) (M : Mgs mg) (D_law_next : Df P w K mg base k "_law_next" ["_law_deck", "_law_many"] spNext) : FnOk P w K mg base CX0 (k + 1) f fd ["_law_deck", "_law_items"] spMixed := by
  refine F.ok sc__law_mixed (fun vs H Q E h => ?_) (fun cdv A outer s H vs Q E hr h => ?_)
  · obtain ⟨D, a, ls, rfl, _⟩ := h
    rfl
  obtain ⟨D, a, ls, rfl, d, ea, oa, hl, q⟩ := h
  refine ⟨_, (pss_cons (ps_par (i := 2) (j := 3) (by rfl) sc__law_mixed.nd rfl rfl (by decide) rfl rfl (pa_cons (pe_callTy call_list_of rfl M.list (by decide +kernel) (pa_cons (pv 1) pa_nil)) (pa_cons (pe_lst pa_nil) pa_nil)) (by rfl))
    (pss_cons (ps_while PassesOwn.never (pt_cmpR (op_neL hr.units0) (pv 2) (pe_lst pa_nil) (nomark _))
      (pss_one (ps_expr (pe_bm PySem.F.plainAttrs_list PySem.F.slot_list_append PySem.F.type_list_append mt_append (pv 3) (pa_cons (pe_bm PySem.F.plainAttrs_list PySem.F.slot_list_pop PySem.F.type_list_pop mt_popAt (pv 2) (pa_cons (pe_call D_law_next.ok (hr.mono (by omega)) rfl D_law_next.g D_law_next.kp D_law_next.b .nil pass0 (pa_cons (pv 0) (pa_cons (pe_callB call_len_seq rfl M.len PySem.boot_len (pa_cons (pv 2) pa_nil)) pa_nil))) pa_nil)) pa_nil)))))
    (pss_one (ps_ret (pv 3))))), ?_⟩
  refine ⟨_, rfl, a, _, rfl, .inl (SqL.of ea), fun ra nra => ⟨(by show 0 ≤ sizeLine; decide), fun fa nfa => ?_⟩⟩
  refine ⟨_, _, rfl, ?_⟩
  have q1 := same_new nra (.lst (ls.map vc))
  have q2 := same_new nfa (.lst [])
  have era := q2 _ _ (upd_same (H := H) (a := ra) (o := .lst (ls.map vc)))
  have nrf : ra ≠ fa := ne_of_none upd_same nfa
  have nfaH : H fa = none := by
    rw [upd_ne nrf.symm] at nfa
    exact nfa
  have ora := d.new nra
  have ofa := d.new nfaH
  refine while_by (fun σ H' => σ = [some (.ref D.dk), some (.ref a), some (.ref ra), some (.ref fa)] ∧ ∃ rest xs : List Nat, DeckOk H' D ∧ SameD D H H' ∧ H' ra = some (.lst (rest.map vc)) ∧ H' fa = some (.lst (xs.map vc)) ∧ (xs ++ rest).Perm ls) (fun σ H' => match H' ra with | some (.lst xs) => xs.length | _ => 0)
    ⟨rfl, ls, [], (d.same q1).same q2, SameD.of (q1.trans q2), era, upd_same, List.Perm.refl _⟩ (fun σ H' hp => ?_) ?_
  · obtain ⟨rfl, rest, xs, d', s', er, ef, pm⟩ := hp
    have hlen : xs.length + rest.length = ls.length := by rw [← List.length_append]; exact pm.length_eq
    refine ⟨_, rfl, (by show 0 ≤ sizeLine; decide), fun el ne => ?_⟩
    have q3 := same_new ne (.lst [])
    refine ⟨ra, el, _, rfl, rfl, SqL.of (q3 _ _ er), SqL.of upd_same, _, rfl, ?_⟩
    have d1 := d'.same q3
    have s1 := s'.trans (SameD.of q3)
    have er1 := q3 _ _ er
    have ef1 := q3 _ _ ef
    generalize upd H' el (.lst []) = H1 at d1 s1 er1 ef1
    cases hg : rest with
    | nil =>
      refine iteF ?_
      subst hg
      rw [List.append_nil] at pm
      exact ⟨_, rfl, q fa xs H1 d1 s1 ef1 pm ofa⟩
    | cons g0 gr =>
      refine iteT ?_
      have r0 : 0 < rest.length := by rw [hg]; exact Nat.succ_pos _
      refine ⟨_, rfl, .inl ⟨rfl, _, SqL.of ef1⟩, _, rfl, .inl ⟨rfl, _, SqL.of er1⟩, _, rfl, _, rfl, ra, _, rfl, .inl (SqL.of er1), D, _, rfl, d1, ?_, ?_, fun j H2 j0 j1 d2 s2 => ?_⟩
      · rw [List.length_map]; omega
      · rw [List.length_map]; omega
      rw [List.length_map] at j1
      have hj : j.toNat < rest.length := by omega
      have er2 := s2.at ora er1
      have ef2 := s2.at ofa ef1
      refine ⟨ra, _, j, j.toNat, vc rest[j.toNat], rfl, rfl, er2, by omega, by omega, ?_, ?_, ?_⟩
      · exact (ixN_seq (ixN_nat j0 (by rw [List.length_map]; omega))).1
      · rw [List.getElem?_map, List.getElem?_eq_getElem hj]; rfl
      have ef3 : (upd H2 ra (.lst ((rest.map vc).eraseIdx j.toNat))) fa = some (.lst (xs.map vc)) := by rw [upd_ne nrf.symm]; exact ef2
      refine ⟨fa, _, _, rfl, rfl, ef3, by rw [List.length_map]; exact small1000 (by omega), ?_⟩
      refine ⟨⟨rfl, rest.eraseIdx j.toNat, xs ++ [rest[j.toNat]], (d2.put ora _).put ofa _, ((s1.trans s2).put nra _).put nfaH _, ?_, ?_, ?_⟩, ?_⟩
      · rw [upd_ne nrf, upd_same, erase_map]
      · rw [upd_same, List.map_append]; rfl
      · rw [List.append_assoc]
        exact (List.Perm.append_left xs (erase_perm hj)).trans pm
      · show (match (upd (upd H2 ra _) fa (.lst (xs.map vc ++ [vc rest[j.toNat]]))) ra with | some (.lst xs) => xs.length | _ => 0) < (match H' ra with | some (.lst xs) => xs.length | _ => 0)
        rw [upd_ne nrf, upd_same, er]
        show ((rest.map vc).eraseIdx j.toNat).length < (rest.map vc).length
        rw [List.length_eraseIdx_of_lt (by rw [List.length_map]; exact hj), List.length_map]
        omega
  · intro σ H' Q1 Q2 hQ h
    obtain ⟨v, e, h0, h⟩ := h
    refine ⟨v, e, h0, fun el ne => ?_⟩
    obtain ⟨a, b, zs, h1, h2, h3, h4, k, h5, h6⟩ := h el ne
    exact ⟨a, b, zs, h1, h2, h3, h4, k, h5, hQ _ _ h6⟩
end
def spFree (n : Nat) : Sp := fun vs H Q _ => ∃ (D : Deck) (a : Addr) (ls : List Nat), vs = [.ref D.dk, .ref a] ∧ DeckOk H D ∧ H a = some (.lst (ls.map vc)) ∧ Off D a ∧ ls.length < n ∧ ls.length ≤ 60 ∧
  ∀ (p : Addr) (zs : List Nat) (H' : Hp), DeckOk H' D → SameD D H H' → H' p = some (.lst (zs.map vc)) → zs.Perm ls → Off D p → Q (.ref p) H'
section
variable {P : Program} {w : World} {K : PySem.W.Frag} {mg : Str → Option Value} {base : Heap} {f : Addr} {fd : FuncData}
theorem op_eqL {X : Cx} (hu : X.A.units < cLine) : OpR X (compareOp .Eq) (fun x y H Q => ∃ a b xs, x = .ref a ∧ y = .ref b ∧ SqL X.K H a xs ∧ SqL X.K H b [] ∧ Q (.bl xs.isEmpty) H) := by
  intro pins s σ H x y v u Q I rx ry h
  obtain ⟨a, b, xs, rfl, rfl, hx, hy, q⟩ := h
  cases rx
  cases ry
  obtain ⟨its, r1, t1, _⟩ := I.list hx
  obtain ⟨its2, r2, t2, _⟩ := I.list hy
  cases r2
  cases r1 with
  | nil =>
    have rc := SeqAt.RcAt.lists (A := X.A) (s := s) (items := ([] : List Value).toArray) (items2 := ([] : List Value).toArray) (e := fun _ => true) t1.isList t2.isList rfl hu (fun j h1 _ => absurd h1 (by simp))
    exact rc X.prog X.w X.xe _ ⟨.bl _, H, I, rfl, q⟩
  | cons _ _ =>
    have rc := SeqAt.RcAt.lists_lengths (A := X.A) (s := s) t1.isList t2.isList (by simp) hu
    exact rc X.prog X.w X.xe _ ⟨.bl _, H, I, rfl, q⟩
theorem ok_free (F : Fun K "_law_free" "_law_free" s__law_free f fd) (b : Binds K fd ["_law_deck", "_law_letters"] []) (g : mg "_law_free" = some (.ref f)) (M : Mgs mg) (D_law_next : Df P w K mg base 1 "_law_next" ["_law_deck", "_law_many"] spNext) :
    ∀ n : Nat, FnOk P w K mg base CX0 (n + 1) f fd ["_law_deck", "_law_letters"] (spFree n)
  | 0 => by
    have no : ∀ vs H Q E, ¬ spFree 0 vs H Q E := fun vs H Q E h => by
      obtain ⟨D, a, ls, _, _, _, _, h1, _⟩ := h
      omega
    exact ⟨fun vs H Q E h => absurd h (no vs H Q E), fun A outer s H args us vs Q E _ _ _ _ h => absurd h (no vs H Q E)⟩
  | n + 1 => by
    have Dself : Df P w K mg base (n + 1) "_law_free" ["_law_deck", "_law_letters"] (spFree n) := ⟨f, fd, ok_free F b g M D_law_next n, b, F.kp, g⟩
    refine F.ok sc__law_free (fun vs H Q E h => ?_) (fun cdv A outer s H vs Q E hr h => ?_)
    · obtain ⟨D, a, ls, rfl, _⟩ := h
      rfl
    obtain ⟨D, a, ls, rfl, d, ea, oa, hn, hl, q⟩ := h
    refine ⟨_, (pss_cons (ps_if (pt_cmpR (op_eqL hr.units0) (pv 1) (pe_lst pa_nil) (nomark _))
      (pss_one (ps_ret (pe_lst pa_nil))) pss_nil)
    (pss_cons (ps_set (i := 2) sc__law_free.nd rfl (.inl rfl) (pe_call D_law_next.ok (hr.mono (by omega)) rfl D_law_next.g D_law_next.kp D_law_next.b .nil pass0 (pa_cons (pv 0) (pa_cons (pe_callB call_len_seq rfl M.len PySem.boot_len (pa_cons (pv 1) pa_nil)) pa_nil))))
    (pss_one (ps_ret (pe_op op_cat (pe_op op_cat (pe_lst (pa_cons (pe_ix ix_list (pv 1) (pv 2) (fun _ _ => rfl)) pa_nil)) (pe_call Dself.ok (hr.mono (by omega)) rfl Dself.g Dself.kp Dself.b .nil pass0 (pa_cons (pv 0) (pa_cons (pe_slice sl_list (pv 1) po_none (po_some (pv 2))) pa_nil)))) (pe_call Dself.ok (hr.mono (by omega)) rfl Dself.g Dself.kp Dself.b .nil pass0 (pa_cons (pv 0) (pa_cons (pe_slice sl_list (pv 1) (po_some (pe_op op_add (pv 2) pe_int)) po_none) pa_nil)))))))), ?_⟩
    refine ⟨_, rfl, (by show 0 ≤ sizeLine; decide), fun el ne => ?_⟩
    have q1 := same_new ne (.lst [])
    refine ⟨a, el, _, rfl, rfl, SqL.of (q1 _ _ ea), SqL.of upd_same, _, rfl, ite2 (fun c => ?_) (fun c => ?_)⟩
    · have e0 : ls = [] := by
        have := List.isEmpty_iff.mp c
        exact List.map_eq_nil_iff.mp this
      refine ⟨(by show 0 ≤ sizeLine; decide), fun p np => ?_⟩
      have q2 := same_new np (.lst [])
      subst e0
      exact q p [] _ ((d.same q1).same q2) (SameD.of (q1.trans q2)) upd_same (List.Perm.refl _) ((d.same q1).new np)
    · have l0 : 0 < ls.length := by
        cases ls with
        | nil => exact absurd rfl c
        | cons _ _ => exact Nat.succ_pos _
      refine ⟨_, rfl, _, rfl, a, _, rfl, .inl (SqL.of (q1 _ _ ea)), D, _, rfl, d.same q1, by rw [List.length_map]; omega, by rw [List.length_map]; omega, fun j H1 j0 j1 d1 s1 => ?_⟩
      rw [List.length_map] at j1
      have hj : j.toNat < ls.length := by omega
      have ej : j = ((j.toNat : Nat) : Int) := by omega
      have sA := (SameD.of q1).trans s1
      have ea1 := sA.at oa ea
      refine ⟨_, rfl, _, rfl, a, _, _, _, rfl, rfl, SqL.of ea1, at_map j0 (List.getElem?_eq_getElem hj), (by show 1 ≤ sizeLine; decide), fun r nr => ?_⟩
      have q2 := same_new nr (.lst [vc ls[j.toNat]])
      have or_ := d1.new nr
      have er := upd_same (H := H1) (a := r) (o := .lst [vc ls[j.toNat]])
      have d2 := d1.same q2
      have s2 := sA.trans (SameD.of q2)
      have ea2 := q2 _ _ ea1
      generalize upd H1 r (.lst [vc ls[j.toNat]]) = H2 at d2 s2 ea2 er
      refine ⟨_, rfl, _, rfl, _, rfl, _, rfl, a, _, rfl, SqL.of ea2, fun p1 np1 => ?_⟩
      rw [ej, cut_to, ← List.map_take]
      have q3 := same_new np1 (.lst ((ls.take j.toNat).map vc))
      have lt : (ls.take j.toNat).length = j.toNat := by rw [List.length_take]; omega
      refine ⟨D, p1, ls.take j.toNat, rfl, d2.same q3, upd_same, d2.new np1, by omega, by omega, fun pl zl H3 d3 s3 el3 pml ol => ?_⟩
      have s23 := (SameD.of (D := D) q3).trans s3
      refine ⟨r, pl, _, _, rfl, rfl, s23.at or_ er, el3, ?_, fun r2 nr2 => ?_⟩
      · rw [List.length_map, pml.length_eq]; exact small (by show 1 + _ ≤ 1000; omega)
      have q4 := same_new nr2 (.lst ([vc ls[j.toNat]] ++ zl.map vc))
      have or2 := d3.new nr2
      have er2 := upd_same (H := H3) (a := r2) (o := .lst ([vc ls[j.toNat]] ++ zl.map vc))
      have d4 := d3.same q4
      have s4 := (s2.trans s23).trans (SameD.of q4)
      have ea4 := s4.at oa ea
      generalize upd H3 r2 (.lst ([vc ls[j.toNat]] ++ zl.map vc)) = H4 at d4 s4 ea4 er2
      refine ⟨_, rfl, _, rfl, _, rfl, _, _, rfl, rfl, _, rfl, a, _, rfl, SqL.of ea4, fun p2 np2 => ?_⟩
      rw [show cutV (ls.map vc) (some (((j.toNat : Nat) : Int) + 1)) none = (ls.drop (j.toNat + 1)).map vc by rw [show ((j.toNat : Nat) : Int) + 1 = ((j.toNat + 1 : Nat) : Int) by omega, cut_from, List.map_drop]]
      have q5 := same_new np2 (.lst ((ls.drop (j.toNat + 1)).map vc))
      have ld : (ls.drop (j.toNat + 1)).length = ls.length - 1 - j.toNat := by rw [List.length_drop]; omega
      refine ⟨D, p2, ls.drop (j.toNat + 1), rfl, d4.same q5, upd_same, d4.new np2, by omega, by omega, fun pr zr H5 d5 s5 er5 pmr or5 => ?_⟩
      have s45 := (SameD.of (D := D) q5).trans s5
      refine ⟨r2, pr, _, _, rfl, rfl, s45.at or2 er2, er5, ?_, fun r3 nr3 => ?_⟩
      · rw [List.length_append, List.length_map, List.length_map, pml.length_eq, pmr.length_eq]; exact small (by show 1 + _ + _ ≤ 1000; omega)
      have q6 := same_new nr3 (.lst (([vc ls[j.toNat]] ++ zl.map vc) ++ zr.map vc))
      refine q r3 (ls[j.toNat] :: (zl ++ zr)) _ (d5.same q6) ((s4.trans s45).trans (SameD.of q6)) ?_ ?_ (d5.new nr3)
      · rw [upd_same, List.map_cons, List.map_append]; rfl
      · have h1 : (ls[j.toNat] :: (zl ++ zr)).Perm (ls[j.toNat] :: (ls.take j.toNat ++ ls.drop (j.toNat + 1))) := (pml.append pmr).cons _
        refine h1.trans ?_
        refine List.Perm.symm (List.perm_middle.symm.trans ?_).symm
        rw [← List.drop_eq_getElem_cons hj, List.take_append_drop]
end
/-! ### _law_order -/
theorem iteI {i j : Int} {A B : Prop} (h : i = j) (a : A) : if decide (V.int i = V.int j) = true then A else B := by
  rw [if_pos (decide_eq_true (congrArg V.int h))]; exact a
theorem iteJ {i j : Int} {A B : Prop} (h : i ≠ j) (b : B) : if decide (V.int i = V.int j) = true then A else B := by
  rw [if_neg (fun z => h (V.int.inj (of_decide_eq_true z)))]; exact b
def abcN : List Nat := (Str.ofString "abcdefghijklmnopqrstuvwxyz").cps.toList
theorem abcN_len : abcN.length = 26 := by decide +kernel
theorem abcN_nodup : abcN.Nodup := by decide +kernel
theorem abcN_in : ∀ c ∈ abcN, 97 ≤ c ∧ c ≤ 122 := by decide +kernel
theorem perm_ch {ys : List Str} {l : List Nat} (h : ys.Perm (l.map ch)) : ∃ zs : List Nat, ys = zs.map ch ∧ zs.Perm l := by
  have hy : ∀ y ∈ ys, ch ((fun y : Str => y.cps.toList.headD 0) y) = y := fun y hy => by
    obtain ⟨c, _, rfl⟩ := List.mem_map.mp (h.mem_iff.mp hy)
    rfl
  refine ⟨ys.map fun y => y.cps.toList.headD 0, ?_, ?_⟩
  · rw [List.map_map]
    clear h
    induction ys with
    | nil => rfl
    | cons y r ih =>
      rw [List.map_cons, ← ih fun z hz => hy z (List.mem_cons_of_mem _ hz)]
      exact congrArg (· :: r) (hy y List.mem_cons_self).symm
  · have := h.map (fun y : Str => y.cps.toList.headD 0)
    rw [List.map_map] at this
    have e : l.map ((fun y : Str => y.cps.toList.headD 0) ∘ ch) = l := by
      clear h this
      induction l with
      | nil => rfl
      | cons c r ih => rw [List.map_cons, ih]; rfl
    rw [e] at this
    exact this
theorem map_vc (l : List Nat) : l.map vc = (l.map ch).map V.str := by rw [List.map_map]; rfl
/-- letters, each once -/
def Lts (l : List Nat) : Prop := l.Nodup ∧ ∀ c ∈ l, 97 ≤ c ∧ c ≤ 122
theorem Lts.perm {l l' : List Nat} (h : Lts l) (p : l'.Perm l) : Lts l' := ⟨p.nodup_iff.mpr h.1, fun c hc => h.2 c (p.mem_iff.mp hc)⟩
theorem Lts.sub {l l' : List Nat} (h : Lts l) (p : l'.Sublist l) : Lts l' := ⟨h.1.sublist p, fun c hc => h.2 c (p.subset hc)⟩
theorem abcN_lts : Lts abcN := ⟨abcN_nodup, abcN_in⟩
def spOrder : Sp := fun vs H Q _ => ∃ (D : Deck) (lo hi : Nat), vs = [.ref D.dk, .int (lo : Int), .int (hi : Int)] ∧ DeckOk H D ∧ lo ≤ hi ∧ hi ≤ 26 ∧
  ∀ (zs : List Nat) (H' : Hp), DeckOk H' D → SameD D H H' → Lts zs → lo ≤ zs.length → zs.length ≤ hi → Q (.str (tx zs)) H'
section
variable {P : Program} {w : World} {K : PySem.W.Frag} {mg : Str → Option Value} {base : Heap} {f : Addr} {fd : FuncData}
theorem ok_order (F : Fun K "_law_order" "_law_order" s__law_order f fd) (M : Mgs mg) (D_law_next : Df P w K mg base 1 "_law_next" ["_law_deck", "_law_many"] spNext) (D_law_mixed : Df P w K mg base 2 "_law_mixed" ["_law_deck", "_law_items"] spMixed)
    (D_law_free : Df P w K mg base 31 "_law_free" ["_law_deck", "_law_letters"] (spFree 30)) : FnOk P w K mg base CX0 32 f fd ["_law_deck", "_law_low", "_law_high"] spOrder := by
  refine F.ok sc__law_order (fun vs H Q E h => ?_) (fun cdv A outer s H vs Q E hr h => ?_)
  · obtain ⟨D, lo, hi, rfl, _⟩ := h
    rfl
  obtain ⟨D, lo, hi, rfl, d, lh, h26, q⟩ := h
  refine ⟨_, (pss_cons (ps_par (i := 3) (j := 4) (by rfl) sc__law_order.nd rfl rfl (by decide) rfl rfl (pa_cons (pe_op op_add (pv 1) (pe_call D_law_next.ok (hr.mono (by omega)) rfl D_law_next.g D_law_next.kp D_law_next.b .nil pass0 (pa_cons (pv 0) (pa_cons (pe_op op_add (pe_op op_sub (pv 2) (pv 1)) pe_int) pa_nil)))) (pa_cons (pe_call D_law_next.ok (hr.mono (by omega)) rfl D_law_next.g D_law_next.kp D_law_next.b .nil pass0 (pa_cons (pv 0) (pa_cons pe_int pa_nil))) pa_nil)) (by rfl))
    (pss_cons (ps_set (i := 5) sc__law_order.nd rfl (.inl rfl) (pe_callB cr_sortedS rfl M.sorted (by decide +kernel) (pa_cons (pe_slice sl_list (pe_call D_law_mixed.ok (hr.mono (by omega)) rfl D_law_mixed.g D_law_mixed.kp D_law_mixed.b .nil pass0 (pa_cons (pv 0) (pa_cons (pe_callTy (call_signs rfl) rfl M.list (by decide +kernel) (pa_cons pe_str pa_nil)) pa_nil))) po_none (po_some (pv 3))) pa_nil)))
    (pss_cons (ps_if (pt_cmpR op_eq (pv 4) pe_int (nomark _))
      (pss_one (ps_set (i := 5) sc__law_order.nd rfl (.inl rfl) (pe_call D_law_mixed.ok (hr.mono (by omega)) rfl D_law_mixed.g D_law_mixed.kp D_law_mixed.b .nil pass0 (pa_cons (pv 0) (pa_cons (pv 5) pa_nil))))) pss_nil)
    (pss_cons (ps_if (pt_cmpR op_eq (pv 4) pe_int (nomark _))
      (pss_one (ps_set (i := 5) sc__law_order.nd rfl (.inl rfl) (pe_revL (pv 5)))) pss_nil)
    (pss_cons (ps_if (pt_cmpR op_eq (pv 4) pe_int (nomark _))
      (pss_one (ps_set (i := 5) sc__law_order.nd rfl (.inl rfl) (pe_call D_law_free.ok (hr.mono (by omega)) rfl D_law_free.g D_law_free.kp D_law_free.b .nil pass0 (pa_cons (pv 0) (pa_cons (pv 5) pa_nil))))) pss_nil)
    (pss_one (ps_ret (pe_bm PySem.F.plainAttrs_str PySem.F.slot_str_join PySem.F.type_str_join mt_join pe_str (pa_cons (pv 5) pa_nil))))))))), ?_⟩
  refine ⟨_, rfl, _, rfl, _, rfl, _, rfl, _, _, rfl, rfl, _, _, rfl, rfl, D, _, rfl, d, by omega, by omega, fun i H1 i0 i1 d1 s1 => ?_⟩
  refine ⟨_, _, rfl, rfl, _, rfl, D, _, rfl, d1, by decide, by decide, fun wy H2 w0 w1 d2 s2 => ?_⟩
  refine ⟨_, _, rfl, ?_⟩
  have s12 := s1.trans s2
  refine ⟨_, rfl, _, rfl, by decide +kernel, fun la nla => ?_⟩
  have q1 := same_new nla (.lst (abcN.map vc))
  refine ⟨D, la, abcN, rfl, d2.same q1, upd_same, d2.new nla, by rw [abcN_len]; decide, fun pm zm H3 d3 s3 em pmm om => ?_⟩
  have s13 := s12.trans ((SameD.of q1).trans s3)
  have ei : (lo : Int) + i = ((lo + i.toNat : Nat) : Int) := by omega
  refine ⟨_, rfl, _, rfl, pm, _, rfl, SqL.of em, fun pc npc => ?_⟩
  rw [ei, cut_to, ← List.map_take]
  have q2 := same_new npc (.lst ((zm.take (lo + i.toNat)).map vc))
  have tl : (zm.take (lo + i.toNat)).length = lo + i.toNat := by rw [List.length_take, pmm.length_eq, abcN_len]; omega
  have lt0 : Lts (zm.take (lo + i.toNat)) := (abcN_lts.perm pmm).sub (List.take_sublist _ _)
  have ec : (upd H3 pc (.lst ((zm.take (lo + i.toNat)).map vc))) pc = some (.lst (((zm.take (lo + i.toNat)).map ch).map V.str)) := by rw [upd_same, map_vc]
  refine ⟨pc, (zm.take (lo + i.toNat)).map ch, rfl, SqL.of ec, by rw [List.length_map, tl]; omega, fun ys ps pms _ nps => ?_⟩
  obtain ⟨zs, rfl, pz⟩ := perm_ch pms
  rw [← map_vc]
  have q3 := same_new nps (.lst (zs.map vc))
  have ltz := lt0.perm pz
  have zl : zs.length = lo + i.toNat := pz.length_eq.trans tl
  have d5 := (d3.same q2).same q3
  have s15 := s13.trans (SameD.of (q2.trans q3))
  have ops := (d3.same q2).new nps
  have eps := upd_same (H := upd H3 pc (.lst ((zm.take (lo + i.toNat)).map vc))) (a := ps) (o := .lst (zs.map vc))
  generalize upd (upd H3 pc (.lst ((zm.take (lo + i.toNat)).map vc))) ps (.lst (zs.map vc)) = H5 at d5 s15 eps
  have fin : ∀ (p : Addr) (us : List Nat) (H' : Hp), DeckOk H' D → SameD D H H' → H' p = some (.lst (us.map vc)) → us.Perm zs → ∃ (a : Str) (p' : Addr) (ys : List Str), V.str (Str.ofString "") = .str a ∧ [V.ref p] = [.ref p'] ∧ (SqL K H' p' (ys.map V.str) ∨ SqT K H' p' (ys.map V.str)) ∧ (ys.map (·.length)).sum + ys.length * a.length ≤ 16777216 ∧ Q (.str (Txt.join a ys)) H' := fun p us H' d' s' e' pu => by
    refine ⟨_, p, us.map ch, rfl, rfl, .inl (SqL.of (by rw [← map_vc]; exact e')), tx_joinOk us (by rw [pu.length_eq]; omega), ?_⟩
    rw [tx_join]
    exact q us H' d' s' (ltz.perm pu) (by rw [pu.length_eq]; omega) (by rw [pu.length_eq]; omega)
  have hw : wy = 0 ∨ wy = 1 ∨ wy = 2 ∨ wy = 3 := by omega
  rcases hw with rfl | rfl | rfl | rfl
  · refine ⟨_, rfl, rfl, _, rfl, iteI rfl ?_⟩
    refine ⟨_, rfl, _, rfl, D, ps, zs, rfl, d5, eps, ops, by omega, fun p us H6 d6 s6 e6 p6 o6 => ?_⟩
    refine ⟨_, rfl, rfl, _, rfl, iteJ (by decide) ?_⟩
    refine ⟨_, rfl, rfl, _, rfl, iteJ (by decide) ?_⟩
    exact ⟨rfl, _, rfl, fin p us H6 d6 (s15.trans s6) e6 p6⟩
  · refine ⟨_, rfl, rfl, _, rfl, iteJ (by decide) ?_⟩
    refine ⟨_, rfl, rfl, _, rfl, iteI rfl ?_⟩
    refine ⟨_, rfl, ps, _, rfl, SqL.of eps, fun p np => ?_⟩
    refine ⟨_, rfl, rfl, _, rfl, iteJ (by decide) ?_⟩
    have q6 := same_new np (.lst (zs.map vc).reverse)
    exact ⟨rfl, _, rfl, fin p zs.reverse _ (d5.same q6) (s15.trans (SameD.of q6)) (by rw [upd_same, List.map_reverse]) (List.reverse_perm _)⟩
  · refine ⟨_, rfl, rfl, _, rfl, iteJ (by decide) ?_⟩
    refine ⟨_, rfl, rfl, _, rfl, iteJ (by decide) ?_⟩
    refine ⟨_, rfl, rfl, _, rfl, iteI rfl ?_⟩
    refine ⟨_, rfl, _, rfl, D, ps, zs, rfl, d5, eps, ops, by omega, by omega, fun p us H6 d6 s6 e6 p6 o6 => ?_⟩
    exact ⟨rfl, _, rfl, fin p us H6 d6 (s15.trans s6) e6 p6⟩
  · refine ⟨_, rfl, rfl, _, rfl, iteJ (by decide) ?_⟩
    refine ⟨_, rfl, rfl, _, rfl, iteJ (by decide) ?_⟩
    refine ⟨_, rfl, rfl, _, rfl, iteJ (by decide) ?_⟩
    exact ⟨rfl, _, rfl, fin ps zs H5 d5 s15 eps (List.Perm.refl _)⟩
end
/-! ### trees by inserting -/
def B.ins : B → Nat → B
  | .nil, c => .node .nil c .nil
  | .node l x r, c => if c < x then .node (l.ins c) x r else .node l x (r.ins c)
theorem B.ins_size (t : B) (c : Nat) : (t.ins c).size = t.size + 1 := by
  induction t with
  | nil => rfl
  | node l x r h1 h2 =>
    show (if c < x then B.node (l.ins c) x r else .node l x (r.ins c)).size = l.size + 1 + r.size + 1
    split
    · show (l.ins c).size + 1 + r.size = _
      omega
    · show l.size + 1 + (r.ins c).size = _
      omega
def gr (zs : List Nat) : B := zs.foldl B.ins .nil
theorem foldl_ins_size (zs : List Nat) : ∀ t : B, (zs.foldl B.ins t).size = t.size + zs.length := by
  induction zs with
  | nil => intro t; rfl
  | cons c r ih => intro t; rw [List.foldl_cons, ih, B.ins_size, List.length_cons]; omega
theorem gr_size (zs : List Nat) : (gr zs).size = zs.length := by
  unfold gr
  rw [foldl_ins_size]
  exact Nat.zero_add _
def spPut (n : Nat) : Sp := fun vs H Q _ => ∃ (v : V) (t : B) (c : Nat), vs = [v, .str (ch c)] ∧ BAt H v t ∧ t.size < n ∧ ∀ (v' : V) (H' : Hp), Same H H' → BAt H' v' (t.ins c) → Q v' H'
section
variable {P : Program} {w : World} {K : PySem.W.Frag} {mg : Str → Option Value} {base : Heap} {f : Addr} {fd : FuncData}
theorem ok_with (F : Fun K "with_letter" "with_letter" s_with_letter f fd) (b : Binds K fd ["tree", "letter"] []) (g : mg "with_letter" = some (.ref f)) : ∀ n : Nat, FnOk P w K mg base CX0 n f fd ["tree", "letter"] (spPut n)
  | 0 => by
    have no : ∀ vs H Q E, ¬ spPut 0 vs H Q E := fun vs H Q E h => by
      obtain ⟨v, t, c, _, _, h1, _⟩ := h
      omega
    exact ⟨fun vs H Q E h => absurd h (no vs H Q E), fun A outer s H args us vs Q E _ _ _ _ h => absurd h (no vs H Q E)⟩
  | n + 1 => by
    have Dself : Df P w K mg base n "with_letter" ["tree", "letter"] (spPut n) := ⟨f, fd, ok_with F b g n, b, F.kp, g⟩
    refine F.ok sc_with_letter (fun vs H Q E h => ?_) (fun cdv A outer s H vs Q E hr h => ?_)
    · obtain ⟨v, t, c, rfl, _⟩ := h
      rfl
    obtain ⟨v, t, c, rfl, hv, hn, q⟩ := h
    refine ⟨_, (pss_cons (ps_if (pt_cmpR op_isN (pv 0) pe_non (nomark _))
      (pss_one (ps_ret (pe_tup (pa_cons pe_non (pa_cons (pv 1) (pa_cons pe_non pa_nil)))))) pss_nil)
    (pss_cons (ps_asg (pv 0) (pg_tup rfl (pgs_cons (pg_name (i := 2) sc_with_letter.nd rfl (.inl rfl)) (pgs_cons (pg_name (i := 3) sc_with_letter.nd rfl (.inl rfl)) (pgs_cons (pg_name (i := 4) sc_with_letter.nd rfl (.inl rfl)) pgs_nil)))))
    (pss_cons (ps_if (pt_cmpR op_lt_str (pv 1) (pv 3) (nomark _))
      (pss_one (ps_ret (pe_tup (pa_cons (pe_call Dself.ok (hr.mono (by omega)) rfl Dself.g Dself.kp Dself.b .nil pass0 (pa_cons (pv 2) (pa_cons (pv 1) pa_nil))) (pa_cons (pv 3) (pa_cons (pv 4) pa_nil)))))) pss_nil)
    (pss_one (ps_ret (pe_tup (pa_cons (pv 2) (pa_cons (pv 3) (pa_cons (pe_call Dself.ok (hr.mono (by omega)) rfl Dself.g Dself.kp Dself.b .nil pass0 (pa_cons (pv 4) (pa_cons (pv 1) pa_nil))) pa_nil))))))))), ?_⟩
    rcases hv.inv with ⟨rfl, rfl⟩ | ⟨a, l, r, x, tl, tr, rfl, rfl, ea, hl, hr'⟩
    · refine ⟨_, rfl, rfl, _, rfl, iteT ?_⟩
      refine ⟨_, rfl, (by show 3 ≤ sizeLine; decide), fun p np => ?_⟩
      exact q _ _ (same_new np _) (.node upd_same .nil .nil)
    · refine ⟨_, rfl, rfl, _, rfl, iteF ?_⟩
      refine ⟨_, rfl, a, _, rfl, SqT.of ea, rfl, _, _, rfl, _, _, rfl, _, _, rfl, rfl, ?_⟩
      have sz : tl.size + 1 + tr.size < n + 1 := hn
      refine ⟨_, rfl, _, rfl, _, _, rfl, rfl, _, rfl, ?_⟩
      rw [ch_lt]
      have ei : (B.node tl x tr).ins c = if c < x then .node (tl.ins c) x tr else .node tl x (tr.ins c) := rfl
      rw [ei] at q
      by_cases hc : c < x
      · rw [decide_eq_true hc]
        rw [if_pos hc] at q
        refine iteT ?_
        refine ⟨_, rfl, _, rfl, l, tl, c, rfl, hl, by omega, fun v' H' s' h' => ?_⟩
        refine ⟨_, rfl, _, rfl, (by show 3 ≤ sizeLine; decide), fun p np => ?_⟩
        have sn := same_new np (.tup [v', .str (ch x), r])
        exact q _ _ (s'.trans sn) (.node upd_same (h'.same sn) ((hr'.same s').same sn))
      · rw [decide_eq_false hc]
        rw [if_neg hc] at q
        refine iteF ?_
        refine ⟨_, rfl, _, rfl, _, rfl, _, rfl, r, tr, c, rfl, hr', by omega, fun v' H' s' h' => ?_⟩
        refine ⟨(by show 3 ≤ sizeLine; decide), fun p np => ?_⟩
        have sn := same_new np (.tup [l, .str (ch x), v'])
        exact q _ _ (s'.trans sn) (.node upd_same ((hl.same s').same sn) (h'.same sn))
theorem ok_size (F : Fun K "size_of" "size_of" s_size_of f fd) (b : Binds K fd ["tree"] []) (g : mg "size_of" = some (.ref f)) : ∀ n : Nat, FnOk P w K mg base CX0 n f fd ["tree"]
    (fun vs H Q _ => ∃ (v : V) (t : B), vs = [v] ∧ BAt H v t ∧ t.size < n ∧ Q (.int (t.size : Int)) H)
  | 0 => by
    have no : ∀ (vs : List V) (H : Hp) (Q : VK), ¬ (∃ (v : V) (t : B), vs = [v] ∧ BAt H v t ∧ t.size < 0 ∧ Q (.int (t.size : Int)) H) := fun vs H Q h => by
      obtain ⟨v, t, _, _, h1, _⟩ := h
      omega
    exact ⟨fun vs H Q E h => absurd h (no vs H Q), fun A outer s H args us vs Q E _ _ _ _ h => absurd h (no vs H Q)⟩
  | n + 1 => by
    have Dself : Df P w K mg base n "size_of" ["tree"] (fun vs H Q _ => ∃ (v : V) (t : B), vs = [v] ∧ BAt H v t ∧ t.size < n ∧ Q (.int (t.size : Int)) H) := ⟨f, fd, ok_size F b g n, b, F.kp, g⟩
    refine F.ok sc_size_of (fun vs H Q E h => ?_) (fun cdv A outer s H vs Q E hr h => ?_)
    · obtain ⟨v, t, rfl, _⟩ := h
      rfl
    obtain ⟨v, t, rfl, hv, hn, q⟩ := h
    refine ⟨_, (pss_cons (ps_if (pt_cmpR op_isN (pv 0) pe_non (nomark _))
      (pss_one (ps_ret pe_int)) pss_nil)
    (pss_one (ps_ret (pe_op op_add (pe_op op_add (pe_call Dself.ok (hr.mono (by omega)) rfl Dself.g Dself.kp Dself.b .nil pass0 (pa_cons (pe_ix ix_tup (pv 0) pe_int (fun _ _ => rfl)) pa_nil)) pe_int) (pe_call Dself.ok (hr.mono (by omega)) rfl Dself.g Dself.kp Dself.b .nil pass0 (pa_cons (pe_ix ix_tup (pv 0) pe_int (fun _ _ => rfl)) pa_nil)))))), ?_⟩
    rcases hv.inv with ⟨rfl, rfl⟩ | ⟨a, l, r, x, tl, tr, rfl, rfl, ea, hl, hr'⟩
    · exact ⟨_, rfl, rfl, _, rfl, iteT q⟩
    · refine ⟨_, rfl, rfl, _, rfl, iteF ?_⟩
      have sz : tl.size + 1 + tr.size < n + 1 := hn
      refine ⟨_, rfl, a, _, _, _, rfl, rfl, SqT.of ea, atI_nat (j := 0) rfl, l, tl, rfl, hl, by omega, _, _, rfl, rfl, ?_⟩
      refine ⟨_, rfl, a, _, _, _, rfl, rfl, SqT.of ea, atI_nat (j := 2) rfl, r, tr, rfl, hr', by omega, _, _, rfl, rfl, ?_⟩
      have e : ((B.node tl x tr).size : Int) = (tl.size : Int) + 1 + (tr.size : Int) := by
        show ((tl.size + 1 + tr.size : Nat) : Int) = _
        omega
      rw [e] at q
      exact q
theorem take_next {zs : List Nat} {i c : Nat} (h : zs[i]? = some c) : zs.take (i + 1) = zs.take i ++ [c] := by
  rw [List.take_succ, h]
  rfl
end
/-! ### walks -/
inductive Kd where
  | first
  | between
  | last
def Kd.str : Kd → Str
  | .first => "first"
  | .between => "between"
  | .last => "last"
def B.post : B → List Nat
  | .nil => []
  | .node l x r => l.post ++ r.post ++ [x]
def B.wk (k : Kd) (t : B) : List Nat := match k with
  | .first => t.pre
  | .between => t.mid
  | .last => t.post
def B.steps (k : Kd) : B → List Nat → List (List Nat × Nat)
  | .nil, _ => []
  | .node l x r, q => match k with
    | .first => [(q, x)] ++ l.steps k (q ++ [108]) ++ r.steps k (q ++ [114])
    | .between => l.steps k (q ++ [108]) ++ [(q, x)] ++ r.steps k (q ++ [114])
    | .last => l.steps k (q ++ [108]) ++ r.steps k (q ++ [114]) ++ [(q, x)]
theorem B.steps_wk (k : Kd) (t : B) : ∀ q : List Nat, (t.steps k q).map (·.2) = t.wk k := by
  induction t with
  | nil => intro q; cases k <;> rfl
  | node l x r h1 h2 =>
    intro q
    have a := h1 (q ++ [108])
    have b := h2 (q ++ [114])
    cases k
    · show ([(q, x)] ++ l.steps .first (q ++ [108]) ++ r.steps .first (q ++ [114])).map (·.2) = x :: (l.pre ++ r.pre)
      rw [List.map_append, List.map_append, a, b]; rfl
    · show (l.steps .between (q ++ [108]) ++ [(q, x)] ++ r.steps .between (q ++ [114])).map (·.2) = l.mid ++ x :: r.mid
      rw [List.map_append, List.map_append, a, b]
      show l.mid ++ [x] ++ r.mid = _
      rw [List.append_assoc]; rfl
    · show (l.steps .last (q ++ [108]) ++ r.steps .last (q ++ [114]) ++ [(q, x)]).map (·.2) = l.post ++ r.post ++ [x]
      rw [List.map_append, List.map_append, a, b]; rfl
theorem B.wk_len (k : Kd) (t : B) : (t.wk k).length = t.size := by
  cases k
  · exact t.pre_len
  · exact t.mid_len
  · show t.post.length = t.size
    induction t with
    | nil => rfl
    | node l x r h1 h2 =>
      show (l.post ++ r.post ++ [x]).length = l.size + 1 + r.size
      rw [List.length_append, List.length_append, h1, h2, List.length_cons, List.length_nil]
      omega
theorem B.steps_len (k : Kd) (t : B) (q : List Nat) : (t.steps k q).length = t.size := by
  rw [← t.wk_len k, ← t.steps_wk k q, List.length_map]
inductive StAt (H : Hp) : List V → List (List Nat × Nat) → Prop
  | nil : StAt H [] []
  | cons {a : Addr} {q : List Nat} {x : Nat} {vs : List V} {ss : List (List Nat × Nat)} : H a = some (.tup [.str (tx q), .str (ch x)]) → StAt H vs ss → StAt H (.ref a :: vs) ((q, x) :: ss)
theorem StAt.keep {H H' : Hp} (k : KeepT H H') {vs : List V} {ss : List (List Nat × Nat)} (h : StAt H vs ss) : StAt H' vs ss := by
  induction h with
  | nil => exact .nil
  | cons e _ ih => exact .cons (k _ _ e) ih
theorem StAt.same {H H' : Hp} (k : Same H H') {vs : List V} {ss : List (List Nat × Nat)} (h : StAt H vs ss) : StAt H' vs ss := h.keep (Tw.Same.keepT k)
theorem StAt.app {H : Hp} {vs us : List V} {ss ts : List (List Nat × Nat)} (h : StAt H vs ss) (g : StAt H us ts) : StAt H (vs ++ us) (ss ++ ts) := by
  induction h with
  | nil => exact g
  | cons e _ ih => exact .cons e ih
theorem StAt.len {H : Hp} {vs : List V} {ss : List (List Nat × Nat)} (h : StAt H vs ss) : vs.length = ss.length := by
  induction h with
  | nil => rfl
  | cons _ _ ih => rw [List.length_cons, List.length_cons, ih]
theorem StAt.get {H : Hp} {vs : List V} {ss : List (List Nat × Nat)} (h : StAt H vs ss) : ∀ {i : Nat} {v : V}, vs[i]? = some v → ∃ a q x, v = .ref a ∧ ss[i]? = some (q, x) ∧ H a = some (.tup [.str (tx q), .str (ch x)]) := by
  induction h with
  | nil => intro i v e; simp at e
  | cons e _ ih =>
    intro i v he
    cases i with
    | zero => cases he; exact ⟨_, _, _, rfl, rfl, e⟩
    | succ i => exact ih he
theorem str_l : Str.ofString "l" = tx [108] := by decide +kernel
theorem str_r : Str.ofString "r" = tx [114] := by decide +kernel
theorem str_0 : Str.ofString "" = tx [] := by decide +kernel
def spDeep (n : Nat) : Sp := fun vs H Q _ => ∃ (v : V) (t : B) (k : Kd) (q : List Nat), vs = [v, .str k.str, .str (tx q)] ∧ BAt H v t ∧ t.size < n ∧ t.size + q.length ≤ 200 ∧
  ∀ (p : Addr) (us : List V) (H' : Hp), Same H H' → H' p = some (.lst us) → StAt H' us (t.steps k q) → Q (.ref p) H'
theorem iteS {x y : Str} {A B : Prop} (h : x = y) (a : A) : if decide (V.str x = V.str y) = true then A else B := by
  rw [if_pos (decide_eq_true (congrArg V.str h))]; exact a
theorem iteR {x y : Str} {A B : Prop} (h : x ≠ y) (b : B) : if decide (V.str x = V.str y) = true then A else B := by
  rw [if_neg (fun z => h (V.str.inj (of_decide_eq_true z)))]; exact b
section
variable {P : Program} {w : World} {K : PySem.W.Frag} {mg : Str → Option Value} {base : Heap} {f : Addr} {fd : FuncData}
theorem ok_deep (F : Fun K "deep_steps" "deep_steps" s_deep_steps f fd) (b : Binds K fd ["tree", "kind", "path"] []) (g : mg "deep_steps" = some (.ref f)) : ∀ n : Nat, FnOk P w K mg base CX0 n f fd ["tree", "kind", "path"] (spDeep n)
  | 0 => by
    have no : ∀ vs H Q E, ¬ spDeep 0 vs H Q E := fun vs H Q E h => by
      obtain ⟨v, t, k, q, _, _, h1, _⟩ := h
      omega
    exact ⟨fun vs H Q E h => absurd h (no vs H Q E), fun A outer s H args us vs Q E _ _ _ _ h => absurd h (no vs H Q E)⟩
  | n + 1 => by
    have Dself : Df P w K mg base n "deep_steps" ["tree", "kind", "path"] (spDeep n) := ⟨f, fd, ok_deep F b g n, b, F.kp, g⟩
    refine F.ok sc_deep_steps (fun vs H Q E h => ?_) (fun cdv A outer s H vs Q E hr h => ?_)
    · obtain ⟨v, t, k, q, rfl, _⟩ := h
      rfl
    obtain ⟨v, t, k, pth, rfl, hv, hn, hz, q⟩ := h
    refine ⟨_, (pss_cons (ps_if (pt_cmpR op_isN (pv 0) pe_non (nomark _))
      (pss_one (ps_ret (pe_lst pa_nil))) pss_nil)
    (pss_cons (ps_asg (pv 0) (pg_tup rfl (pgs_cons (pg_name (i := 3) sc_deep_steps.nd rfl (.inl rfl)) (pgs_cons (pg_name (i := 4) sc_deep_steps.nd rfl (.inl rfl)) (pgs_cons (pg_name (i := 5) sc_deep_steps.nd rfl (.inl rfl)) pgs_nil)))))
    (pss_cons (ps_set (i := 6) sc_deep_steps.nd rfl (.inl rfl) (pe_lst (pa_cons (pe_tup (pa_cons (pv 2) (pa_cons (pv 4) pa_nil))) pa_nil)))
    (pss_cons (ps_set (i := 7) sc_deep_steps.nd rfl (.inl rfl) (pe_call Dself.ok (hr.mono (by omega)) rfl Dself.g Dself.kp Dself.b .nil pass0 (pa_cons (pv 3) (pa_cons (pv 1) (pa_cons (pe_op op_add_str (pv 2) pe_str) pa_nil)))))
    (pss_cons (ps_set (i := 8) sc_deep_steps.nd rfl (.inl rfl) (pe_call Dself.ok (hr.mono (by omega)) rfl Dself.g Dself.kp Dself.b .nil pass0 (pa_cons (pv 5) (pa_cons (pv 1) (pa_cons (pe_op op_add_str (pv 2) pe_str) pa_nil)))))
    (pss_cons (ps_if (pt_cmpR op_eq (pv 1) pe_str (nomark _))
      (pss_one (ps_ret (pe_op op_cat (pe_op op_cat (pv 6) (pv 7)) (pv 8)))) pss_nil)
    (pss_cons (ps_if (pt_cmpR op_eq (pv 1) pe_str (nomark _))
      (pss_one (ps_ret (pe_op op_cat (pe_op op_cat (pv 7) (pv 6)) (pv 8)))) pss_nil)
    (pss_one (ps_ret (pe_op op_cat (pe_op op_cat (pv 7) (pv 8)) (pv 6))))))))))), ?_⟩
    rcases hv.inv with ⟨rfl, rfl⟩ | ⟨a, l, r, x, tl, tr, rfl, rfl, ea, hl, hr'⟩
    · refine ⟨_, rfl, rfl, _, rfl, iteT ⟨(by show 0 ≤ sizeLine; decide), fun p np => ?_⟩⟩
      exact q p [] _ (same_new np _) upd_same .nil
    · refine ⟨_, rfl, rfl, _, rfl, iteF ?_⟩
      refine ⟨_, rfl, a, _, rfl, SqT.of ea, rfl, _, _, rfl, _, _, rfl, _, _, rfl, rfl, ?_⟩
      have sz : tl.size + 1 + tr.size < n + 1 := hn
      have sz2 : tl.size + 1 + tr.size + pth.length ≤ 200 := hz
      -- root
      refine ⟨_, rfl, _, rfl, (by show 2 ≤ sizeLine; decide), fun tp ntp => ⟨(by show 1 ≤ sizeLine; decide), fun ro nro => ?_⟩⟩
      have q1 := same_new ntp (.tup [.str (tx pth), .str (ch x)])
      have q2 := same_new nro (.lst [.ref tp])
      have etp := q2 _ _ (upd_same (H := H) (a := tp) (o := .tup [.str (tx pth), .str (ch x)]))
      have ero := upd_same (H := upd H tp (.tup [.str (tx pth), .str (ch x)])) (a := ro) (o := .lst [.ref tp])
      have s1 := q1.trans q2
      generalize upd (upd H tp (.tup [.str (tx pth), .str (ch x)])) ro (.lst [.ref tp]) = H1 at etp ero s1
      -- lefts
      refine ⟨_, rfl, _, rfl, _, rfl, _, _, rfl, rfl, ?_, ?_⟩
      · rw [str_l, tx_len, tx_len]; exact small (by show _ + 1 ≤ 1000; omega)
      rw [str_l, tx_app]
      refine ⟨l, tl, k, pth ++ [108], rfl, hl.same s1, by omega, by rw [List.length_append]; show _ + (_ + 1) ≤ 200; omega, fun lp ul H2 s2 elp stl => ?_⟩
      -- rights
      refine ⟨_, rfl, _, rfl, _, rfl, _, _, rfl, rfl, ?_, ?_⟩
      · rw [str_r, tx_len, tx_len]; exact small (by show _ + 1 ≤ 1000; omega)
      rw [str_r, tx_app]
      refine ⟨r, tr, k, pth ++ [114], rfl, (hr'.same s1).same s2, by omega, by rw [List.length_append]; show _ + (_ + 1) ≤ 200; omega, fun rp ur H3 s3 erp str => ?_⟩
      have ero3 := s3 _ _ (s2 _ _ ero)
      have elp3 := s3 _ _ elp
      have strt : StAt H3 [.ref tp] [(pth, x)] := .cons (s3 _ _ (s2 _ _ etp)) .nil
      have stl3 := stl.same s3
      have sA := (s1.trans s2).trans s3
      have ll := stl.len
      have lr := str.len
      rw [B.steps_len] at ll lr
      cases k
      · refine ⟨_, rfl, rfl, _, rfl, iteS rfl ?_⟩
        refine ⟨_, rfl, _, rfl, ro, lp, _, _, rfl, rfl, ero3, elp3, small (by show 1 + _ ≤ 1000; omega), fun c1 n1 => ?_⟩
        have k1 := same_new n1 (.lst ([.ref tp] ++ ul))
        refine ⟨_, rfl, c1, rp, _, _, rfl, rfl, upd_same, k1 _ _ erp, small (by rw [List.length_append]; show 1 + _ + _ ≤ 1000; omega), fun c2 n2 => ?_⟩
        have k2 := same_new n2 (.lst ([.ref tp] ++ ul ++ ur))
        exact q c2 _ _ (sA.trans (k1.trans k2)) upd_same (((strt.app stl3).app str).same (k1.trans k2))
      · refine ⟨_, rfl, rfl, _, rfl, iteR (by decide +kernel) ?_⟩
        refine ⟨_, rfl, rfl, _, rfl, iteS rfl ?_⟩
        refine ⟨_, rfl, _, rfl, lp, ro, _, _, rfl, rfl, elp3, ero3, small (by show _ + 1 ≤ 1000; omega), fun c1 n1 => ?_⟩
        have k1 := same_new n1 (.lst (ul ++ [.ref tp]))
        refine ⟨_, rfl, c1, rp, _, _, rfl, rfl, upd_same, k1 _ _ erp, small (by rw [List.length_append]; show _ + 1 + _ ≤ 1000; omega), fun c2 n2 => ?_⟩
        have k2 := same_new n2 (.lst (ul ++ [.ref tp] ++ ur))
        exact q c2 _ _ (sA.trans (k1.trans k2)) upd_same (((stl3.app strt).app str).same (k1.trans k2))
      · refine ⟨_, rfl, rfl, _, rfl, iteR (by decide +kernel) ?_⟩
        refine ⟨_, rfl, rfl, _, rfl, iteR (by decide +kernel) ?_⟩
        refine ⟨_, rfl, _, rfl, lp, rp, _, _, rfl, rfl, elp3, erp, small (by omega), fun c1 n1 => ?_⟩
        have k1 := same_new n1 (.lst (ul ++ ur))
        refine ⟨_, rfl, c1, ro, _, _, rfl, rfl, upd_same, k1 _ _ ero3, small (by rw [List.length_append]; show _ + _ + 1 ≤ 1000; omega), fun c2 n2 => ?_⟩
        have k2 := same_new n2 (.lst (ul ++ ur ++ [.ref tp]))
        exact q c2 _ _ (sA.trans (k1.trans k2)) upd_same (((stl3.app str).app strt).same (k1.trans k2))
/-- the tuple KINDS of the text -/
structure KindsT (K : PySem.W.Frag) (mg : Str → Option Value) (a : Addr) : Prop where
  mg : mg "KINDS" = some (.ref a)
  sq : ∀ H : Hp, SqT K H a [.str "first", .str "between", .str "last", .str "level"]
def spKind : Sp := fun vs H Q _ => ∃ k : Kd, vs = [.str k.str] ∧ Q (.bl true) H
theorem ok_kind {k : Nat} {aK : Addr} (F : Fun K "is_kind" "is_kind" s_is_kind f fd) (M : Mgs mg) (Kk : KindsT K mg aK) : FnOk P w K mg base CX0 (k + 1) f fd ["value"] spKind := by
  refine F.ok sc_is_kind (fun vs H Q E h => ?_) (fun cdv A outer s H vs Q E hr h => ?_)
  · obtain ⟨k, rfl, _⟩ := h
    rfl
  obtain ⟨k, rfl, q⟩ := h
  refine ⟨_, (pss_one (ps_ret (pe_and (pe_callB call_isi rfl M.isinstance (by decide +kernel) (pa_cons (pv 0) (pa_cons (pe_bltn (v := .ty "str") rfl M.str (by decide +kernel) rfl) pa_nil))) (pe_one (pe_cmpR op_in_seq (pv 0) (pe_glob (v := .ref _) rfl Kk.mg rfl) (by rfl)))))), ?_⟩
  refine ⟨_, rfl, _, _, _, _, true, rfl, .ty _, .base (.str _), kit_ty (by decide +kernel), _, rfl, iteT ?_⟩
  refine ⟨_, rfl, aK, _, rfl, .inr (Kk.sq H), rfl, ?_, ?_⟩
  · rfl
  · have e : (if false = true then !inV (.str k.str) [.str "first", .str "between", .str "last", .str "level"] else inV (.str k.str) [.str "first", .str "between", .str "last", .str "level"]) = true := by
      cases k <;> decide +kernel
    rw [e]
    exact q
def spSteps : Sp := fun vs H Q _ => ∃ (v : V) (t : B) (k : Kd), vs = [v, .str k.str] ∧ BAt H v t ∧ t.size ≤ 50 ∧
  ∀ (p : Addr) (us : List V) (H' : Hp), Same H H' → H' p = some (.lst us) → StAt H' us (t.steps k []) → Q (.ref p) H'
theorem ok_steps (F : Fun K "ordered_steps" "ordered_steps" s_ordered_steps f fd) (Dis_kind : Df P w K mg base 1 "is_kind" ["value"] spKind) (Ddeep_steps : Df P w K mg base 60 "deep_steps" ["tree", "kind", "path"] (spDeep 60)) :
    FnOk P w K mg base CX0 61 f fd ["tree", "kind"] spSteps := by
  refine F.ok sc_ordered_steps (fun vs H Q E h => ?_) (fun cdv A outer s H vs Q E hr h => ?_)
  · obtain ⟨v, t, k, rfl, _⟩ := h
    rfl
  obtain ⟨v, t, k, rfl, hv, hz, q⟩ := h
  refine ⟨_, (pss_cons (ps_if (pt_not (pt_val (pe_call Dis_kind.ok (hr.mono (by omega)) rfl Dis_kind.g Dis_kind.kp Dis_kind.b .nil pass0 (pa_cons (pv 1) pa_nil))))
      (pss_one ps_never) pss_nil)
    (pss_cons (ps_if (pt_cmpR op_eq (pv 1) pe_str (nomark _))
      (pss_one ps_never) pss_nil)
    (pss_one (ps_ret (pe_call Ddeep_steps.ok (hr.mono (by omega)) rfl Ddeep_steps.g Ddeep_steps.kp Ddeep_steps.b .nil pass0 (pa_cons (pv 0) (pa_cons (pv 1) (pa_cons pe_str pa_nil)))))))), ?_⟩
  refine ⟨_, rfl, k, rfl, _, rfl, iteF ?_⟩
  refine ⟨_, rfl, rfl, _, rfl, iteR (by cases k <;> decide +kernel) ?_⟩
  refine ⟨_, rfl, _, rfl, v, t, k, [], ?_, hv, by omega, by show t.size + 0 ≤ 200; omega, q⟩
  rw [← str_0]
  rfl
def spWalk : Sp := fun vs H Q _ => ∃ (v : V) (t : B) (k : Kd), vs = [v, .str k.str] ∧ BAt H v t ∧ t.size ≤ 50 ∧ ∀ H', Same H H' → Q (.str (tx (t.wk k))) H'
theorem ok_walk (F : Fun K "walk" "walk" s_walk f fd) (Dordered_steps : Df P w K mg base 61 "ordered_steps" ["tree", "kind"] spSteps) : FnOk P w K mg base CX0 62 f fd ["tree", "kind"] spWalk := by
  refine F.ok sc_walk (fun vs H Q E h => ?_) (fun cdv A outer s H vs Q E hr h => ?_)
  · obtain ⟨v, t, k, rfl, _⟩ := h
    rfl
  obtain ⟨v, t, k, rfl, hv, hz, q⟩ := h
  refine ⟨_, (pss_one (ps_ret (pe_bm PySem.F.plainAttrs_str PySem.F.slot_str_join PySem.F.type_str_join mt_join pe_str (pa_cons (pe_lc (own := [("path", 2), ("label", 3)]) (g := gTup K 2 (gCons (gName 2) (gCons (gName 3) gNil))) (tt := tYes) rfl sc_walk.nd (pi_list (pe_call Dordered_steps.ok (hr.mono (by omega)) rfl Dordered_steps.g Dordered_steps.kp Dordered_steps.b .nil pass0 (pa_cons (pv 0) (pa_cons (pv 1) pa_nil)))) (blkOk_by (N := ["tree", "kind", "path", "label"]) (sc := defScope s_walk) (by decide +kernel)) (fun _ _ _ _ _ => (pg_tup rfl (pgs_cons (pg_name (i := 2) sc_walk.nd rfl (.inl rfl)) (pgs_cons (pg_name (i := 3) sc_walk.nd rfl (.inl rfl)) pgs_nil)))) (fun _ _ _ _ _ => pts_nil) (fun _ _ _ _ _ => (pv 3))) pa_nil)))), ?_⟩
  refine ⟨rfl, _, rfl, _, rfl, v, t, k, rfl, hv, hz, fun p us H1 s1 ep st => ?_⟩
  refine ⟨p, rfl, ⟨_, SqL.of ep⟩, fun D nD => ?_⟩
  have q1 := same_new nD (.lst [])
  have hl := st.len
  rw [B.steps_len] at hl
  have ez := t.steps_wk k []
  refine lc_list (K := K) (a := p) (xs := us) (fun i H' => Same H1 H' ∧ H' D = some (.lst (((t.wk k).take i).map vc))) ⟨q1, upd_same⟩ (fun i H' _ hp => SqL.of (hp.1 _ _ ep)) (fun i x H' hx hp => ?_) (fun H' hp => ?_)
  · obtain ⟨sm, ed⟩ := hp
    obtain ⟨a, pq, c, rfl, es, ea⟩ := st.get hx
    have hc : (t.wk k)[i]? = some c := by rw [← ez, List.getElem?_map, es]; rfl
    have hi := (List.getElem?_eq_some_iff.mp hx).1
    refine ⟨a, _, rfl, SqT.of (sm _ _ ea), rfl, _, _, rfl, _, _, rfl, rfl, rfl, kept ?_⟩
    refine ⟨_, rfl, _, ed, ?_, fun b o e => ?_, ?_⟩
    · rw [List.length_map, List.length_take]; exact small1000 (by omega)
    · rw [upd_ne (ne_of_none e nD)]; exact sm _ _ e
    · rw [upd_same, take_next hc, List.map_append]; rfl
  · obtain ⟨sm, ed⟩ := hp
    have tk : (t.wk k).take us.length = t.wk k := List.take_of_length_le (by rw [t.wk_len k]; omega)
    rw [tk, map_vc] at ed
    refine ⟨_, D, (t.wk k).map ch, rfl, rfl, .inl (SqL.of ed), tx_joinOk _ (by rw [t.wk_len k]; omega), ?_⟩
    rw [tx_join]
    exact q H' (s1.trans sm)
theorem B.ins_mem (t : B) (c d : Nat) : d ∈ (t.ins c).pre ↔ d = c ∨ d ∈ t.pre := by
  induction t with
  | nil =>
    show d ∈ [c] ↔ d = c ∨ d ∈ []
    simp
  | node l x r h1 h2 =>
    show d ∈ (if c < x then B.node (l.ins c) x r else .node l x (r.ins c)).pre ↔ _
    split
    · show d ∈ x :: ((l.ins c).pre ++ r.pre) ↔ d = c ∨ d ∈ x :: (l.pre ++ r.pre)
      simp only [List.mem_cons, List.mem_append, h1]
      constructor
      · rintro (h | (h | h) | h)
        · exact .inr (.inl h)
        · exact .inl h
        · exact .inr (.inr (.inl h))
        · exact .inr (.inr (.inr h))
      · rintro (h | h | h | h)
        · exact .inr (.inl (.inl h))
        · exact .inl h
        · exact .inr (.inl (.inr h))
        · exact .inr (.inr h)
    · show d ∈ x :: (l.pre ++ (r.ins c).pre) ↔ d = c ∨ d ∈ x :: (l.pre ++ r.pre)
      simp only [List.mem_cons, List.mem_append, h2]
      constructor
      · rintro (h | h | h | h)
        · exact .inr (.inl h)
        · exact .inr (.inr (.inl h))
        · exact .inl h
        · exact .inr (.inr (.inr h))
      · rintro (h | h | h | h)
        · exact .inr (.inr (.inl h))
        · exact .inl h
        · exact .inr (.inl h)
        · exact .inr (.inr (.inr h))
theorem foldl_ins_mem (zs : List Nat) (d : Nat) : ∀ t : B, d ∈ (zs.foldl B.ins t).pre ↔ d ∈ zs ∨ d ∈ t.pre := by
  induction zs with
  | nil => intro t; simp
  | cons c r ih =>
    intro t
    rw [List.foldl_cons, ih, B.ins_mem, List.mem_cons]
    constructor
    · rintro (h | h | h)
      · exact .inl (.inr h)
      · exact .inl (.inl h)
      · exact .inr h
    · rintro ((h | h) | h)
      · exact .inr (.inl h)
      · exact .inl h
      · exact .inr (.inr h)
theorem gr_mem (zs : List Nat) (d : Nat) : d ∈ (gr zs).pre ↔ d ∈ zs := by
  unfold gr
  rw [foldl_ins_mem]
  show d ∈ zs ∨ d ∈ [] ↔ _
  simp
def spIns : Sp := fun vs H Q _ => ∃ (v : V) (t : B) (c : Nat), vs = [v, .str (ch c)] ∧ BAt H v t ∧ t.size < 12 ∧ c ∉ t.pre ∧ ∀ (v' : V) (H' : Hp), Same H H' → BAt H' v' (t.ins c) → Q v' H'
theorem ok_inserted {tM : Tok} (F : Fun K "inserted" "inserted" s_inserted f fd) (mMAX : mg "MAX_NODES" = some (.int 12 tM)) (Dwalk : Df P w K mg base 62 "walk" ["tree", "kind"] spWalk)
    (Dsize_of : Df P w K mg base 60 "size_of" ["tree"] (fun vs H Q _ => ∃ (v : V) (t : B), vs = [v] ∧ BAt H v t ∧ t.size < 60 ∧ Q (.int (t.size : Int)) H)) (Dwith_letter : Df P w K mg base 60 "with_letter" ["tree", "letter"] (spPut 60)) : FnOk P w K mg base CX0 63 f fd ["tree", "letter"] spIns := by
  refine F.ok sc_inserted (fun vs H Q E h => ?_) (fun cdv A outer s H vs Q E hr h => ?_)
  · obtain ⟨v, t, c, rfl, _⟩ := h
    rfl
  obtain ⟨v, t, c, rfl, hv, hz, hc, q⟩ := h
  refine ⟨_, (pss_cons (ps_if (PW.pt (pw_and (pt_cmpR op_notN (pv 0) pe_non (nomark _)) (pw_and1 (pt_cmpR op_in_sign (pv 1) (pe_call Dwalk.ok (hr.mono (by omega)) rfl Dwalk.g Dwalk.kp Dwalk.b .nil pass0 (pa_cons (pv 0) (pa_cons pe_str pa_nil))) (by rfl)))))
      (pss_one ps_never) pss_nil)
    (pss_cons (ps_if (pt_cmpR op_ge (pe_call Dsize_of.ok (hr.mono (by omega)) rfl Dsize_of.g Dsize_of.kp Dsize_of.b .nil pass0 (pa_cons (pv 0) pa_nil)) (pe_glob (v := .int _) rfl mMAX ⟨_, rfl⟩) (nomark _))
      (pss_one ps_never) pss_nil)
    (pss_one (ps_ret (pe_call Dwith_letter.ok (hr.mono (by omega)) rfl Dwith_letter.g Dwith_letter.kp Dwith_letter.b .nil pass0 (pa_cons (pv 0) (pa_cons (pv 1) pa_nil))))))), ?_⟩
  rcases hv.inv with ⟨rfl, rfl⟩ | ⟨a, l, r, x, tl, tr, rfl, rfl, ea, hl, hr'⟩
  · refine ⟨_, rfl, rfl, _, rfl, iteF ?_⟩
    refine ⟨_, rfl, _, .nil, rfl, hv.same (Same.refl H), by omega, _, _, rfl, rfl, _, rfl, ?_⟩
    rw [decide_eq_false (by omega)]
    exact iteF ⟨_, rfl, _, rfl, _, .nil, c, rfl, hv.same (Same.refl H), by omega, fun v' H' s' h' => q v' H' (((Same.refl H)).trans s') h'⟩
  · refine ⟨_, rfl, rfl, _, rfl, iteT ?_⟩
    refine ⟨_, rfl, _, rfl, _, _, .first, rfl, hv, by omega, fun H1 s1 => ?_⟩
    refine ⟨c, _, rfl, rfl, _, rfl, ?_⟩
    rw [decide_eq_false (show ¬ c ∈ (tx ((B.node tl x tr).wk .first)).cps.toList from hc)]
    refine iteF ?_
    refine ⟨_, rfl, _, .node tl x tr, rfl, hv.same s1, by omega, _, _, rfl, rfl, _, rfl, ?_⟩
    rw [decide_eq_false (by omega)]
    exact iteF ⟨_, rfl, _, rfl, _, .node tl x tr, c, rfl, hv.same s1, by omega, fun v' H' s' h' => q v' H' ((s1).trans s') h'⟩
theorem ok_tree_of (F : Fun K "tree_of" "tree_of" s_tree_of f fd) (Dinserted : Df P w K mg base 63 "inserted" ["tree", "letter"] spIns) : FnOk P w K mg base CX0 64 f fd ["order"]
    (fun vs H Q _ => ∃ zs : List Nat, vs = [.str (tx zs)] ∧ zs.Nodup ∧ zs.length ≤ 12 ∧ ∀ (v : V) (H' : Hp), Same H H' → BAt H' v (gr zs) → Q v H') := by
  refine F.ok sc_tree_of (fun vs H Q E h => ?_) (fun cdv A outer s H vs Q E hr h => ?_)
  · obtain ⟨zs, rfl, _⟩ := h
    rfl
  obtain ⟨zs, rfl, nd, hl, q⟩ := h
  refine ⟨_, (pss_cons (ps_set (i := 1) sc_tree_of.nd rfl (.inl rfl) pe_non)
    (pss_cons (ps_for PassesOwn.never rfl (pi_str (pv 0)) (pg_name (i := 2) sc_tree_of.nd rfl (.inl rfl))
      (pss_one (ps_set (i := 1) sc_tree_of.nd rfl (.inl rfl) (pe_call Dinserted.ok (hr.mono (by omega)) rfl Dinserted.g Dinserted.kp Dinserted.b .nil pass0 (pa_cons (pv 1) (pa_cons (pv 2) pa_nil))))))
    (pss_one (ps_ret (pv 1))))), ?_⟩
  refine ⟨_, rfl, _, rfl, ?_⟩
  refine for_text (x := tx zs) (fun i σ H' => ∃ (v : V) (c : Option V), σ = [some (.str (tx zs)), some v, c] ∧ Same H H' ∧ BAt H' v (gr (zs.take i))) ⟨_, _, rfl, Same.refl H, .nil⟩ (fun i c σ H' hc hp => ?_) (fun σ H' hp => ?_)
  · obtain ⟨v, c', rfl, s', h'⟩ := hp
    rw [tx_cps] at hc
    have hi := (List.getElem?_eq_some_iff.mp hc).1
    refine ⟨_, rfl, _, rfl, v, gr (zs.take i), c, rfl, h', ?_, ?_, fun v2 H2 s2 h2 => ?_⟩
    · rw [gr_size, List.length_take]; omega
    · rw [gr_mem]
      intro hm
      have e := take_next hc
      have nt : (zs.take (i + 1)).Nodup := nd.sublist (List.take_sublist _ _)
      rw [e, List.nodup_append] at nt
      exact nt.2.2 c hm c (List.mem_singleton.mpr rfl) rfl
    refine ⟨v2, _, rfl, s'.trans s2, ?_⟩
    rw [take_next hc]
    unfold gr at h2 ⊢
    rw [List.foldl_append]
    exact h2
  · obtain ⟨v, c', rfl, s', h'⟩ := hp
    rw [tx_cps, List.take_length] at h'
    exact ⟨_, rfl, q v H' s' h'⟩
end
/-! ### _law_same, of equal data -/
theorem sqT_same {K : PySem.W.Frag} {H H' : Hp} {a : Addr} {xs : List V} (e : Same H H') (h : SqT K H a xs) : SqT K H' a xs := by
  rcases h with (h | ⟨o, h⟩) | h
  · exact .inl (.inl (e _ _ h))
  · exact .inl (.inr ⟨o, e _ _ h⟩)
  · exact .inr h
mutual
theorem dp_same {K : PySem.W.Frag} {H H' : Hp} (e : Same H H') : ∀ {v : V} {d : PyData}, Dp K H v d → Dp K H' v d
  | _, _, .non => .non
  | _, _, .bl b => .bl b
  | _, _, .int i => .int i
  | _, _, .str x => .str x
  | _, _, .lst h a => .lst (e.seq h) (dpAll_same e a)
  | _, _, .tup h a => .tup (sqT_same e h) (dpAll_same e a)
theorem dpAll_same {K : PySem.W.Frag} {H H' : Hp} (e : Same H H') : ∀ {vs : List V} {ds : List PyData}, DpAll K H vs ds → DpAll K H' vs ds
  | _, _, .nil => .nil
  | _, _, .cons h a => .cons (dp_same e h) (dpAll_same e a)
end
theorem dpAll_len {K : PySem.W.Frag} {H : Hp} : ∀ {vs : List V} {ds : List PyData}, DpAll K H vs ds → vs.length = ds.length
  | _, _, .nil => rfl
  | _, _, .cons _ a => congrArg (· + 1) (dpAll_len a)
theorem dpAll_get {K : PySem.W.Frag} {H : Hp} : ∀ {vs : List V} {ds : List PyData} {i : Nat} {d : PyData}, DpAll K H vs ds → ds[i]? = some d → ∃ v, vs[i]? = some v ∧ Dp K H v d
  | _, _, _, _, .nil, h => by simp at h
  | _, _, 0, _, .cons h _, e => by
    cases e
    exact ⟨_, rfl, h⟩
  | _, _, i + 1, _, .cons _ a, e => dpAll_get (i := i) a e
def tyD : PyData → String
  | .none => "NoneType"
  | .bool _ => "bool"
  | .int _ => "int"
  | .str _ => "str"
  | .list _ => "list"
  | .tuple _ => "tuple"
  | .dict _ => "dict"
theorem dp_ty {K : PySem.W.Frag} {H : Hp} {v : V} {d : PyData} (h : Dp K H v d) : TyX K H v (.type (tyD d)) := by
  cases h with
  | non => exact .base .non
  | bl b => exact .base (.bl b)
  | int i => exact .base (.int i)
  | str x => exact .base (.str x)
  | lst h _ =>
    rcases h with (h | ⟨o, h⟩) | ⟨o, its, n, h, hc, _⟩
    · exact .base (.lst h)
    · exact .base (.frz h)
    · exact .kList h hc
  | tup h _ =>
    rcases h with (h | ⟨o, h⟩) | ⟨o, its, n, h, hc, _⟩
    · exact .base (.tup h)
    · exact .fTuple h
    · exact .kTuple h hc
theorem kit_lt {K : PySem.W.Frag} {a : String} {r s : Bool} (h1 : kitB a "list" = some r) (h2 : kitB a "tuple" = some s) : PySem.W.kitAny K (.type a) [.type "list", .type "tuple"] = some (r || s) := by
  refine kitAny_cons (kit_ty h1) (fun e => kitAny_cons (kit_ty h2) (fun e2 => ?_) fun e2 => ?_) fun e => ?_
  · rw [kitAny_nil, e, e2]; rfl
  · rw [e2, Bool.or_true]
  · rw [e, Bool.true_or]
theorem depth_get : ∀ {ds : List PyData} {i : Nat} {d : PyData}, ds[i]? = some d → d.depth ≤ PyData.depthAll ds
  | [], _, _, h => by simp at h
  | x :: xs, 0, _, h => by
    cases h
    simp only [PyData.depthAll]
    omega
  | x :: xs, i + 1, d, h => by
    have := depth_get (ds := xs) (i := i) h
    simp only [PyData.depthAll]
    omega
mutual
def nar : PyData → Bool
  | .list xs => decide (xs.length ≤ 1000000) && narAll xs
  | .tuple xs => decide (xs.length ≤ 1000000) && narAll xs
  | .dict _ => false
  | .none => true
  | .bool _ => true
  | .int _ => true
  | .str _ => true
def narAll : List PyData → Bool
  | [] => true
  | x :: xs => nar x && narAll xs
end
theorem nar_get : ∀ {ds : List PyData} {i : Nat} {d : PyData}, ds[i]? = some d → narAll ds = true → nar d = true
  | [], _, _, h, _ => by simp at h
  | x :: xs, 0, _, h, k => by
    cases h
    simp only [narAll, Bool.and_eq_true] at k
    exact k.1
  | x :: xs, i + 1, d, h, k => by
    simp only [narAll, Bool.and_eq_true] at k
    exact nar_get (ds := xs) (i := i) h k.2
def spSame (K : PySem.W.Frag) (n : Nat) : Sp := fun vs H Q _ => ∃ (v v' : V) (d : PyData), vs = [v, v'] ∧ Dp K H v d ∧ Dp K H v' d ∧ d.depth < n ∧ nar d = true ∧ ∀ H', Same H H' → Q (.bl true) H'
theorem dp_two {K : PySem.W.Frag} {H : Hp} {v v' : V} {d : PyData} {n : Nat} (h : Dp K H v d) (h' : Dp K H v' d) (hd : d.depth < n + 1) (hn : nar d = true) :
    (∃ (p p' : Addr) (xs xs' : List V) (ds : List PyData) (bl : Bool) (ty : String), v = .ref p ∧ v' = .ref p' ∧ (SqL K H p xs ∨ SqT K H p xs) ∧ (SqL K H p' xs' ∨ SqT K H p' xs') ∧ DpAll K H xs ds ∧ DpAll K H xs' ds ∧
      TyX K H v (.type ty) ∧ TyX K H v' (.type ty) ∧ kitB ty "list" = some bl ∧ kitB ty "tuple" = some (!bl) ∧ PyData.depthAll ds < n ∧ ds.length ≤ 1000000 ∧ narAll ds = true) ∨ (v = v' ∧ (v = .non ∨ (∃ b, v = .bl b) ∨ (∃ i, v = .int i) ∨ ∃ x, v = .str x)) := by
  have t1 := dp_ty h
  have t2 := dp_ty h'
  cases h with
  | non =>
    cases h'
    exact .inr ⟨rfl, .inl rfl⟩
  | bl b =>
    cases h'
    exact .inr ⟨rfl, .inr (.inl ⟨b, rfl⟩)⟩
  | int b =>
    cases h'
    exact .inr ⟨rfl, .inr (.inr (.inl ⟨b, rfl⟩))⟩
  | str b =>
    cases h'
    exact .inr ⟨rfl, .inr (.inr (.inr ⟨b, rfl⟩))⟩
  | lst h a =>
    cases h' with
    | lst h' a' =>
      simp only [PyData.depth] at hd
      simp only [nar, Bool.and_eq_true, decide_eq_true_eq] at hn
      exact .inl ⟨_, _, _, _, _, true, "list", rfl, rfl, .inl h, .inl h', a, a', t1, t2, by decide +kernel, by decide +kernel, by omega, hn.1, hn.2⟩
  | tup h a =>
    cases h' with
    | tup h' a' =>
      simp only [PyData.depth] at hd
      simp only [nar, Bool.and_eq_true, decide_eq_true_eq] at hn
      exact .inl ⟨_, _, _, _, _, false, "tuple", rfl, rfl, .inr h, .inr h', a, a', t1, t2, by decide +kernel, by decide +kernel, by omega, hn.1, hn.2⟩
theorem seq_same {K : PySem.W.Frag} {H H' : Hp} {p : Addr} {xs : List V} (e : Same H H') (h : SqL K H p xs ∨ SqT K H p xs) : SqL K H' p xs ∨ SqT K H' p xs := h.elim (fun h => .inl (e.seq h)) fun h => .inr (sqT_same e h)
theorem seq_ix {K : PySem.W.Frag} {H : Hp} {p : Addr} {xs : List V} {i : Int} {v : V} {Q : VK} (h : SqL K H p xs ∨ SqT K H p xs) (a : atI xs i = some v) (q : Q v H) : rIx K (.ref p) (.int i) H Q :=
  h.elim (fun h => .inl ⟨p, xs, i, v, rfl, rfl, h, a, q⟩) fun h => .inr (.inl ⟨p, xs, i, v, rfl, rfl, h, a, q⟩)
theorem tyX_same {K : PySem.W.Frag} {H H' : Hp} {v : V} {d : PyData} (e : Same H H') (h : Dp K H v d) : TyX K H' v (.type (tyD d)) := dp_ty (dp_same e h)
section
variable {P : Program} {w : World} {K : PySem.W.Frag} {mg : Str → Option Value} {base : Heap} {f : Addr} {fd : FuncData}
theorem kit_tl {K : PySem.W.Frag} {a : String} {r s : Bool} (h1 : kitB a "list" = some r) (h2 : kitB a "tuple" = some s) : PySem.W.kitAny K (.type a) [.type "tuple", .type "list"] = some (r || s) := by
  refine kitAny_cons (kit_ty h2) (fun e => kitAny_cons (kit_ty h1) (fun e2 => ?_) fun e2 => ?_) fun e => ?_
  · rw [kitAny_nil, e, e2]; rfl
  · rw [e2, Bool.true_or]
  · rw [e, Bool.or_true]
theorem ok_same (F : Fun K "_law_same" "_law_same" s__law_same f fd) (b : Binds K fd ["_law_found", "_law_due"] []) (g : mg "_law_same" = some (.ref f)) (M : Mgs mg) : ∀ n : Nat, FnOk P w K mg base CX0 n f fd ["_law_found", "_law_due"] (spSame K n)
  | 0 => by
    have no : ∀ vs H Q E, ¬ spSame K 0 vs H Q E := fun vs H Q E h => by
      obtain ⟨v, t, d, _, _, _, h1, _, _⟩ := h
      omega
    exact ⟨fun vs H Q E h => absurd h (no vs H Q E), fun A outer s H args us vs Q E _ _ _ _ h => absurd h (no vs H Q E)⟩
  | n + 1 => by
    have Dself : Df P w K mg base n "_law_same" ["_law_found", "_law_due"] (spSame K n) := ⟨f, fd, ok_same F b g M n, b, F.kp, g⟩
    refine F.ok sc__law_same (fun vs H Q E h => ?_) (fun cdv A outer s H vs Q E hr h => ?_)
    · obtain ⟨v, t, d, rfl, _⟩ := h
      rfl
    obtain ⟨v, v', d, rfl, hv, hv', hd, hna, q⟩ := h
    refine ⟨_, (pss_cons (ps_if (pt_val (pe_callB call_isiT rfl M.isinstance (by decide +kernel) (pa_cons (pv 1) (pa_cons (pe_tup (pa_cons (pe_bltn (v := .ty "tuple") rfl M.tuple (by decide +kernel) rfl) (pa_cons (pe_bltn (v := .ty "list") rfl M.list (by decide +kernel) rfl) pa_nil))) pa_nil))))
      (pss_cons (ps_if (pt_cmpR op_ne (pe_callB call_isi rfl M.isinstance (by decide +kernel) (pa_cons (pv 0) (pa_cons (pe_bltn (v := .ty "tuple") rfl M.tuple (by decide +kernel) rfl) pa_nil))) (pe_callB call_isi rfl M.isinstance (by decide +kernel) (pa_cons (pv 1) (pa_cons (pe_bltn (v := .ty "tuple") rfl M.tuple (by decide +kernel) rfl) pa_nil))) (nomark _))
      (pss_one (ps_ret pe_bl)) pss_nil)
    (pss_cons (ps_if (PW.pt (pw_or (pt_cmpR op_ne (pe_callB call_isi rfl M.isinstance (by decide +kernel) (pa_cons (pv 0) (pa_cons (pe_bltn (v := .ty "list") rfl M.list (by decide +kernel) rfl) pa_nil))) (pe_callB call_isi rfl M.isinstance (by decide +kernel) (pa_cons (pv 1) (pa_cons (pe_bltn (v := .ty "list") rfl M.list (by decide +kernel) rfl) pa_nil))) (nomark _)) (pw_or1 (pt_cmpR op_ne (pe_callB call_len_seq rfl M.len PySem.boot_len (pa_cons (pv 0) pa_nil)) (pe_callB call_len_seq rfl M.len PySem.boot_len (pa_cons (pv 1) pa_nil)) (nomark _)))))
      (pss_one (ps_ret pe_bl)) pss_nil)
    (pss_one (ps_ret (pe_cmpR (op_eqD hr.units) (pe_lc (own := [("_law_k", 2)]) (g := gName 2) rfl sc__law_same.nd (pi_range1 rfl M.range (pa_cons (pe_callB call_len_seq rfl M.len PySem.boot_len (pa_cons (pv 1) pa_nil)) pa_nil)) (blkOk_by (N := ["_law_found", "_law_due", "_law_k"]) (sc := defScope s__law_same) (by decide +kernel)) (fun _ _ _ _ _ => (pg_name (i := 2) sc__law_same.nd rfl (.inl rfl))) (fun _ _ _ _ _ => pts_one (pt_not (pt_val (pe_call Dself.ok (hr.mono (by omega)) rfl Dself.g Dself.kp Dself.b .nil pass0 (pa_cons (pe_ix (show IxR _ (rIx K) from ix_seq) (pv 0) (pv 2) (fun _ _ => rfl)) (pa_cons (pe_ix (show IxR _ (rIx K) from ix_seq) (pv 1) (pv 2) (fun _ _ => rfl)) pa_nil)))))) (fun _ _ _ _ _ => (pv 2))) (pe_lst pa_nil) (nomark _)))))) pss_nil)
    (pss_cons (ps_if (pt_val (pe_callB call_isi rfl M.isinstance (by decide +kernel) (pa_cons (pv 1) (pa_cons (pe_bltn (v := .ty "dict") rfl M.dict (by decide +kernel) rfl) pa_nil))))
      (pss_one ps_never) pss_nil)
    (pss_cons (ps_if (pt_cmpR op_isN (pv 1) pe_non (nomark _))
      (pss_one (ps_ret (pe_cmpR op_isN (pv 0) pe_non (nomark _)))) pss_nil)
    (pss_cons (ps_if (pt_val (pe_callB call_isi rfl M.isinstance (by decide +kernel) (pa_cons (pv 1) (pa_cons (pe_bltn (v := .ty "str") rfl M.str (by decide +kernel) rfl) pa_nil))))
      (pss_one (ps_ret (pe_and (pe_callB call_isi rfl M.isinstance (by decide +kernel) (pa_cons (pv 0) (pa_cons (pe_bltn (v := .ty "str") rfl M.str (by decide +kernel) rfl) pa_nil))) (pe_one (pe_cmpR op_eq (pv 0) (pv 1) (nomark _)))))) pss_nil)
    (pss_one (ps_ret (pe_and (pe_callB call_isi rfl M.isinstance (by decide +kernel) (pa_cons (pv 0) (pa_cons (pe_bltn (v := .ty "int") rfl M.int (by decide +kernel) rfl) pa_nil))) (pe_and (pe_cmpR op_eq (pe_callB call_isi rfl M.isinstance (by decide +kernel) (pa_cons (pv 0) (pa_cons (pe_bltn (v := .ty "bool") rfl M.bool (by decide +kernel) rfl) pa_nil))) (pe_callB call_isi rfl M.isinstance (by decide +kernel) (pa_cons (pv 1) (pa_cons (pe_bltn (v := .ty "bool") rfl M.bool (by decide +kernel) rfl) pa_nil))) (nomark _)) (pe_one (pe_cmpR op_eq (pv 0) (pv 1) (nomark _))))))))))), ?_⟩
    refine ⟨v', rfl, (by show 2 ≤ sizeLine; decide), fun tp np => ?_⟩
    have s1 := same_new np (.tup [.ty "tuple", .ty "list"])
    have hw := dp_same s1 hv
    have hw' := dp_same s1 hv'
    have pr : Paired ClsV [V.ty "tuple", V.ty "list"] [Value.type "tuple", Value.type "list"] := .cons (.ty _) (.cons (.ty _) .nil)
    rcases dp_two hw hw' hd hna with ⟨p, p', xs, xs', ds, bl, ty, rfl, rfl, hq, hq', ha, ha', ht, ht', k1, k2, hdd, hwl, hwn⟩ | ⟨rfl, hk⟩
    · have ka : PySem.W.kitAny K (.type ty) [.type "tuple", .type "list"] = some true := by
        rw [kit_tl k1 k2]
        cases bl <;> rfl
      have hl := dpAll_len ha
      have hl' := dpAll_len ha'
      refine ⟨_, tp, _, _, _, true, rfl, upd_same, pr, ht', ka, _, rfl, iteT ?_⟩
      refine ⟨_, rfl, _, _, _, _, !bl, rfl, .ty _, ht, kit_ty k2, _, rfl, _, _, _, _, !bl, rfl, .ty _, ht', kit_ty k2, by cases bl <;> rfl, _, rfl, iteNS rfl ?_⟩
      refine ⟨_, rfl, _, _, _, _, bl, rfl, .ty _, ht, kit_ty k1, _, rfl, _, _, _, _, bl, rfl, .ty _, ht', kit_ty k1, by cases bl <;> rfl, _, rfl, iteNS rfl ?_⟩
      refine ⟨_, rfl, p, xs, rfl, hq, _, rfl, p', xs', rfl, hq', rfl, _, rfl, iteNS (by rw [hl, hl']) ?_⟩
      refine ⟨_, rfl, p', xs', rfl, hq', _, rfl, ?_, ?_, fun D nD => ?_⟩
      · omega
      · omega
      have s2 := same_new nD (.lst [])
      rw [Int.toNat_natCast]
      refine lc_range (lo := 0) (n := xs'.length) (fun i H' => Same (upd H tp (.tup [.ty "tuple", .ty "list"])) H' ∧ H' D = some (.lst [])) ⟨s2, upd_same⟩ (fun i H' hi hp => ?_) (fun H' hp => ?_)
      · obtain ⟨sm, eD⟩ := hp
        obtain ⟨di, edi⟩ : ∃ di, ds[i]? = some di := ⟨_, List.getElem?_eq_getElem (by omega)⟩
        obtain ⟨x, ex, hx⟩ := dpAll_get ha edi
        obtain ⟨x', ex', hx'⟩ := dpAll_get ha' edi
        have hdi := depth_get edi
        have e0 : (0 : Int) + (i : Int) = ((i : Nat) : Int) := by omega
        rw [e0]
        refine ⟨rfl, ?_⟩
        refine ⟨_, rfl, _, rfl, seq_ix (seq_same sm hq) (atI_nat ex) ⟨_, rfl, _, rfl, seq_ix (seq_same sm hq') (atI_nat ex') ⟨x, x', di, rfl, dp_same sm hx, dp_same sm hx', by omega, nar_get edi hwn, fun H'' s'' => ?_⟩⟩⟩
        exact ⟨_, rfl, iteF ⟨sm.trans s'', s'' _ _ eD⟩⟩
      · obtain ⟨sm, eD⟩ := hp
        refine ⟨(by show 0 ≤ sizeLine; decide), fun e ne => ?_⟩
        refine ⟨.list [], .list [], .lst (SqL.of ((same_new ne _) _ _ eD)) .nil, .lst (SqL.of upd_same) .nil, rfl, rfl, ?_⟩
        exact q _ (s1.trans (sm.trans (same_new ne _)))
    · have fin := q _ s1
      rcases hk with rfl | ⟨c, rfl⟩ | ⟨c, rfl⟩ | ⟨c, rfl⟩
      · refine ⟨_, tp, _, _, _, false, rfl, upd_same, pr, .base .non, kit_tl (r := false) (s := false) (by decide +kernel) (by decide +kernel), _, rfl, iteF ?_⟩
        refine ⟨_, rfl, _, _, _, _, false, rfl, .ty _, .base .non, kit_ty (by decide +kernel), _, rfl, iteF ?_⟩
        refine ⟨_, rfl, rfl, _, rfl, iteT ?_⟩
        exact ⟨_, rfl, rfl, fin⟩
      · refine ⟨_, tp, _, _, _, false, rfl, upd_same, pr, .base (.bl c), kit_tl (r := false) (s := false) (by decide +kernel) (by decide +kernel), _, rfl, iteF ?_⟩
        refine ⟨_, rfl, _, _, _, _, false, rfl, .ty _, .base (.bl c), kit_ty (by decide +kernel), _, rfl, iteF ?_⟩
        refine ⟨_, rfl, rfl, _, rfl, iteF ?_⟩
        refine ⟨_, rfl, _, _, _, _, false, rfl, .ty _, .base (.bl c), kit_ty (by decide +kernel), _, rfl, iteF ?_⟩
        refine ⟨_, rfl, _, _, _, _, true, rfl, .ty _, .base (.bl c), kit_ty (by decide +kernel), _, rfl, iteT ?_⟩
        refine ⟨_, rfl, _, _, _, _, true, rfl, .ty _, .base (.bl c), kit_ty (by decide +kernel), _, rfl, _, _, _, _, true, rfl, .ty _, .base (.bl c), kit_ty (by decide +kernel), rfl, _, rfl, iteT ?_⟩
        refine ⟨_, rfl, _, rfl, by cases c <;> rfl, ?_⟩
        rw [decide_eq_true rfl]
        exact fin
      · refine ⟨_, tp, _, _, _, false, rfl, upd_same, pr, .base (.int c), kit_tl (r := false) (s := false) (by decide +kernel) (by decide +kernel), _, rfl, iteF ?_⟩
        refine ⟨_, rfl, _, _, _, _, false, rfl, .ty _, .base (.int c), kit_ty (by decide +kernel), _, rfl, iteF ?_⟩
        refine ⟨_, rfl, rfl, _, rfl, iteF ?_⟩
        refine ⟨_, rfl, _, _, _, _, false, rfl, .ty _, .base (.int c), kit_ty (by decide +kernel), _, rfl, iteF ?_⟩
        refine ⟨_, rfl, _, _, _, _, true, rfl, .ty _, .base (.int c), kit_ty (by decide +kernel), _, rfl, iteT ?_⟩
        refine ⟨_, rfl, _, _, _, _, false, rfl, .ty _, .base (.int c), kit_ty (by decide +kernel), _, rfl, _, _, _, _, false, rfl, .ty _, .base (.int c), kit_ty (by decide +kernel), rfl, _, rfl, iteT ?_⟩
        refine ⟨_, rfl, _, rfl, rfl, ?_⟩
        rw [decide_eq_true rfl]
        exact fin
      · refine ⟨_, tp, _, _, _, false, rfl, upd_same, pr, .base (.str c), kit_tl (r := false) (s := false) (by decide +kernel) (by decide +kernel), _, rfl, iteF ?_⟩
        refine ⟨_, rfl, _, _, _, _, false, rfl, .ty _, .base (.str c), kit_ty (by decide +kernel), _, rfl, iteF ?_⟩
        refine ⟨_, rfl, rfl, _, rfl, iteF ?_⟩
        refine ⟨_, rfl, _, _, _, _, true, rfl, .ty _, .base (.str c), kit_ty (by decide +kernel), _, rfl, iteT ?_⟩
        refine ⟨_, rfl, _, _, _, _, true, rfl, .ty _, .base (.str c), kit_ty (by decide +kernel), _, rfl, iteT ?_⟩
        refine ⟨_, rfl, _, rfl, rfl, ?_⟩
        rw [decide_eq_true rfl]
        exact fin
end
/-! ### a def entered at one caller -/
theorem enter_def {P : Program} {w : World} {K : PySem.W.Frag} {mg : Str → Option Value} {base : Heap} {f : Addr} {fd : FuncData} {N ps : List Str} {k : Nat} {x qual : Str} {st : Stmt} (F : Fun K x qual st f fd) (S : FnScope N ps (defScope st))
    {A : Around} {outer : List Env} {s : Shared} {H : Hp} {args : Args} {us : List Value} {vs : List V} {Q : VK} {E : XK}
    (room : Room (k + 1) A) (en : Env0 P w K mg base A outer s H) (bd : BindsTo s fd args (ps.zip us)) (rel : Vals vs us) (hln : vs.length = ps.length)
    (body : ∀ cdv : Value, Room k (A.deeper (envOfC qual (defScope st) s.heap.objs.size f cdv)) →
      ∃ t, PSs (cxOf CX0 P w K mg base N qual (defScope st) f cdv A outer s H E).nox (defBody st) t ∧ t { nx := fun _ H' => Q .non H', rt := Q } (start N vs) H) :
    codeAny (model P w) A (.call (.ref f) args) (CR CX0 outer P w H s Q E) s := by
  obtain ⟨oc, od, kV, doc, pm, an, cdv, ct, osl, rfl, look, code⟩ := F.ex
  have still : ∀ b o, base.get? b = some o → s.heap.get? b = some o := fun b o e => (en.bs b o e).1
  have inK : K.In s.heap := en.mod.kin.keeps still
  have noL : s.heap.NoLimit := en.mod.nolimit.keeps still
  have kinds : ∀ y ∈ ps.zip us, (defScope st).names.lookup y.1 = some .local ∨
      ((defScope st).names.lookup y.1 = some .cell ∧ ((cellsFrom (s.heap.objs.size + 1) (defScope st).names []).lookup y.1).isSome = true) := by
    rintro ⟨nm, u⟩ hy
    cases S.par nm (List.of_mem_zip hy).1 with
    | inl z => exact .inl z
    | inr z => exact .inr ⟨z, PySem.W.cellsFrom_some _ _ _ (.inl z)⟩
  have step := codeAny_call_function (prog := P) (w := w) (A := A) (s := s) room.depth (inK _ _ look) rfl S.co S.gen rfl (PySem.W.codeRec_of inK code)
    (R := CR CX0 outer P w H s Q E) (args := args)
  refine step (bd _ _ _ _ ?_)
  refine wpAny_newFunctionEnv_cells S.kind kinds ?_
  intro env isEnv s1 inC
  subst isEnv
  refine ⟨noL.keeps inC.toInCall.keep, codeAny_func ?_⟩
  obtain ⟨t, ht, hq⟩ := body cdv (room.deeper _)
  have J : Inv (cxOf CX0 P w K mg base N qual (defScope st) f cdv A outer s H E) [] (start N vs) H s1 := inv_start S room.hd en hln rel inC
  refine wpAny_mono (ht.nox.run [] s1 (start N vs) H _ J hq) ?_ ?_
  · intro fl s' done
    cases fl with
    | ret u =>
      obtain ⟨v, σ', H', I', rv, qv⟩ := done
      exact ⟨v, H', I'.os, I'.bare, I'.base, I'.hok, rv, qv⟩
    | next =>
      obtain ⟨σ', H', I', qv⟩ := done
      exact ⟨V.non, H', I'.os, I'.bare, I'.base, I'.hok, rfl, qv⟩
    | brk => exact done.elim fun _ z => z.elim fun _ z => z.2.elim
    | cont => exact done.elim fun _ z => z.elim fun _ z => z.2.elim
  · intro e s' z
    exact z
/-! ### the law's own call -/
theorem law_at {P : Program} {w : World} {K : PySem.W.Frag} {mg mb : Str → Option Value} {fa a : Addr} {s₁ : Shared} {vs : List Value} {ns : List Int}
    (inK : K.In s₁.heap) (gl : s₁.heap.Ns mainGlobals mg) (bl : s₁.heap.Ns builtinsNs mb) (isB : ∀ x : Str, x ≠ "__name__" → mb x = bootBuiltins x) (lim : s₁.heap.NoLimit) (gens : s₁.gens = #[])
    (obj : s₁.heap.get? a = some { cls := .type "list", data := .seq vs.toArray }) (hints : IntsAre vs ns) (few : ns.length ≤ sizeLine)
    (run : ∀ (base : Heap) (H : Hp), K.In base → base.Ns mainGlobals mg → Env0 P w K mg base callerA [] s₁ H → SqL K H a (ns.map V.int) →
      codeAny (model P w) callerA (.call (.ref fa) ⟨[.ref a], []⟩) (CR CX0 [] P w H s₁ (fun v _ => v = .bl true) fun _ _ _ => False) s₁) :
    codeAny (model P w) callerA (.call (.ref fa) ⟨[.ref a], []⟩) (fun r s' => r = .ok (.ret (.bool true)) ∧ OldK s₁.heap s'.heap ∧ s'.os = s₁.os ∧ AllBare s'.gens) s₁ := by
  have rel := vals_ints hints
  have lens := hints.length
  have found : ∃ H : Hp, Only H ∧ SqL K H a (ns.map V.int) ∧ HOk P w H s₁.heap ∧ (∀ b u, H b = some u → b = a ∧ K.lookup a = none) := by
    cases inText : K.lookup a with
    | some o =>
      have same := inK a o inText
      rw [obj] at same
      cases same
      have never : ∀ (u : HO), (none : Option HO) ≠ some u := fun u z => by cases z
      refine ⟨fun _ => none, fun _ => .inl rfl, ?_, (fun b u z => (never u z).elim), (fun b u z => (never u z).elim)⟩
      refine .inr ⟨_, vs.toArray, _, inText, rfl, rfl, rfl, ?_, ?_⟩
      · rw [List.size_toArray, lens]
        exact few
      · rw [List.toList_toArray]
        exact rel
    | none =>
      let here : HO := .frz { cls := .type "list", data := .seq vs.toArray } (.lst (ns.map V.int))
      have only : ∀ b u, (if b = a then some here else none) = some u → b = a ∧ u = here := fun b u z => by
        by_cases hb : b = a
        · rw [if_pos hb] at z
          exact ⟨hb, (Option.some.inj z).symm⟩
        · rw [if_neg hb] at z
          cases z
      refine ⟨fun b => if b = a then some here else none, fun b => ?_, .inl (.inr ⟨{ cls := .type "list", data := .seq vs.toArray }, if_pos rfl⟩), fun b u z => ?_, fun b u z => ⟨(only b u z).1, rfl⟩⟩
      · by_cases hb : b = a
        · exact .inr ⟨_, _, if_pos hb⟩
        · exact .inl (if_neg hb)
      · obtain ⟨rfl, rfl⟩ := only b u z
        exact ⟨obj, by rw [List.length_map]; exact few, vs, _, rel, obj⟩
  obtain ⟨H, hO, hS, hok, hA⟩ := found
  have under : ∀ {b : Addr} {o : Obj}, s₁.heap.get? b = some o → H b = none → (hidT s₁.heap H).get? b = some o := fun e z => hidT_get e z
  have notDict : ∀ {b : Addr} {o : Obj} {es : Array DictEntry} {ep : Nat}, s₁.heap.get? b = some o → o.data = .dict es ep → H b = none := by
    intro b o es ep e isD
    cases z : H b with
    | none => rfl
    | some u =>
      obtain ⟨rfl, _⟩ := hA b u z
      rw [obj] at e
      cases e
      cases isD
  have ns' : ∀ {b : Addr} {m : Str → Option Value}, s₁.heap.Ns b m → (hidT s₁.heap H).Ns b m := by
    rintro b m ⟨o, es, ep, e, isD, r⟩
    exact ⟨o, es, ep, under e (notDict e isD), isD, r⟩
  have inK' : K.In (hidT s₁.heap H) := by
    intro b o e
    refine under (inK b o e) ?_
    cases z : H b with
    | none => rfl
    | some u =>
      obtain ⟨rfl, no⟩ := hA b u z
      rw [no] at e
      cases e
  obtain ⟨mc, l1, l2⟩ := lim
  have env : Env0 P w K mg (hidT s₁.heap H) callerA [] s₁ H :=
    ⟨rfl, ⟨inK', ns' gl, ⟨mb, ns' bl, isB⟩, ⟨mc, ns' l1, l2⟩⟩, fun _ _ e => of_hidT e, Nat.le_of_eq (hidT_size _ _), trivial, (fun _ hb => nomatch hb), hok, .of_eq gens⟩
  refine codeAny_mono (run _ H inK' (ns' gl) env hS) ?_
  intro r s' h
  cases r with
  | error e => exact h.elim
  | ok fl =>
    cases fl with
    | next => exact h.elim
    | brk => exact h.elim
    | cont => exact h.elim
    | ret u =>
      obtain ⟨v, H', os, bare, un, hok', rv, isT⟩ := h
      subst isT
      cases rv
      refine ⟨rfl, OldK.of_keep ?_, os, bare⟩
      intro b o e
      cases z : H b with
      | none => exact un.keep b o e z (fun y => nomatch y) (fun y => nomatch y)
      | some u =>
        rcases hO b with y | ⟨ob, xs, y⟩
        · rw [z] at y
          cases y
        · have y2 := un.frzs b ob _ y
          obtain ⟨e1, _⟩ := hok b _ y
          obtain ⟨e2, _⟩ := hok' b _ y2
          rw [e] at e1
          cases e1
          exact e2
/-! ### search trees -/
def Bst : B → Prop
  | .nil => True
  | .node l x r => (∀ c ∈ l.pre, c < x) ∧ (∀ c ∈ r.pre, x < c) ∧ Bst l ∧ Bst r
theorem Bst.ins {t : B} {c : Nat} (h : Bst t) (hc : c ∉ t.pre) : Bst (t.ins c) := by
  induction t with
  | nil => exact ⟨fun _ z => (by cases z), fun _ z => (by cases z), trivial, trivial⟩
  | node l x r h1 h2 =>
    obtain ⟨hl, hr, bl, br⟩ := h
    have nx : c ≠ x := fun z => hc (by rw [z]; exact List.mem_cons_self)
    have nl : c ∉ l.pre := fun z => hc (List.mem_cons_of_mem _ (List.mem_append_left _ z))
    have nr : c ∉ r.pre := fun z => hc (List.mem_cons_of_mem _ (List.mem_append_right _ z))
    show Bst (if c < x then B.node (l.ins c) x r else .node l x (r.ins c))
    split
    · rename_i lt
      refine ⟨fun d hd => ?_, hr, h1 bl nl, br⟩
      rcases (B.ins_mem l c d).mp hd with rfl | hd
      · exact lt
      · exact hl d hd
    · rename_i ge
      refine ⟨hl, fun d hd => ?_, bl, h2 br nr⟩
      rcases (B.ins_mem r c d).mp hd with rfl | hd
      · omega
      · exact hr d hd
theorem bst_foldl (zs : List Nat) : ∀ t : B, Bst t → zs.Nodup → (∀ c ∈ zs, c ∉ t.pre) → Bst (zs.foldl B.ins t) := by
  induction zs with
  | nil => intro t h _ _; exact h
  | cons c r ih =>
    intro t h nd hn
    rw [List.foldl_cons]
    obtain ⟨n1, n2⟩ := List.nodup_cons.mp nd
    refine ih _ (h.ins (hn c List.mem_cons_self)) n2 fun d hd hm => ?_
    rcases (B.ins_mem t c d).mp hm with rfl | hm
    · exact n1 hd
    · exact hn d (List.mem_cons_of_mem _ hd) hm
theorem bst_gr {zs : List Nat} (h : zs.Nodup) : Bst (gr zs) := bst_foldl zs .nil trivial h fun _ _ z => by cases z
theorem foldl_left (as : List Nat) (x : Nat) (r : B) (h : ∀ c ∈ as, c < x) : ∀ l : B, as.foldl B.ins (.node l x r) = .node (as.foldl B.ins l) x r := by
  induction as with
  | nil => intro l; rfl
  | cons c s ih =>
    intro l
    rw [List.foldl_cons, List.foldl_cons]
    have e : (B.node l x r).ins c = .node (l.ins c) x r := by
      show (if c < x then B.node (l.ins c) x r else .node l x (r.ins c)) = _
      rw [if_pos (h c List.mem_cons_self)]
    rw [e]
    exact ih (fun d hd => h d (List.mem_cons_of_mem _ hd)) _
theorem foldl_right (as : List Nat) (x : Nat) (l : B) (h : ∀ c ∈ as, x < c) : ∀ r : B, as.foldl B.ins (.node l x r) = .node l x (as.foldl B.ins r) := by
  induction as with
  | nil => intro r; rfl
  | cons c s ih =>
    intro r
    rw [List.foldl_cons, List.foldl_cons]
    have e : (B.node l x r).ins c = .node l x (r.ins c) := by
      show (if c < x then B.node (l.ins c) x r else .node l x (r.ins c)) = _
      rw [if_neg (by have := h c List.mem_cons_self; omega)]
    rw [e]
    exact ih (fun d hd => h d (List.mem_cons_of_mem _ hd)) _
theorem gr_pre {t : B} (h : Bst t) : gr t.pre = t := by
  induction t with
  | nil => rfl
  | node l x r h1 h2 =>
    obtain ⟨hl, hr, bl, br⟩ := h
    show (x :: (l.pre ++ r.pre)).foldl B.ins .nil = _
    rw [List.foldl_cons, List.foldl_append]
    show r.pre.foldl B.ins (l.pre.foldl B.ins (.node .nil x .nil)) = _
    rw [foldl_left _ _ _ hl, foldl_right _ _ _ hr]
    have e1 := h1 bl
    have e2 := h2 br
    unfold gr at e1 e2
    rw [e1, e2]
theorem B.ins_perm (t : B) (c : Nat) : (t.ins c).pre.Perm (c :: t.pre) := by
  induction t with
  | nil => exact List.Perm.refl _
  | node l x r h1 h2 =>
    show (if c < x then B.node (l.ins c) x r else .node l x (r.ins c)).pre.Perm _
    split
    · show (x :: ((l.ins c).pre ++ r.pre)).Perm (c :: x :: (l.pre ++ r.pre))
      exact ((h1.append_right r.pre).cons x).trans (List.Perm.swap _ _ _)
    · show (x :: (l.pre ++ (r.ins c).pre)).Perm (c :: x :: (l.pre ++ r.pre))
      exact (((h2.append_left l.pre).trans List.perm_middle).cons x).trans (List.Perm.swap _ _ _)
theorem foldl_ins_perm (zs : List Nat) : ∀ t : B, (zs.foldl B.ins t).pre.Perm (zs ++ t.pre) := by
  induction zs with
  | nil => intro t; exact List.Perm.refl _
  | cons c r ih =>
    intro t
    rw [List.foldl_cons]
    exact (ih _).trans (((B.ins_perm t c).append_left r).trans List.perm_middle)
theorem gr_perm (zs : List Nat) : (gr zs).pre.Perm zs := by
  have := foldl_ins_perm zs .nil
  rw [show B.nil.pre = [] from rfl, List.append_nil] at this
  exact this
theorem B.nar_data : ∀ t : B, nar t.data = true
  | .nil => by simp only [B.data, nar]
  | .node l x r => by
    simp only [B.data, nar, narAll, l.nar_data, r.nar_data, Bool.and_self, Bool.and_true, List.length_cons, List.length_nil]
    exact decide_eq_true (by omega)
theorem B.data_depth : ∀ t : B, t.data.depth = t.deep
  | .nil => by simp only [B.data, PyData.depth, B.deep]
  | .node l x r => by
    simp only [B.data, PyData.depth, PyData.depthAll, B.deep, l.data_depth, r.data_depth]
    omega
/-! ### comprehensions of several clauses, clause by clause -/
def thenPut (elt : Expr) (acc : Value) (env : Env) (k : Sem PySem.Fin) : Sem PySem.Fin := (do let _ ← call (.builtin "list.append") [acc, ← eval elt env]) >>= fun _ => k
def thenIn (e src : Expr) (d : Nat) (acc : Value) (env : Env) (k : Sem PySem.Fin) : Sem PySem.Fin := do
  let z ← eval src env
  standAt src.pos
  let z ← foldedSetIterable src env z
  let _ ← runOwn (.compStart e d (← holding [z] (pyIter z)) acc env) env
  k
def turnBy (e tg src : Expr) (ifs : List Expr) (d : Nat) (it acc : Value) (env : Env) (b : Sem PySem.Fin → Sem PySem.Fin) : Sem PySem.Fin :=
  standAt src.pos >>= fun _ => pyNext it >>= fun r => match r with
    | none => pure (.done .next)
    | some v => letOwnedTupleGo tg it v >>= fun _ => assign tg env v >>= fun _ =>
      (forIn ifs true fun q r => if r = true then do let g ← isTrue q env (eval q env); pure (ForInStep.yield g) else pure (ForInStep.yield r)) >>= fun g =>
        if g = true then b (again (.compLoop e d it acc env)) else again (.compLoop e d it acc env)
theorem turn_put {elt : Expr} {cs : List Comprehension} {sc : Scope} {ps : Pos} {d : Nat} {it acc : Value} {env : Env} {tg src : Expr} {ifs : List Expr} (h : cs[d]? = some ⟨tg, src, ifs, 0⟩) (h1 : cs[d + 1]? = none) :
    compTurn (.ListComp elt cs sc ps) d it acc env = turnBy (.ListComp elt cs sc ps) tg src ifs d it acc env (thenPut elt acc env) := by
  unfold compTurn
  simp only [h, h1]
  rfl
theorem turn_in {elt : Expr} {cs : List Comprehension} {sc : Scope} {ps : Pos} {d : Nat} {it acc : Value} {env : Env} {tg src tg1 src1 : Expr} {ifs ifs1 : List Expr} (h : cs[d]? = some ⟨tg, src, ifs, 0⟩) (h1 : cs[d + 1]? = some ⟨tg1, src1, ifs1, 0⟩) :
    compTurn (.ListComp elt cs sc ps) d it acc env = turnBy (.ListComp elt cs sc ps) tg src ifs d it acc env (thenIn (.ListComp elt cs sc ps) src1 (d + 1) acc env) := by
  unfold compTurn
  simp only [h, h1]
  rfl
/-- what follows a clause's tests: from the slots and the heap; behind it the slots vs are forgotten -/
abbrev TB := L2.St → Hp → (Hp → Prop) → Prop
structure PB (Y : Cx) (b : Sem PySem.Fin → Sem PySem.Fin) (vs : List Nat) (t : TB) : Prop where
  run : ∀ (pins : List (Addr × Obj)) (s : Shared) (σ : L2.St) (H : Hp) (Q : Hp → Prop) (k : Sem PySem.Fin) (R : PySem.Fin → Shared → Prop) (E : Value → Shared → Prop), Inv Y pins σ H s → t σ H Q →
    (∀ s' H', Inv Y pins (wipe σ vs) H' s' → Q H' → wpAny (model Y.prog Y.w) Y.A k R E s') → wpAny (model Y.prog Y.w) Y.A (b k) R E s
theorem noE {α : Type} {t : Sem α} {Q Q' : α → Shared → Prop} {M : Model} {A : Around} {E E' : Value → Shared → Prop} {s : Shared} (h : wpAny M A t Q E s) (hE : E = fun _ _ => False) (hQ : ∀ a s, Q a s → Q' a s) : wpAny M A t Q' E' s := by
  subst hE
  exact wpAny_mono h hQ fun _ _ z => z.elim
def tPut (te : TE) (D : Addr) : TB := fun σ H Q => te σ H fun y H' => ∃ acc, H' D = some (.lst acc) ∧ acc.length < sizeLine ∧ Q (upd H' D (.lst (acc ++ [y])))
theorem pb_put {Y : Cx} (hx : Y.xe = fun _ _ => False) {elt : Expr} {te : TE} {D : Addr} (he : PE Y elt te) : PB Y (thenPut elt (.ref D) Y.env) [] (tPut te D) := by
  refine ⟨fun pins s σ H Q k R E I h hk => ?_⟩
  unfold thenPut
  refine wpAny_bind (wpAny_bind (noE (he.run pins s σ H _ I h) hx fun u s1 h1 => ?_))
  obtain ⟨y, H1, I1, r1, acc, e1, z1, q1⟩ := h1
  exact wpAny_bind (app_ok I1 e1 z1 r1 fun s2 I2 => wpAny_pure (hk s2 _ I2 q1))
/-- the loop of a clause: W as in a comprehension of one clause -/
def tLev (J : It) (g : TG) (tt : TT) (t : TB) (ws : List Nat) (σ : L2.St) (H : Hp) (Q : Hp → Prop) : Prop := ∃ W : Nat → Nat → Hp → Prop, (∃ m, W 0 m H) ∧ ∀ i m H, W i m H →
  (J.stop i H ∧ Q H) ∨ (J.go i H ∧ ∃ Nx : Hp → Prop, (∀ H', Nx H' → ∃ m', m' < m ∧ W (i + 1) m' H') ∧ ∀ x H', J.yld i H x H' → g x (wipe σ ws) H' fun σ2 H2 => wipe σ2 ws = wipe σ ws ∧ tt σ2 H2 fun b H3 => if b = true then t σ2 H3 Nx else Nx H3)
theorem lev_loop {Y : Cx} (hx : Y.xe = fun _ _ => False) (hc : Y.calm = true) {elt : Expr} {cs : List Comprehension} {sc : Scope} {ps : Pos} {d : Nat} {it D : Addr} {tg src : Expr} {ifs : List Expr} {b : Sem PySem.Fin → Sem PySem.Fin} {J : It} {fp : List Addr} {tn : Nat → Heap → Prop}
    {pins : List (Addr × Obj)} {σ : L2.St} {H : Hp} {Q : Hp → Prop} {g : TG} {tt : TT} {t : TB} {vs ws : List Nat} {s : Shared} {R : Result → Shared → Prop}
    (ht : ∀ it, compTurn (.ListComp elt cs sc ps) d it (.ref D) Y.env = turnBy (.ListComp elt cs sc ps) tg src ifs d it (.ref D) Y.env b)
    (T : Turn Y.prog Y.w Y.K tg J fp it tn) (hg : PG Y tg g) (hts : PTs Y ifs tt) (hb : PB Y b vs t) (hv : ∀ i ∈ vs, i ∈ ws)
    (I : Inv Y pins (wipe σ ws) H s) (st : tn 0 s.heap) (hf : ∀ b ∈ fp, FpOk Y pins H b) (h : tLev J g tt t ws σ H Q)
    (hR : ∀ s' H', Inv Y pins (wipe σ ws) H' s' → Q H' → R (.ok .next) s') :
    codeAny (model Y.prog Y.w) Y.A (.compLoop (.ListComp elt cs sc ps) d (.ref it) (.ref D) Y.env) R s := by
  obtain ⟨W, ⟨m0, w0⟩, turn⟩ := h
  have stat : ∀ {H' : Hp}, (∀ b ∈ fp, H' b = none) → ∀ b ∈ fp, FpOk Y pins H' b := fun hn b hb => ⟨hn b hb, (hf b hb).2⟩
  refine codeAny_loop rfl (fun n s' => ∃ i H', Inv Y pins (wipe σ ws) H' s' ∧ tn i s'.heap ∧ (∀ b ∈ fp, H' b = none) ∧ W i n H') (fun n s1 h1 => ?_) m0 ⟨0, H, I, st, fun b hb => (hf b hb).1, w0⟩
  obtain ⟨i, H1, I1, st1, n1, w1⟩ := h1
  show wpAny _ Y.A ((compTurn (.ListComp elt cs sc ps) d (.ref it) (.ref D) Y.env).onRaise (fun x => do noteFrame x Y.env; theTreesLotGoes x)) _ _ s1
  refine wpAny_noted ?_
  rw [ht]
  unfold turnBy
  refine wpAny_bind (wpAny_standAt ?_)
  rcases turn i n H1 w1 with ⟨stop, q1⟩ | ⟨go, Nx, hNx, step⟩
  · refine wpAny_bind (noE (T.done Y rfl rfl rfl hc i pins s1 _ H1 (fun _ _ => False) I1 (stat n1) st1 stop) rfl fun r s2 h2 => ?_)
    obtain ⟨hr, I2⟩ := h2
    subst hr
    exact wpAny_pure (hR s2 H1 I2 q1)
  · refine wpAny_bind (noE (T.item Y rfl rfl rfl hc i pins s1 _ H1 (fun _ _ => False) I1 (stat n1) st1 go) rfl fun r s2 h2 => ?_)
    obtain ⟨u, hr, h2⟩ := h2
    subst hr
    refine wpAny_bind (noE h2 rfl fun _ s3 h3 => ?_)
    obtain ⟨x, H3, I3, r3, y3, st3, n3⟩ := h3
    have I3' := I3.pinned (stat n3) (T.obj _ _ st3)
    refine wpAny_bind (noE (hg.run _ s3 _ H3 x u _ I3' r3 (step x H3 y3)) hx fun _ s4 h4 => ?_)
    obtain ⟨σ4, H4, I4, hw4, q4⟩ := h4
    refine wpAny_bind (noE (hts.run _ s4 σ4 H4 _ I4 q4) hx fun c s5 h5 => ?_)
    obtain ⟨H5, I5, q5⟩ := h5
    have fin : ∀ {σ' : L2.St} {s' : Shared} {H' : Hp}, Inv Y (pins ++ pinsAt fp s3.heap) σ' H' s' → σ'.length = (wipe σ ws).length → (∀ (j : Nat) v, (wipe σ ws)[j]? = some (some v) → σ'[j]? = some (some v)) → Nx H' →
        ∃ m, m < n ∧ ∃ i H', Inv Y pins (wipe σ ws) H' s' ∧ tn i s'.heap ∧ (∀ b ∈ fp, H' b = none) ∧ W i m H' := fun {σ' s' H'} I' hl hk nx => by
      obtain ⟨m', hm, w'⟩ := hNx H' nx
      have pin' : ∀ b ∈ fp, ∀ o, s3.heap.get? b = some o → s'.heap.get? b = some o ∧ H' b = none := fun b hb o e =>
        have z := I'.pin (b, o) (List.mem_append_right _ (List.mem_append_right _ (mem_pinsAt hb e)))
        ⟨z.1, z.2.1⟩
      refine ⟨m', hm, i + 1, H', I'.unpinned.weak hl.symm hk, T.keep _ _ _ st3 fun b hb o e => (pin' b hb o e).1, fun b hb => ?_, w'⟩
      obtain ⟨o, e, _⟩ := T.obj _ _ st3 b hb
      exact (pin' b hb o e).2
    have hl4 : σ4.length = (wipe σ ws).length := by rw [← hw4, wipe_length]
    have hk4 : ∀ (j : Nat) v, (wipe σ ws)[j]? = some (some v) → σ4[j]? = some (some v) := fun j v e => by
      rw [← hw4] at e
      exact (wipe_some e).1
    have hk5 : ∀ (j : Nat) v, (wipe σ ws)[j]? = some (some v) → (wipe σ4 vs)[j]? = some (some v) := fun j v e => by
      rw [← hw4] at e
      obtain ⟨e1, e2⟩ := wipe_some e
      rw [wipe_out fun z => e2 (hv j z)]
      exact e1
    cases c with
    | false =>
      rw [if_neg Bool.false_ne_true] at q5 ⊢
      exact wpAny_pure ⟨rfl, fin I5 hl4 hk4 q5⟩
    | true =>
      rw [if_pos rfl] at q5 ⊢
      exact hb.run _ s5 σ4 H5 _ _ _ _ I5 q5 fun s6 H6 I6 q6 => wpAny_pure ⟨rfl, fin I6 (by rw [wipe_length]; exact hl4) hk5 q6⟩
theorem start_at {prog : Program} {w : World} {A : Around} {R : Result → Shared → Prop} {s : Shared} {elt : Expr} {cs : List Comprehension} {sc : Scope} {ps : Pos} {d : Nat} {it acc : Value} {env : Env} {tg src : Expr} {ifs : List Expr} (hd : cs[d]? = some ⟨tg, src, ifs, 0⟩)
    (h0 : codeAny (model prog w) A (.compLoop (.ListComp elt cs sc ps) d it acc env) R s)
    (h : wpAny (model prog w) A (pyIter it) (fun it' s' => codeAny (model prog w) A (.compLoop (.ListComp elt cs sc ps) d it' acc env) R s') (notedBy (model prog w) A env fun x s' => R (.error x) s') s) :
    codeAny (model prog w) A (.compStart (.ListComp elt cs sc ps) d it acc env) R s := by
  refine codeAny_of_tree ?_
  show wpAny _ _ ((compStart (.ListComp elt cs sc ps) d it acc env).onRaise (fun x => do noteFrame x env; standAt theWindowsPlace)) _ _ s
  refine wpAny_notedAt ?_
  have hcl : (clausesOf (.ListComp elt cs sc ps))[d]? = some ⟨tg, src, ifs, 0⟩ := hd
  unfold compStart
  simp only [hcl]
  show wpAny _ _ (ask >>= _) _ _ s
  refine wpAny_bind (wpAny_askSetting (wpAny_ite ?_))
  split
  · first
      | exact wpAny_pure ⟨rfl, h0⟩
      | exact wpAny_bind (wpAny_pure (wpAny_pure ⟨rfl, h0⟩))
  · first
      | exact wpAny_bind (wpAny_rule (wpAny_bind (wpAny_standAt (wpAny_bind (wpAny_mono h (fun i2 s2 h2 => wpAny_pure ⟨rfl, h2⟩) fun _ _ z => z)))))
      | (refine wpAny_bind (wpAny_rule ?_); show wpAny _ _ (standAt src.pos >>= _) _ _ s; exact wpAny_bind (wpAny_standAt (wpAny_bind (wpAny_mono h (fun i2 s2 h2 => wpAny_pure ⟨rfl, h2⟩) fun _ _ z => z))))
def tIn (wi : TI) (g : TG) (tt : TT) (t : TB) (ws : List Nat) : TB := fun σ H Q => wi σ H fun J H1 => tLev J g tt t ws σ H1 Q
theorem pb_in {Y : Cx} (hx : Y.xe = fun _ _ => False) (hc : Y.calm = true) {elt : Expr} {cs : List Comprehension} {sc : Scope} {ps : Pos} {d : Nat} {D : Addr} {tg src : Expr} {ifs : List Expr} {b : Sem PySem.Fin → Sem PySem.Fin} {wi : TI} {g : TG} {tt : TT} {t : TB} {vs ws : List Nat}
    (hd : cs[d]? = some ⟨tg, src, ifs, 0⟩) (ht : ∀ it, compTurn (.ListComp elt cs sc ps) d it (.ref D) Y.env = turnBy (.ListComp elt cs sc ps) tg src ifs d it (.ref D) Y.env b)
    (hi : PI Y tg src wi) (hg : PG Y tg g) (hts : PTs Y ifs tt) (hb : PB Y b vs t) (hv : ∀ i ∈ vs, i ∈ ws) (hs : ∀ x, foldedSetIterable src Y.env x = pure x) :
    PB Y (thenIn (.ListComp elt cs sc ps) src d (.ref D) Y.env) ws (tIn wi g tt t ws) := by
  refine ⟨fun pins s σ H Q k R E I h hk => ?_⟩
  unfold thenIn
  refine wpAny_bind (noE (hi.run pins s σ H _ I h) hx fun xv s1 h1 => ?_)
  refine wpAny_bind (wpAny_standAt (wpAny_bind (wpAny_of_eq (hs xv) (wpAny_bind (wpAny_holding (noE h1 hx fun itv s2 h2 => ?_))))))
  obtain ⟨it, fp, tn, J, H2, rfl, I2, T, st2, f2, q2⟩ := h2
  refine wpAny_bind (wpAny_runOwn ?_)
  rw [Around.mark_none]
  have I2' : Inv Y pins (wipe σ ws) H2 s2 := I2.weak (wipe_length _ _) fun j v e => (wipe_some e).1
  have loop := lev_loop (R := fun r s' => match r with | .ok _ => ∃ H', Inv Y pins (wipe σ ws) H' s' ∧ Q H' | .error _ => False) hx hc ht T hg hts hb hv I2' st2 f2 q2 (fun s' H' I' q' => ⟨H', I', q'⟩)
  refine codeAny_mono (start_at hd loop (T.self Y.A 0 _ _ _ st2 loop)) fun r s' hr => ?_
  cases r with
  | error e => exact hr.elim
  | ok f =>
    obtain ⟨H', I', q'⟩ := hr
    first
      | exact hk s' H' I' q'
      | exact wpAny_pure (hk s' H' I' q')
      | exact wpAny_bind (wpAny_pure (hk s' H' I' q'))
def tLcN (wi : TI) (g : TG) (tt : TT) (t : Addr → TB) (ws : List Nat) : TE := fun σ H Q => wi σ H fun J H1 => ∀ D, H1 D = none → tLev J g tt (t D) ws σ (upd H1 D (.lst [])) fun H' => Q (.ref D) H'
theorem lcN_core {X : Cx} {pins : List (Addr × Obj)} {s : Shared} {σ : L2.St} {H : Hp} {Q : VK} {elt tg src : Expr} {ifs : List Expr} {cs : List Comprehension} {scope : Scope} {own : List (Str × Nat)} {vs : List Nat} {pos pos' : Pos} {wi : TI} {g : TG} {tt : TT} {t : Addr → TB} {b : Value → Env → Sem PySem.Fin → Sem PySem.Fin} {use : Option (Value → Sem Unit)} {Qf : Value → Shared → Prop}
    (hc : X.calm = true) (hN : X.N.Nodup) (I : Inv X pins σ H s) (hi : PI X tg src wi) (ok : BlkOk X.N X.env.scope scope own) (hv : ∀ i ∈ vs, i ∈ own.map (·.2))
    (hg : ∀ (s : Shared) (H : Hp) (C : Addr) (cl : List (Str × Addr)) (fp : List Addr), PG (X.blk s H scope (compEnvC scope cl C X.env) fp) tg g) (hts : ∀ (s : Shared) (H : Hp) (C : Addr) (cl : List (Str × Addr)) (fp : List Addr), PTs (X.blk s H scope (compEnvC scope cl C X.env) fp) ifs tt)
    (hb : ∀ (s : Shared) (H : Hp) (C : Addr) (cl : List (Str × Addr)) (fp : List Addr) (D : Addr), PB (X.blk s H scope (compEnvC scope cl C X.env) fp) (b (.ref D) (compEnvC scope cl C X.env)) vs (t D))
    (ht : ∀ it acc env, compTurn (.ListComp elt (⟨tg, src, ifs, 0⟩ :: cs) scope pos) 0 it acc env = turnBy (.ListComp elt (⟨tg, src, ifs, 0⟩ :: cs) scope pos) tg src ifs 0 it acc env (b acc env)) (hs : ∀ x, foldedSetIterable src X.env x = pure x)
    (h : tLcN wi g tt t (own.map (·.2)) σ H Q)
    (hRR : ∀ D C s' m H', Inv X pins σ H' s' → Q (.ref D) H' → s'.heap.Ns C m → FpOk X pins H' C → compPost (model X.prog X.w) X.A X.xe use Qf (.ref D) C (.ok .next) s') :
    wpAny (model X.prog X.w) X.A (comprehension (.ListComp elt (⟨tg, src, ifs, 0⟩ :: cs) scope pos) scope X.env pos' (newList []) false (eval src X.env) use) Qf X.xe s := by
  have free : ∀ y ∈ scope.names, y.2 = .free → ∃ c, X.env.cells.lookup y.1 = some c := fun y hy e => (ok.free y hy e).elim (fun z => I.ok.has _ (.inl z)) fun z => I.ok.has _ (.inr z)
  refine wpAny_comprehension_free (use := use) rfl hs (closure_ok free) ok.kind (fun y hy e => by rw [ok.uniq y hy, e]) (wpAny_mono (hi.run pins s σ H _ I h) (fun xv s1 h1 => wpAny_mono h1 (fun itv s2 h2 => ?_) fun _ _ z => z) fun _ _ z => z)
  obtain ⟨it, fp, tn, J, H2, rfl, I2, T, st2, f2, q⟩ := h2
  refine wpAny_newObj_type (newEnv_comp ?_) (by show 0 ≤ sizeLine; decide)
  obtain ⟨D, hD⟩ : ∃ D, s2.heap.objs.size = D := ⟨_, rfl⟩
  have fD : H2 D = none := I2.hok.fresh (Nat.le_of_eq hD)
  have lev := q D fD
  obtain ⟨s3, hs3⟩ : ∃ s3 : Shared, ({ s2 with heap := s2.heap.push { cls := .type "list", data := .seq ([] : List Value).toArray } } : Shared) = s3 := ⟨_, rfl⟩
  have hp3 : s3.heap = s2.heap.push { cls := .type "list", data := .seq ([] : List Value).toArray } := by rw [← hs3]
  have I3 : Inv X pins σ (upd H2 D (.lst [])) s3 := by
    rw [← hs3]
    exact I2.laid (t' := s2.toks) (fun b o e => Heap.get?_push_of_some _ e) (Nat.le_of_eq hD) ⟨Nat.zero_le _, [], 0, .nil, by rw [← hD]; exact Heap.get?_push_size _ rfl⟩
  have below : ∀ b ∈ fp, b < s2.heap.objs.size := fun b hb => by
    obtain ⟨o, e, _⟩ := T.obj _ _ st2 b hb
    exact Heap.lt_size e
  have f3 : ∀ b ∈ fp, FpOk X pins (upd H2 D (.lst [])) b ∧ b < s3.heap.objs.size := fun b hb => by
    have lt := below b hb
    refine ⟨⟨?_, (f2 b hb).2⟩, by rw [hp3, Heap.size_push]; exact Nat.lt_succ_of_lt lt⟩
    rw [upd_ne (by rw [← hD]; exact Nat.ne_of_lt lt)]
    exact (f2 b hb).1
  have st3 : tn 0 s3.heap := T.keep _ _ _ st2 fun b _ o e => by rw [hp3]; exact Heap.get?_push_of_some _ e
  have I4 := block_start I3 ok hN f3
  rw [hs3, hD]
  have pg := hg s3 (upd H2 D (.lst [])) s3.heap.objs.size (cellsFrom (s3.heap.objs.size + 1) scope.names (cloFrom X.env.cells scope.names [])) fp
  have pt := hts s3 (upd H2 D (.lst [])) s3.heap.objs.size (cellsFrom (s3.heap.objs.size + 1) scope.names (cloFrom X.env.cells scope.names [])) fp
  have pb := hb s3 (upd H2 D (.lst [])) s3.heap.objs.size (cellsFrom (s3.heap.objs.size + 1) scope.names (cloFrom X.env.cells scope.names [])) fp D
  have no3 : ∀ b ∈ fp, (upd H2 D (.lst [])) b = none := fun b hb => (f3 b hb).1.1
  obtain ⟨ce, hce⟩ : ∃ ce, compEnvC scope (cellsFrom (s3.heap.objs.size + 1) scope.names (cloFrom X.env.cells scope.names [])) s3.heap.objs.size X.env = ce := ⟨_, rfl⟩
  change codeAny _ _ (.compStart (.ListComp elt (⟨tg, src, ifs, 0⟩ :: cs) scope pos) 0 (.ref it) (.ref D) (compEnvC scope (cellsFrom (s3.heap.objs.size + 1) scope.names (cloFrom X.env.cells scope.names [])) s3.heap.objs.size X.env)) (compPost _ _ _ use Qf (.ref D) s3.heap.objs.size) _
  rw [hce] at I4 pg pt pb ⊢
  have locs : ce.locals = s3.heap.objs.size := by rw [← hce]; rfl
  obtain ⟨H3, hH3⟩ : ∃ H3, upd H2 D (.lst []) = H3 := ⟨_, rfl⟩
  rw [hH3] at I3 I4 pg pt pb f3 lev no3
  obtain ⟨s4, hs4⟩ : ∃ s4 : Shared, ({ s3 with heap := pushCells (s3.heap.push { cls := .type "dict", data := .dict #[] }) scope.names } : Shared) = s4 := ⟨_, rfl⟩
  rw [hs4] at I4 ⊢
  have st4 : tn 0 s4.heap := T.keep _ _ _ st3 fun b _ o e => by rw [← hs4]; exact pushCells_keeps _ _ _ _ (Heap.get?_push_of_some _ e)
  have f4 : ∀ b ∈ fp, FpOk (X.blk s3 H3 scope ce fp) [] H3 b := fun b hb =>
    ⟨no3 b hb, (I4.ok.exf b hb).1, I4.ok.exfs b hb, .inl hb, fun x c e => (I4.ok.exf b hb).2 x c e, fun p hp => absurd (show p ∈ ([] : List (Addr × Obj)) ++ [] from hp) (by simp)⟩
  have loop : codeAny (model X.prog X.w) X.A (.compLoop (.ListComp elt (⟨tg, src, ifs, 0⟩ :: cs) scope pos) 0 (.ref it) (.ref D) ce) (compPost (model X.prog X.w) X.A X.xe use Qf (.ref D) s3.heap.objs.size) s4 := by
    refine lev_loop (Y := X.blk s3 H3 scope ce fp) rfl hc (fun it => ht it (.ref D) ce) T pg pt pb hv I4 st4 f4 lev fun s5 H5 I5 q5 => ?_
    have I6 : Inv X pins σ H5 s5 := I3.call' (ch := fp) I5.os I5.base I5.hok I5.bare fun b hb => ⟨(f3 b hb).1.2.2.2.1, (f3 b hb).1.2.1, (f3 b hb).1.2.2.2.2.1, (f3 b hb).1.2.2.2.2.2⟩
    have nC : H5 s3.heap.objs.size = none := by
      have z : H5 ce.locals = none := I5.free
      rw [locs] at z
      exact z
    obtain ⟨m, hm, _⟩ := I5.loc
    have hm : s5.heap.Ns ce.locals m := hm
    rw [locs] at hm
    exact hRR D s3.heap.objs.size s5 m H5 I6 q5 hm (I3.fpOk (Nat.le_refl _) nC)
  exact codeAny_compStart_list loop (T.self X.A 0 _ _ _ st4 loop)
theorem pe_lcN {X : Cx} {elt tg src : Expr} {ifs : List Expr} {cs : List Comprehension} {scope : Scope} {own : List (Str × Nat)} {vs : List Nat} {pos : Pos} {wi : TI} {g : TG} {tt : TT} {t : Addr → TB} {b : Value → Env → Sem PySem.Fin → Sem PySem.Fin}
    (hc : X.calm = true) (hN : X.N.Nodup) (hi : PI X tg src wi) (ok : BlkOk X.N X.env.scope scope own) (hv : ∀ i ∈ vs, i ∈ own.map (·.2))
    (hg : ∀ (s : Shared) (H : Hp) (C : Addr) (cl : List (Str × Addr)) (fp : List Addr), PG (X.blk s H scope (compEnvC scope cl C X.env) fp) tg g) (hts : ∀ (s : Shared) (H : Hp) (C : Addr) (cl : List (Str × Addr)) (fp : List Addr), PTs (X.blk s H scope (compEnvC scope cl C X.env) fp) ifs tt)
    (ht : ∀ it acc env, compTurn (.ListComp elt (⟨tg, src, ifs, 0⟩ :: cs) scope pos) 0 it acc env = turnBy (.ListComp elt (⟨tg, src, ifs, 0⟩ :: cs) scope pos) tg src ifs 0 it acc env (b acc env))
    (hb : ∀ (s : Shared) (H : Hp) (C : Addr) (cl : List (Str × Addr)) (fp : List Addr) (D : Addr), PB (X.blk s H scope (compEnvC scope cl C X.env) fp) (b (.ref D) (compEnvC scope cl C X.env)) vs (t D)) (hs : ∀ x, foldedSetIterable src X.env x = pure x := by intro _; rfl) :
    PE X (.ListComp elt (⟨tg, src, ifs, 0⟩ :: cs) scope pos) (tLcN wi g tt t (own.map (·.2))) := by
  refine ⟨fun pins s σ H Q I h => ?_⟩
  rw [eval_ListComp]
  refine lcN_core hc hN I hi ok hv hg hts hb ht hs h fun D C s' m H' I' q hn f => ⟨m, hn, fun h'' sb => ?_⟩
  exact ⟨.ref D, H', I'.turned (t' := s'.toks) (fun b o hb e => (sb.2 b hb).trans e) f.1 f.2.1 f.2.2.2.1 f.2.2.2.2.1 f.2.2.2.2.2, rfl, q⟩
/-- the loop of a clause by what holds at its turns -/
theorem lev_it {J : It} {n : Nat} {G : Hp → Prop} {Yl : Nat → Hp → V → Hp → Prop} (w : Walk J n G Yl) {g : TG} {tt : TT} {t : TB} {ws : List Nat} {σ : L2.St} {H : Hp} {Q : Hp → Prop} (Pv : Nat → Hp → Prop) (h0 : Pv 0 H) (hG : ∀ i H, i ≤ n → Pv i H → G H)
    (hs : ∀ i x H H', i < n → Pv i H → Yl i H x H' → g x (wipe σ ws) H' fun σ2 H2 => wipe σ2 ws = wipe σ ws ∧ tt σ2 H2 fun b H3 => if b = true then t σ2 H3 (Pv (i + 1)) else Pv (i + 1) H3) (hd : ∀ H, Pv n H → Q H) : tLev J g tt t ws σ H Q := by
  refine ⟨fun i m H => m = n - i ∧ i ≤ n ∧ Pv i H, ⟨n, by simp, Nat.zero_le _, h0⟩, ?_⟩
  rintro i m H ⟨rfl, hi, p⟩
  have q := hG i H hi p
  by_cases lt : i < n
  · exact .inr ⟨w.goes i H lt q, Pv (i + 1), fun H' p' => ⟨n - (i + 1), by omega, rfl, lt, p'⟩, fun x H' y => hs i x H H' lt p (w.yields i H x H' lt q y)⟩
  · have e : i = n := by omega
    subst e
    exact .inl ⟨w.stops H q, hd H p⟩
theorem lev_range {lo : Int} {n : Nat} {g : TG} {tt : TT} {t : TB} {ws : List Nat} {σ : L2.St} {H : Hp} {Q : Hp → Prop} (Pv : Nat → Hp → Prop) (h0 : Pv 0 H)
    (hs : ∀ i H, i < n → Pv i H → g (.int (lo + i)) (wipe σ ws) H fun σ2 H2 => wipe σ2 ws = wipe σ ws ∧ tt σ2 H2 fun b H3 => if b = true then t σ2 H3 (Pv (i + 1)) else Pv (i + 1) H3) (hd : ∀ H, Pv n H → Q H) : tLev (Itr lo n) g tt t ws σ H Q := by
  refine lev_it walk_range Pv h0 (fun _ _ _ _ => trivial) (fun i x H H' hi hp hy => ?_) hd
  obtain ⟨rfl, rfl⟩ := hy
  exact hs i H' hi hp
theorem lev_list {K : PySem.W.Frag} {a : Addr} {xs : List V} {g : TG} {tt : TT} {t : TB} {ws : List Nat} {σ : L2.St} {H : Hp} {Q : Hp → Prop} (Pv : Nat → Hp → Prop) (h0 : Pv 0 H) (hl : ∀ i H, i ≤ xs.length → Pv i H → SqL K H a xs)
    (hs : ∀ i x H, xs[i]? = some x → Pv i H → g x (wipe σ ws) H fun σ2 H2 => wipe σ2 ws = wipe σ ws ∧ tt σ2 H2 fun b H3 => if b = true then t σ2 H3 (Pv (i + 1)) else Pv (i + 1) H3) (hd : ∀ H, Pv xs.length H → Q H) : tLev (Itl K a) g tt t ws σ H Q := by
  refine lev_it walk_list Pv h0 hl (fun i x H H' hi hp hy => ?_) hd
  obtain ⟨rfl, hx⟩ := hy
  exact hs i x H' hx hp
/-! ### zip of two texts -/
section
variable {X : Cx}
/-- new pairs of the signs of x and y -/
def ItzS (x y : Str) : It :=
  ⟨fun i _ => i < x.cps.size ∧ i < y.cps.size,
    fun i H v H' => ∃ (p : Addr) (c d : Nat), v = .ref p ∧ H p = none ∧ H' = upd H p (.tup [.str ⟨#[c]⟩, .str ⟨#[d]⟩]) ∧ x.cps[i]? = some c ∧ y.cps[i]? = some d,
    fun i _ => i = min x.cps.size y.cps.size⟩
theorem turn_zipS {P : Program} {w : World} {K : PySem.W.Frag} {elts : List Expr} {kk : Nat} {tpos : Pos} {x y : Str} {t1 t2 : Tok} {z ti to i1 i2 : Addr} (S : ZipSep2 z ti to i1 i2 [i1] [i2]) :
    Turn P w K (.Tuple elts kk tpos) (ItzS x y) [z, ti, to, i1, i2] z
      (fun i h => IsZip h z ti to .none ∧ IsTupOf2 h ti (.ref i1) (.ref i2) ∧ (∃ a b, IsTupOf2 h to a b) ∧ h.IsStrIter i1 (strIterType x) x t1 i ∧ h.IsStrIter i2 (strIterType y) y t2 i) where
  mem := by simp
  obj := fun i h st c hc => by
    obtain ⟨hz, hti, ⟨a, b, hto⟩, ⟨o1, e1, _, d1⟩, ⟨o2, e2, _, d2⟩⟩ := st
    have hc' : c = z ∨ c = ti ∨ c = to ∨ c = i1 ∨ c = i2 := by simpa using hc
    rcases hc' with q | q | q | q | q
    · rw [q]; exact ⟨_, hz, fun v q2 => nomatch q2⟩
    · rw [q]; exact ⟨_, hti, fun v q2 => nomatch q2⟩
    · rw [q]; exact ⟨_, hto, fun v q2 => nomatch q2⟩
    · exact ⟨o1, by rw [q]; exact e1, fun v q => by rw [d1] at q; cases q⟩
    · exact ⟨o2, by rw [q]; exact e2, fun v q => by rw [d2] at q; cases q⟩
  keep := fun i h h' st k => by
    obtain ⟨hz, hti, ⟨a, b, hto⟩, ⟨o1, e1, r1⟩, ⟨o2, e2, r2⟩⟩ := st
    exact ⟨k z (by simp) _ hz, k ti (by simp) _ hti, ⟨a, b, k to (by simp) _ hto⟩, ⟨o1, k i1 (by simp) _ e1, r1⟩, ⟨o2, k i2 (by simp) _ e2, r2⟩⟩
  item := by
    intro X hP hw hK hc i pins s σ H E I hf st hg
    subst hP hw hK
    obtain ⟨hz, hti, ⟨a0, b0, hto⟩, h1, h2⟩ := st
    have quiet : X.A.in1.handled = none := I.ok.hd hc
    have zlt : z < s.heap.objs.size := Heap.lt_size hz
    refine wpAny_pyNext_zipD2_item S (Draws.text quiet i1 x t1) (Draws.text quiet i2 y t2) hz hti hto h1 h2 hg.1 hg.2 fun u1 u2 h' tk p1 p2 z' to' j1 j2 hT hsz hk => ?_
    obtain ⟨c, tc, ec, rfl⟩ := p1
    obtain ⟨d, td, ed, rfl⟩ := p2
    refine ⟨_, rfl, wpAny_letOwnedTupleGo_zip (s := { s with heap := h', toks := tk }) z' fun h'' z'' sb => ?_⟩
    have hT2 : h''.get? s.heap.objs.size = some { cls := .type "tuple", data := .seq #[.str ⟨#[c]⟩ tc, .str ⟨#[d]⟩ td] } := (sb.2 _ (Nat.ne_of_gt zlt)).trans hT
    have new : ObjOk X.prog X.w (upd H s.heap.objs.size (.tup [.str ⟨#[c]⟩, .str ⟨#[d]⟩])) h'' s.heap.objs.size (.tup [.str ⟨#[c]⟩, .str ⟨#[d]⟩]) :=
      ⟨by show 2 ≤ sizeLine; decide, [.str ⟨#[c]⟩ tc, .str ⟨#[d]⟩ td], .cons ⟨_, rfl⟩ (.cons ⟨_, rfl⟩ .nil), ⟨_, hT2, rfl, _, rfl⟩⟩
    have I1 : Inv X pins σ (upd H s.heap.objs.size (.tup [.str ⟨#[c]⟩, .str ⟨#[d]⟩])) { s with heap := h'', toks := tk } :=
      I.turnedNew (t' := tk) (ch := [z, ti, to, i1, i2]) (fun c o hb q => (sb.2 c (fun e => hb (by simp [e]))).trans (hk c o (fun e => hb (by simp [e])) (fun e => hb (by simp [e])) (fun e => hb (by simp [e])) (fun e => hb (by simp [e])) q)) hf (Nat.le_refl _) new
    refine ⟨.ref s.heap.objs.size, _, I1, rfl, ⟨_, c, d, rfl, I.hok.fresh (Nat.le_refl _), rfl, ec, ed⟩, ⟨z'', (sb.2 _ S.TIz).trans (hk _ _ S.TIz S.TITO S.TIi1 S.TIi2 hti), ⟨_, _, (sb.2 _ S.TOz).trans to'⟩, ?_, ?_⟩, fun c hcm => ?_⟩
    · obtain ⟨o, e, r⟩ := j1
      exact ⟨o, (sb.2 _ S.zi1.symm).trans e, r⟩
    · obtain ⟨o, e, r⟩ := j2
      exact ⟨o, (sb.2 _ S.zi2.symm).trans e, r⟩
    · have lt : c < s.heap.objs.size := by
        have hc' : c = z ∨ c = ti ∨ c = to ∨ c = i1 ∨ c = i2 := by simpa using hcm
        rcases hc' with q | q | q | q | q
        · rw [q]; exact zlt
        · rw [q]; exact Heap.lt_size hti
        · rw [q]; exact Heap.lt_size hto
        · rw [q]; obtain ⟨_, e, _⟩ := h1; exact Heap.lt_size e
        · rw [q]; obtain ⟨_, e, _⟩ := h2; exact Heap.lt_size e
      rw [upd_ne (Nat.ne_of_lt lt)]
      exact (hf c hcm).1
  done := by
    intro X hP hw hK hc i pins s σ H E I hf st hg
    subst hP hw hK
    obtain ⟨hz, hti, ⟨a0, b0, hto⟩, h1, h2⟩ := st
    have quiet : X.A.in1.handled = none := I.ok.hd hc
    have hg' : i = min x.cps.size y.cps.size := hg
    exact wpAny_pyNext_zipD2_end S (Draws.text quiet i1 x t1) (Draws.text quiet i2 y t2) hz hti hto h1 h2 (by omega) (by omega) (by omega) fun h' tk hk => ⟨rfl, I.turnedL (t' := tk) (ch := [z, ti, to, i1, i2]) (fun c o hb q =>
      hk c o (fun e => hb (by simp [e])) (fun e => hb (by simp [e])) (fun e => hb (by simp [e])) (fun e => hb (by simp [e])) q) hf⟩
  self := fun A i s Q E st h => wpAny_pyIter_zip st.1 h
def iZipS (ta : TA) : TI := fun σ H R => ta σ H fun vs H1 => ∃ x y : Str, vs = [.str x, .str y] ∧ R (ItzS x y) H1
theorem pi_zipS {e e2 : Expr} {ta : TA} {p pos tpos : Pos} {elts : List Expr} {kk : Nat} (hg : Gl X "zip") (hm : X.mg "zip" = none) (ha : PA X [e, e2] ta)
    (hs : starEach [e, e2] X.env = (false, eval e X.env) :: starEach [e2] X.env := by rfl) (hpl : (backTo pos (starEach [e2] X.env)).any (·.1) = false := by rfl) :
    PI X (.Tuple elts kk tpos) (.Call (.Name "zip" p) [e, e2] [] pos) (iZipS ta) := by
  refine ⟨fun pins s σ H R I h => ?_⟩
  refine Call_ (ld_blt I hg hm PyProof.Rows.boot_zip (PyProof.Rows.callWith_type1 (thn (ha.run pos pins s σ H _ I h) fun us s1 h1 => ?_) hs hpl))
  obtain ⟨vs, H1, I1, r1, x, y, rfl, q⟩ := h1
  obtain ⟨u, u2, rfl, ⟨t1, rfl⟩, ⟨t2, rfl⟩⟩ := vals2 r1
  refine zip_begins2 (begins_text x t1) (begins_text y t2) trivial trivial fun h' hz hti hto g1 g2 hsz hk => wpAny_pyIter_zip hz ?_
  have I2 : Inv X pins σ H1 { s1 with heap := h' } := I1.kept (t' := s1.toks) hk
  have young : ∀ c, c ∈ [s1.heap.objs.size + 4, s1.heap.objs.size + 2, s1.heap.objs.size + 3, s1.heap.objs.size, s1.heap.objs.size + 1] → FpOk X pins H1 c := fun c hc => by
    have le : s1.heap.objs.size ≤ c := by
      have hc' : c = s1.heap.objs.size + 4 ∨ c = s1.heap.objs.size + 2 ∨ c = s1.heap.objs.size + 3 ∨ c = s1.heap.objs.size ∨ c = s1.heap.objs.size + 1 := by simpa using hc
      rcases hc' with q | q | q | q | q <;> (rw [q]; first | exact Nat.le_add_right _ _ | exact Nat.le_refl _)
    exact I1.fpOk le (I1.hok.fresh le)
  have apart : ∀ (n a b : Nat), a ≠ b → n + a ≠ n + b := fun n a b h z => h (Nat.add_left_cancel z)
  refine ⟨s1.heap.objs.size + 4, [s1.heap.objs.size + 4, s1.heap.objs.size + 2, s1.heap.objs.size + 3, s1.heap.objs.size, s1.heap.objs.size + 1], _, _, H1, rfl, I2, turn_zipS (t1 := t1) (t2 := t2) ?_, ⟨hz, hti, ⟨_, _, hto⟩, ⟨_, g1, rfl, rfl⟩, ⟨_, g2, rfl, rfl⟩⟩, young, q⟩
  have n0 : s1.heap.objs.size = s1.heap.objs.size + 0 := rfl
  refine ⟨apart _ _ _ (by decide), apart _ _ _ (by decide), apart _ _ _ (by decide), ?_, by simp, ?_, ?_, apart _ _ _ (by decide), by simp, ?_, ?_, ?_, ?_⟩
  · exact apart _ 2 0 (by decide)
  · intro h; exact apart _ 4 0 (by decide) (List.mem_singleton.mp h)
  · intro h; exact apart _ 3 0 (by decide) (List.mem_singleton.mp h)
  · intro h; exact apart _ 4 1 (by decide) (List.mem_singleton.mp h)
  · intro h; exact apart _ 3 1 (by decide) (List.mem_singleton.mp h)
  · intro h; exact apart _ 0 1 (by decide) (List.mem_singleton.mp h)
  · intro h; exact apart _ 1 0 (by decide) (List.mem_singleton.mp h)
theorem pi_or {tg e : Expr} {w1 w2 : TI} (a : PI X tg e w1) (b : PI X tg e w2) : PI X tg e (fun σ H R => w1 σ H R ∨ w2 σ H R) :=
  ⟨fun pins s σ H R I h => h.elim (fun h => a.run pins s σ H R I h) fun h => b.run pins s σ H R I h⟩
theorem walk_zipS {x y : Str} {n : Nat} (hn : n = min x.cps.size y.cps.size) : Walk (ItzS x y) n (fun _ => True) (fun i H v H' => ∃ (p : Addr) (c d : Nat), v = .ref p ∧ H p = none ∧ H' = upd H p (.tup [.str ⟨#[c]⟩, .str ⟨#[d]⟩]) ∧ x.cps[i]? = some c ∧ y.cps[i]? = some d) :=
  ⟨fun i _ hi _ => ⟨by omega, by omega⟩, fun _ _ => hn, fun _ _ _ _ _ _ q => q⟩
end
/-! ### indexes, ascending texts and tuples -/
theorem walk_zipT {K : PySem.W.Frag} {a b : Addr} {xs ys : List V} {n : Nat} (hn : n = min xs.length ys.length) : Walk (RZ.ItzT K a b) n (fun H => SqT K H a xs ∧ SqT K H b ys) (YPair (fun i => xs[i]?) (fun i => ys[i]?)) :=
  ⟨fun i H hi h => ⟨xs, ys, xs[i]'(by omega), ys[i]'(by omega), h.1, h.2, List.getElem?_eq_getElem _, List.getElem?_eq_getElem _⟩, fun H h => ⟨xs, ys, h.1, h.2, by omega⟩, fun i H v H' hi h q => by
    obtain ⟨T, x, y, e1, e2, e3, e4, e5⟩ := q
    exact ⟨T, x, y, e1, e2, e3, e4 xs h.1, e5 ys h.2⟩⟩
def asc (zs : List Nat) : Bool := ((zs.zip (zs.drop 1)).map fun q => decide (q.1 < q.2)).all id
def spAsc (K : PySem.W.Frag) : Sp := fun vs H Q _ =>
  (∃ zs : List Nat, vs = [.str (tx zs)] ∧ zs.length ≤ 60 ∧ ∀ H', Same H H' → Q (.bl (asc zs)) H') ∨
  (∃ (a : Addr) (i j k : Int), vs = [.ref a] ∧ SqT K H a [.int i, .int j, .int k] ∧ ∀ H', Same H H' → Q (.bl (decide (i < j) && decide (j < k))) H')
theorem bl_ints (a b : Bool) : ([a, b].all id) = (a && b) := by cases a <;> cases b <;> rfl
section
variable {P : Program} {w : World} {K : PySem.W.Frag} {mg : Str → Option Value} {base : Heap} {f : Addr} {fd : FuncData}
theorem ok_asc {k : Nat} (F : Fun K "is_ascending" "is_ascending" s_is_ascending f fd) (M : Mgs mg) : FnOk P w K mg base CX0 (k + 1) f fd ["items"] (spAsc K) := by
  refine F.ok sc_is_ascending (fun vs H Q E h => ?_) (fun cdv A outer s H vs Q E hr h => ?_)
  · rcases h with ⟨zs, rfl, _⟩ | ⟨a, i, j, k, rfl, _⟩ <;> rfl
  refine ⟨_, (pss_one (ps_ret (pe_callB (cr_all rfl) rfl M.all (by decide +kernel) (pa_cons (pe_lc (own := [("one", 1), ("other", 2)]) (g := gTup K 2 (gCons (gName 1) (gCons (gName 2) gNil))) (tt := tYes) rfl sc_is_ascending.nd (pi_or (pi_zipS rfl M.zip (pa_cons (pv 0) (pa_cons (pe_slice sl_str (pv 0) (po_some pe_int) po_none) pa_nil))) (RZ.pi_zipA rfl M.zip (pa_cons (pv 0) (pa_cons (pe_slice sl_tupA (pv 0) (po_some pe_int) po_none) pa_nil)))) (blkOk_by (N := ["items", "one", "other"]) (sc := defScope s_is_ascending) (by decide +kernel)) (fun _ _ _ _ _ => (pg_tup rfl (pgs_cons (pg_name (i := 1) sc_is_ascending.nd rfl (.inl rfl)) (pgs_cons (pg_name (i := 2) sc_is_ascending.nd rfl (.inl rfl)) pgs_nil)))) (fun _ _ _ _ _ => pts_nil) (fun _ _ _ _ _ => (pe_cmpR (op_lt_str.or op_lt) (pv 1) (pv 2) (nomark _)))) pa_nil)))), ?_⟩
  rcases h with ⟨zs, rfl, hl, q⟩ | ⟨a, i, j, k, rfl, ha, q⟩
  · have lz : (tx zs).length ≤ sizeLine := small (by rw [tx_len]; omega)
    refine .inl ⟨_, rfl, _, rfl, 1, rfl, _, rfl, lz, _, _, rfl, fun D nD => ?_⟩
    rw [show (1 : Int) = ((1 : Nat) : Int) from rfl, tx_from]
    have q1 := same_new nD (.lst [])
    refine lc_it (walk_zipS (x := tx zs) (y := tx (zs.drop 1)) rfl) (fun i H' => Same H H' ∧ H' D = some (.lst ((((zs.zip (zs.drop 1)).take i).map fun q => decide (q.1 < q.2)).map V.bl))) ⟨q1, upd_same⟩ (fun _ _ _ _ => trivial) (fun i x H' H'' hi hp hy => ?_) (fun H' hp => ?_)
    · obtain ⟨sm, ed⟩ := hp
      obtain ⟨p, c, d, rfl, np, rfl, hc, hd⟩ := hy
      have hc' : zs[i]? = some c := by rw [← hc]; simp [tx]
      have hd' : (zs.drop 1)[i]? = some d := by rw [← hd]; simp [tx]
      have q2 := same_new np (.tup [.str ⟨#[c]⟩, .str ⟨#[d]⟩])
      have hz : (zs.zip (zs.drop 1))[i]? = some (c, d) := List.getElem?_zip_eq_some.mpr ⟨hc', hd'⟩
      have hi' : i < zs.length := (List.getElem?_eq_some_iff.mp hc').1
      refine ⟨p, _, rfl, SqT.of upd_same, rfl, _, _, rfl, _, _, rfl, rfl, rfl, kept ?_⟩
      refine ⟨_, rfl, _, rfl, .inl ⟨_, _, rfl, rfl, _, q2 _ _ ed, ?_, fun b o e => ?_, ?_⟩⟩
      · rw [List.length_map, List.length_map, List.length_take]; exact small1000 (by omega)
      · rw [upd_ne (ne_of_none e nD)]; exact q2 _ _ (sm _ _ e)
      · rw [upd_same, List.take_succ, hz, List.map_append, List.map_append]
        show _ = some (HO.lst (_ ++ [V.bl (decide (c < d))]))
        rw [show V.bl (decide ((⟨#[c]⟩ : Str).cps.toList < (⟨#[d]⟩ : Str).cps.toList)) = V.bl (decide (c < d)) from congrArg V.bl (ch_lt c d)]
    · obtain ⟨sm, ed⟩ := hp
      refine ⟨D, _, rfl, SqL.of ed, ?_⟩
      have e : (zs.zip (zs.drop 1)).take (min (tx zs).cps.size (tx (zs.drop 1)).cps.size) = zs.zip (zs.drop 1) := by
        refine List.take_of_length_le ?_
        rw [List.length_zip, tx_size, tx_size]
        exact Nat.le_refl _
      rw [e]
      exact q H' sm
  · refine .inr ⟨_, rfl, _, rfl, 1, rfl, a, _, rfl, ha, fun hw => ?_, fun _ b nb => ?_⟩
    · exact absurd (show HT.sIx 3 0 (some 1) = 0 from hw.1) (by decide)
    have q0 := same_new nb (.tup [.int j, .int k])
    refine ⟨a, b, _, _, rfl, .inr ⟨sqT_same q0 ha, SqT.of upd_same, fun D nD => ?_⟩⟩
    have q1 := same_new nD (.lst [])
    have ha1 := sqT_same q0 ha
    have eb : SqT K (upd H b (.tup [.int j, .int k])) b [.int j, .int k] := SqT.of upd_same
    refine lc_it (walk_zipT (K := K) (a := a) (b := b) (xs := [.int i, .int j, .int k]) (ys := [.int j, .int k]) rfl) (fun n H' => Same (upd H b (.tup [.int j, .int k])) H' ∧ H' D = some (.lst (([decide (i < j), decide (j < k)].take n).map V.bl))) ⟨q1, upd_same⟩ (fun _ H' _ hp => ⟨sqT_same hp.1 ha1, sqT_same hp.1 eb⟩) (fun n x H' H'' hi hp hy => ?_) (fun H' hp => ?_)
    · obtain ⟨sm, ed⟩ := hp
      obtain ⟨p, x, y, rfl, np, rfl, hx, hy⟩ := hy
      have q2 := same_new np (.tup [x, y])
      have hn : n = 0 ∨ n = 1 := by
        have : n < 2 := hi
        omega
      rcases hn with rfl | rfl
      · cases hx
        cases hy
        refine ⟨p, _, rfl, SqT.of upd_same, rfl, _, _, rfl, _, _, rfl, rfl, rfl, kept ?_⟩
        refine ⟨_, rfl, _, rfl, .inr ⟨_, _, rfl, rfl, _, q2 _ _ ed, (by show 0 < sizeLine; decide), fun b o e => ?_, ?_⟩⟩
        · rw [upd_ne (ne_of_none e nD)]; exact q2 _ _ (sm _ _ e)
        · rw [upd_same]; rfl
      · cases hx
        cases hy
        refine ⟨p, _, rfl, SqT.of upd_same, rfl, _, _, rfl, _, _, rfl, rfl, rfl, kept ?_⟩
        refine ⟨_, rfl, _, rfl, .inr ⟨_, _, rfl, rfl, _, q2 _ _ ed, (by show 1 < sizeLine; decide), fun b o e => ?_, ?_⟩⟩
        · rw [upd_ne (ne_of_none e nD)]; exact q2 _ _ (sm _ _ e)
        · rw [upd_same]; rfl
    · obtain ⟨sm, ed⟩ := hp
      refine ⟨D, [decide (i < j), decide (j < k)], rfl, SqL.of ed, ?_⟩
      rw [bl_ints]
      exact q H' (q0.trans sm)
def spWhole : Sp := fun vs H Q _ => ∃ i : Int, vs = [.int i] ∧ Q (.bl true) H
theorem ok_whole {k : Nat} (F : Fun K "is_whole_number" "is_whole_number" s_is_whole_number f fd) (M : Mgs mg) : FnOk P w K mg base CX0 (k + 1) f fd ["value"] spWhole := by
  refine F.ok sc_is_whole_number (fun vs H Q E h => ?_) (fun cdv A outer s H vs Q E hr h => ?_)
  · obtain ⟨i, rfl, _⟩ := h
    rfl
  obtain ⟨i, rfl, q⟩ := h
  refine ⟨_, (pss_one (ps_ret (pe_and (pe_callB call_isi rfl M.isinstance (by decide +kernel) (pa_cons (pv 0) (pa_cons (pe_bltn (v := .ty "int") rfl M.int (by decide +kernel) rfl) pa_nil))) (pe_one (pe_not (pe_callB call_isi rfl M.isinstance (by decide +kernel) (pa_cons (pv 0) (pa_cons (pe_bltn (v := .ty "bool") rfl M.bool (by decide +kernel) rfl) pa_nil)))))))), ?_⟩
  refine ⟨_, rfl, _, _, _, _, true, rfl, .ty _, .base (.int i), kit_ty (by decide +kernel), _, rfl, iteT ?_⟩
  exact ⟨_, rfl, _, _, _, _, false, rfl, .ty _, .base (.int i), kit_ty (by decide +kernel), _, rfl, q⟩
def spIndex : Sp := fun vs H Q _ => ∃ i n : Int, vs = [.int i, .int n] ∧ Q (.bl (decide (0 ≤ i) && decide (i < n))) H
theorem ok_index {k : Nat} (F : Fun K "is_index" "is_index" s_is_index f fd) (Dis_whole_number : Df P w K mg base (k + 1) "is_whole_number" ["value"] spWhole) : FnOk P w K mg base CX0 (k + 2) f fd ["value", "many"] spIndex := by
  refine F.ok sc_is_index (fun vs H Q E h => ?_) (fun cdv A outer s H vs Q E hr h => ?_)
  · obtain ⟨i, n, rfl, _⟩ := h
    rfl
  obtain ⟨i, n, rfl, q⟩ := h
  refine ⟨_, (pss_one (ps_ret (pe_and (pe_call Dis_whole_number.ok (hr.mono (by omega)) rfl Dis_whole_number.g Dis_whole_number.kp Dis_whole_number.b .nil pass0 (pa_cons (pv 0) pa_nil)) (pe_one (pe_chain op_le op_lt pe_int (pv 0) (pv 1)))))), ?_⟩
  refine ⟨_, rfl, i, rfl, _, rfl, iteT ?_⟩
  refine ⟨_, rfl, _, _, rfl, rfl, _, rfl, ?_⟩
  by_cases h0 : (0 : Int) ≤ i
  · rw [decide_eq_true h0] at q ⊢
    exact iteT ⟨_, rfl, _, _, rfl, rfl, q⟩
  · rw [decide_eq_false h0] at q ⊢
    exact iteF q
def spSearch : Sp := fun vs H Q _ => ∃ (v : V) (t : B), vs = [v] ∧ BAt H v t ∧ t ≠ .nil ∧ t.size ≤ 50 ∧ ∀ H', Same H H' → Q (.bl (asc t.mid)) H'
end
/-! ### barriers -/
def Barr (zs : List Nat) (l h b : Nat) : Prop := l < h ∧ h < b ∧ b < zs.length ∧ zs.getD b 0 < zs.getD l 0 ∧ zs.getD l 0 < zs.getD h 0
abbrev vt (z : List Nat) : V := .str (tx z)
theorem sig_at {zs : List Nat} {i : Nat} (h : i < zs.length) : atI (tx zs).cps.toList ((i : Nat) : Int) = some (zs.getD i 0) := by
  refine atI_nat ?_
  show zs[i]? = _
  rw [List.getD_eq_getElem?_getD, List.getElem?_eq_getElem h]
  rfl
def spBarr (K : PySem.W.Frag) : Sp := fun vs H Q _ => ∃ (zs : List Nat) (a : Addr) (l h b : Nat), vs = [vt zs, .ref a] ∧ zs.length ≤ 30 ∧ l < h ∧ h < b ∧ b < zs.length ∧ SqT K H a [.int (l : Int), .int (h : Int), .int (b : Int)] ∧
  ∀ H', Same H H' → Q (.bl (decide (zs.getD b 0 < zs.getD l 0) && decide (zs.getD l 0 < zs.getD h 0))) H'
section
variable {P : Program} {w : World} {K : PySem.W.Frag} {mg : Str → Option Value} {base : Heap} {f : Addr} {fd : FuncData}
theorem ok_barrier (F : Fun K "is_barrier" "is_barrier" s_is_barrier f fd) (M : Mgs mg) (Dis_index : Df P w K mg base 2 "is_index" ["value", "many"] spIndex) (Dis_ascending : Df P w K mg base 1 "is_ascending" ["items"] (spAsc K)) : FnOk P w K mg base CX0 3 f fd ["order", "value"] (spBarr K) := by
  refine F.ok sc_is_barrier (fun vs H Q E h => ?_) (fun cdv A outer s H vs Q E hr h => ?_)
  · obtain ⟨zs, a, l, h, b, rfl, _⟩ := h
    rfl
  obtain ⟨zs, a, l, h, b, rfl, hz, lh, hb, bz, ha, q⟩ := h
  have lz : (tx zs).length ≤ sizeLine := small (by rw [tx_len]; omega)
  have ty : TyX K H (.ref a) (.type "tuple") := dp_ty (Dp.tup ha (.cons (.int _) (.cons (.int _) (.cons (.int _) .nil))))
  refine ⟨_, (pss_cons (ps_if (PW.pt (pw_or (pt_not (pt_val (pe_callB call_isi rfl M.isinstance (by decide +kernel) (pa_cons (pv 1) (pa_cons (pe_bltn (v := .ty "tuple") rfl M.tuple (by decide +kernel) rfl) pa_nil))))) (pw_or1 (pt_cmpR op_ne (pe_callB call_len_seq rfl M.len PySem.boot_len (pa_cons (pv 1) pa_nil)) pe_int (nomark _)))))
      (pss_one (ps_ret pe_bl)) pss_nil)
    (pss_cons (ps_if (PW.pt (pw_or (pt_not (pt_val (pe_callB (cr_all rfl) rfl M.all (by decide +kernel) (pa_cons (pe_lc (own := [("place", 2)]) (g := gName 2) (tt := tYes) rfl sc_is_barrier.nd (pi_tup (pv 1)) (blkOk_by (N := ["order", "value", "place", "low", "high", "behind"]) (sc := defScope s_is_barrier) (by decide +kernel)) (fun _ _ _ _ _ => (pg_name (i := 2) sc_is_barrier.nd rfl (.inl rfl))) (fun _ _ _ _ _ => pts_nil) (fun _ _ _ _ _ => (pe_call Dis_index.ok (hr.mono (by omega)) rfl Dis_index.g Dis_index.kp Dis_index.b .nil pass0 (pa_cons (pv 2) (pa_cons (pe_callB call_len_str rfl M.len PySem.boot_len (pa_cons (pv 0) pa_nil)) pa_nil))))) pa_nil)))) (pw_or1 (pt_not (pt_val (pe_call Dis_ascending.ok (hr.mono (by omega)) rfl Dis_ascending.g Dis_ascending.kp Dis_ascending.b .nil pass0 (pa_cons (pv 1) pa_nil)))))))
      (pss_one (ps_ret pe_bl)) pss_nil)
    (pss_cons (ps_asg (pv 1) (pg_tup rfl (pgs_cons (pg_name (i := 3) sc_is_barrier.nd rfl (.inl rfl)) (pgs_cons (pg_name (i := 4) sc_is_barrier.nd rfl (.inl rfl)) (pgs_cons (pg_name (i := 5) sc_is_barrier.nd rfl (.inl rfl)) pgs_nil)))))
    (pss_one (ps_ret (pe_chain op_lt_str op_lt_str (pe_ix ix_str (pv 0) (pv 5) (fun _ _ => rfl)) (pe_ix ix_str (pv 0) (pv 3) (fun _ _ => rfl)) (pe_ix ix_str (pv 0) (pv 4) (fun _ _ => rfl)))))))), ?_⟩
  refine ⟨_, rfl, _, _, _, _, true, rfl, .ty _, ty, kit_ty (by decide +kernel), _, rfl, iteF ?_⟩
  refine ⟨_, rfl, a, _, rfl, .inr ha, rfl, _, rfl, iteF ?_⟩
  refine ⟨_, rfl, a, rfl, ⟨_, ha⟩, fun D nD => ?_⟩
  have q1 := same_new nD (.lst [])
  refine lc_tup (K := K) (a := a) (xs := [.int (l : Int), .int (h : Int), .int (b : Int)]) (fun n H' => Same H H' ∧ H' D = some (.lst ((List.replicate n true).map V.bl))) ⟨q1, upd_same⟩ (fun n H' _ hp => sqT_same hp.1 ha) (fun n x H' hx hp => ?_) (fun H' hp => ?_)
  · obtain ⟨sm, ed⟩ := hp
    obtain ⟨m, hm, rfl⟩ : ∃ m : Nat, m < zs.length ∧ x = .int (m : Int) := by
      match n, hx with
      | 0, hx => cases hx; exact ⟨l, by omega, rfl⟩
      | 1, hx => cases hx; exact ⟨h, by omega, rfl⟩
      | 2, hx => cases hx; exact ⟨b, by omega, rfl⟩
    have hn : n < 3 := (List.getElem?_eq_some_iff.mp hx).1
    refine ⟨rfl, kept ?_⟩
    refine ⟨_, rfl, _, rfl, _, rfl, lz, _, _, rfl, _, ed, by rw [List.length_map, List.length_replicate]; exact small1000 (by omega), fun b o e => ?_, ?_⟩
    · rw [upd_ne (ne_of_none e nD)]; exact sm _ _ e
    · rw [upd_same, tx_len, decide_eq_true (show (0 : Int) ≤ (m : Int) by omega), decide_eq_true (show (m : Int) < (zs.length : Int) by omega), List.replicate_succ', List.map_append]
      rfl
  · obtain ⟨sm, ed⟩ := hp
    refine ⟨D, _, rfl, SqL.of ed, _, rfl, iteF ?_⟩
    refine ⟨_, rfl, .inr ⟨a, _, _, _, rfl, sqT_same sm ha, fun H2 s2 => ?_⟩⟩
    rw [decide_eq_true (show (l : Int) < (h : Int) by omega), decide_eq_true (show (h : Int) < (b : Int) by omega)]
    refine ⟨_, rfl, iteF ?_⟩
    have ha2 := sqT_same s2 (sqT_same sm ha)
    refine ⟨_, rfl, a, _, rfl, ha2, rfl, _, _, rfl, _, _, rfl, _, _, rfl, rfl, ?_⟩
    refine ⟨_, rfl, _, rfl, _, _, _, rfl, rfl, lz, sig_at bz, _, rfl, _, rfl, _, _, _, rfl, rfl, lz, sig_at (by omega), _, _, rfl, rfl, _, rfl, ?_⟩
    rw [ch_lt]
    have q' := q H2 (sm.trans s2)
    by_cases c : zs.getD b 0 < zs.getD l 0
    · rw [decide_eq_true c] at q' ⊢
      refine iteT ⟨_, rfl, _, rfl, _, _, _, rfl, rfl, lz, sig_at (by omega), _, _, rfl, rfl, ?_⟩
      rw [ch_lt]
      exact q'
    · rw [decide_eq_false c] at q' ⊢
      exact iteF q'
inductive TrAt (H : Hp) : List V → List (Nat × Nat × Nat) → Prop
  | nil : TrAt H [] []
  | cons {a : Addr} {l h b : Nat} {vs : List V} {ts : List (Nat × Nat × Nat)} : H a = some (.tup [.int (l : Int), .int (h : Int), .int (b : Int)]) → TrAt H vs ts → TrAt H (.ref a :: vs) ((l, h, b) :: ts)
theorem TrAt.keep {H H' : Hp} (k : KeepT H H') {vs : List V} {ts : List (Nat × Nat × Nat)} (h : TrAt H vs ts) : TrAt H' vs ts := by
  induction h with
  | nil => exact .nil
  | cons e _ ih => exact .cons (k _ _ e) ih
theorem TrAt.same {H H' : Hp} (k : Same H H') {vs : List V} {ts : List (Nat × Nat × Nat)} (h : TrAt H vs ts) : TrAt H' vs ts := by
  induction h with
  | nil => exact .nil
  | cons e _ ih => exact .cons (k _ _ e) ih
theorem TrAt.snoc {H : Hp} {vs : List V} {ts : List (Nat × Nat × Nat)} {a : Addr} {l h b : Nat} (k : TrAt H vs ts) (e : H a = some (.tup [.int (l : Int), .int (h : Int), .int (b : Int)])) : TrAt H (vs ++ [.ref a]) (ts ++ [(l, h, b)]) := by
  induction k with
  | nil => exact .cons e .nil
  | cons e' _ ih => exact .cons e' ih
theorem TrAt.len {H : Hp} {vs : List V} {ts : List (Nat × Nat × Nat)} (k : TrAt H vs ts) : vs.length = ts.length := by
  induction k with
  | nil => rfl
  | cons _ _ ih => rw [List.length_cons, List.length_cons, ih]
def Barb (zs : List Nat) (l h b : Nat) : Bool := decide (zs.getD b 0 < zs.getD l 0) && decide (zs.getD l 0 < zs.getD h 0)
def bars2 (zs : List Nat) (b h n : Nat) : List (Nat × Nat × Nat) := (List.range n).filterMap fun l => if Barb zs l h b then some (l, h, b) else none
def bars1 (zs : List Nat) (b n : Nat) : List (Nat × Nat × Nat) := (List.range n).flatMap fun h => bars2 zs b h h
def bars0 (zs : List Nat) (n : Nat) : List (Nat × Nat × Nat) := (List.range n).flatMap fun b => bars1 zs b b
theorem bars2_succ (zs : List Nat) (b h n : Nat) : bars2 zs b h (n + 1) = bars2 zs b h n ++ if Barb zs n h b then [(n, h, b)] else [] := by
  unfold bars2
  rw [List.range_succ, List.filterMap_append]
  congr 1
  rw [List.filterMap_cons, List.filterMap_nil]
  cases Barb zs n h b <;> rfl
theorem bars1_succ (zs : List Nat) (b n : Nat) : bars1 zs b (n + 1) = bars1 zs b n ++ bars2 zs b n n := by
  unfold bars1
  rw [List.range_succ, List.flatMap_append, List.flatMap_cons, List.flatMap_nil, List.append_nil]
theorem bars0_succ (zs : List Nat) (n : Nat) : bars0 zs (n + 1) = bars0 zs n ++ bars1 zs n n := by
  unfold bars0
  rw [List.range_succ, List.flatMap_append, List.flatMap_cons, List.flatMap_nil, List.append_nil]
theorem bars2_mem {zs : List Nat} {b h n : Nat} {t : Nat × Nat × Nat} : t ∈ bars2 zs b h n ↔ t.1 < n ∧ t.2.1 = h ∧ t.2.2 = b ∧ Barb zs t.1 h b = true := by
  unfold bars2
  rw [List.mem_filterMap]
  constructor
  · rintro ⟨l, hl, e⟩
    have hl := List.mem_range.mp hl
    split at e
    · cases e
      exact ⟨hl, rfl, rfl, by assumption⟩
    · cases e
  · obtain ⟨l, h', b'⟩ := t
    rintro ⟨h1, rfl, rfl, h4⟩
    exact ⟨l, List.mem_range.mpr h1, by rw [if_pos h4]⟩
theorem bars_mem {zs : List Nat} {l h b : Nat} : (l, h, b) ∈ bars0 zs zs.length ↔ Barr zs l h b := by
  unfold bars0 bars1 Barr
  rw [List.mem_flatMap]
  constructor
  · rintro ⟨b', hb', hm⟩
    obtain ⟨h', hh', hm⟩ := List.mem_flatMap.mp hm
    obtain ⟨h1, h2, h3, h4⟩ := bars2_mem.mp hm
    have h2 : h = h' := h2
    have h3 : b = b' := h3
    subst h2 h3
    unfold Barb at h4
    rw [Bool.and_eq_true, decide_eq_true_eq, decide_eq_true_eq] at h4
    exact ⟨h1, List.mem_range.mp hh', List.mem_range.mp hb', h4.1, h4.2⟩
  · rintro ⟨h1, h2, h3, h4, h5⟩
    refine ⟨b, List.mem_range.mpr h3, List.mem_flatMap.mpr ⟨h, List.mem_range.mpr h2, bars2_mem.mpr ⟨h1, rfl, rfl, ?_⟩⟩⟩
    unfold Barb
    rw [decide_eq_true h4, decide_eq_true h5]
    rfl
theorem bars2_len (zs : List Nat) (b h n : Nat) : (bars2 zs b h n).length ≤ n := by
  unfold bars2
  exact Nat.le_trans (List.length_filterMap_le _ _) (by rw [List.length_range]; exact Nat.le_refl _)
/-- the list at D holds ts -/
def TrIn (H0 : Hp) (D : Addr) (n : Nat) (ts : List (Nat × Nat × Nat)) (H : Hp) : Prop := Same H0 H ∧ ts.length ≤ n ∧ ∃ us : List V, H D = some (.lst us) ∧ TrAt H us ts
def spBars : Sp := fun vs H Q _ => ∃ zs : List Nat, vs = [vt zs] ∧ zs.length ≤ 30 ∧ ∀ (p : Addr) (us : List V) (H' : Hp), Same H H' → H' p = some (.lst us) → TrAt H' us (bars0 zs zs.length) → Q (.ref p) H'
theorem ok_bars (F : Fun K "barriers_of" "barriers_of" s_barriers_of f fd) (M : Mgs mg) (Dis_barrier : Df P w K mg base 3 "is_barrier" ["order", "value"] (spBarr K)) : FnOk P w K mg base CX0 4 f fd ["order"] spBars := by
  refine F.ok sc_barriers_of (fun vs H Q E h => ?_) (fun cdv A outer s H vs Q E hr h => ?_)
  · obtain ⟨zs, rfl, _⟩ := h
    rfl
  obtain ⟨zs, rfl, hz, q⟩ := h
  have lz : (tx zs).length ≤ sizeLine := small (by rw [tx_len]; omega)
  refine ⟨_, (pss_one (ps_ret (pe_lcN (own := [("behind", 1), ("high", 2), ("low", 3)]) (vs := [2, 3]) (g := gName 1) (tt := tYes) rfl sc_barriers_of.nd (pi_range1 rfl M.range (pa_cons (pe_callB call_len_str rfl M.len PySem.boot_len (pa_cons (pv 0) pa_nil)) pa_nil)) (blkOk_by (N := ["order", "behind", "high", "low"]) (sc := defScope s_barriers_of) (by decide +kernel)) (by decide) (fun _ _ _ _ _ => (pg_name (i := 1) sc_barriers_of.nd rfl (.inl rfl))) (fun _ _ _ _ _ => pts_nil) (fun _ _ _ => turn_in rfl rfl) (fun _ _ _ _ _ _ => (pb_in (ws := [2, 3]) (g := gName 2) (tt := tYes) rfl rfl rfl (fun _ => turn_in rfl rfl) (pi_range1 rfl M.range (pa_cons (pv 1) pa_nil)) (pg_name (i := 2) sc_barriers_of.nd rfl (.inl rfl)) (pts_nil) (pb_in (ws := [3]) (g := gName 3) rfl rfl rfl (fun _ => turn_put rfl rfl) (pi_range1 rfl M.range (pa_cons (pv 2) pa_nil)) (pg_name (i := 3) sc_barriers_of.nd rfl (.inl rfl)) (pts_one (pt_val (pe_call Dis_barrier.ok (hr.mono (by omega)) rfl Dis_barrier.g Dis_barrier.kp Dis_barrier.b .nil pass0 (pa_cons (pv 0) (pa_cons (pe_tup (pa_cons (pv 3) (pa_cons (pv 2) (pa_cons (pv 1) pa_nil)))) pa_nil))))) (pb_put rfl (pe_tup (pa_cons (pv 3) (pa_cons (pv 2) (pa_cons (pv 1) pa_nil))))) (by decide) (fun _ => rfl)) (by decide) (fun _ => rfl)))))), ?_⟩
  refine ⟨_, rfl, _, rfl, lz, _, rfl, by rw [tx_len]; omega, by rw [tx_len]; omega, fun D nD => ?_⟩
  rw [tx_len, Int.toNat_natCast]
  refine lev_range (lo := 0) (n := zs.length) (fun b H' => TrIn H D (900 * b) (bars0 zs b) H') ?_ (fun b H1 hb hp => ?_) (fun H1 hp => ?_)
  · exact ⟨same_new nD _, Nat.le_refl _, [], upd_same, .nil⟩
  · rw [show (0 : Int) + (b : Int) = ((b : Nat) : Int) by omega]
    refine ⟨rfl, kept ?_⟩
    refine ⟨_, rfl, _, rfl, by omega, by omega, ?_⟩
    rw [Int.toNat_natCast]
    refine lev_range (lo := 0) (n := b) (fun h H' => TrIn H D (900 * b + 30 * h) (bars0 zs b ++ bars1 zs b h) H') ?_ (fun h H2 hh hp2 => ?_) (fun H2 hp2 => ?_)
    · rw [show bars1 zs b 0 = [] from rfl, List.append_nil]
      exact hp
    · rw [show (0 : Int) + (h : Int) = ((h : Nat) : Int) by omega]
      refine ⟨rfl, kept ?_⟩
      refine ⟨_, rfl, _, rfl, by omega, by omega, ?_⟩
      rw [Int.toNat_natCast]
      refine lev_range (lo := 0) (n := h) (fun l H' => TrIn H D (900 * b + 30 * h + l) (bars0 zs b ++ bars1 zs b h ++ bars2 zs b h l) H') ?_ (fun l H3 hl hp3 => ?_) (fun H3 hp3 => ?_)
      · rw [show bars2 zs b h 0 = [] from rfl, List.append_nil]
        exact hp2
      · rw [show (0 : Int) + (l : Int) = ((l : Nat) : Int) by omega]
        refine ⟨rfl, ?_⟩
        refine ⟨_, rfl, _, rfl, _, rfl, _, rfl, (by show 3 ≤ sizeLine; decide), fun tp ntp => ?_⟩
        have q1 := same_new ntp (.tup [.int (l : Int), .int (h : Int), .int (b : Int)])
        refine ⟨zs, tp, l, h, b, rfl, hz, hl, hh, hb, SqT.of upd_same, fun H4 s4 => ⟨_, rfl, ?_⟩⟩
        obtain ⟨s3, tl, us, ed, tr⟩ := hp3
        have s34 := q1.trans s4
        have eB := bars2_succ zs b h l
        cases c : Barb zs l h b
        · rw [c, if_neg Bool.false_ne_true, List.append_nil] at eB
          rw [show (decide (zs.getD b 0 < zs.getD l 0) && decide (zs.getD l 0 < zs.getD h 0)) = false from c, eB]
          refine iteF ?_
          exact ⟨s3.trans s34, by omega, us, s34 _ _ ed, tr.same s34⟩
        · rw [c, if_pos rfl] at eB
          rw [show (decide (zs.getD b 0 < zs.getD l 0) && decide (zs.getD l 0 < zs.getD h 0)) = true from c, eB, ← List.append_assoc]
          refine iteT ?_
          refine ⟨_, rfl, _, rfl, _, rfl, (by show 3 ≤ sizeLine; decide), fun t2 nt2 => ?_⟩
          have q2 := same_new nt2 (.tup [.int (l : Int), .int (h : Int), .int (b : Int)])
          have s35 := s34.trans q2
          refine ⟨_, s35 _ _ ed, ?_, fun b' o e => ?_, ?_, us ++ [.ref t2], upd_same, ?_⟩
          · rw [tr.len]; show _ < 16777216; omega
          · rw [upd_ne (ne_of_none e nD)]; exact s35 _ _ (s3 _ _ e)
          · rw [List.length_append]; show _ + 1 ≤ _; omega
          · have keep : KeepT (upd H4 t2 (.tup [.int (l : Int), .int (h : Int), .int (b : Int)])) (upd (upd H4 t2 (.tup [.int (l : Int), .int (h : Int), .int (b : Int)])) D (.lst (us ++ [.ref t2]))) := fun c xs e => by
              rw [upd_ne (ne_of e (s35 _ _ ed) (by intro z; cases z))]; exact e
            exact TrAt.keep keep ((tr.same s35).snoc upd_same)
      · obtain ⟨s3, tl, us, ed, tr⟩ := hp3
        rw [List.append_assoc, ← bars1_succ] at tl tr
        exact ⟨s3, by omega, us, ed, tr⟩
    · obtain ⟨s3, tl, us, ed, tr⟩ := hp2
      rw [← bars0_succ] at tl tr
      exact ⟨s3, by omega, us, ed, tr⟩
  · obtain ⟨s3, tl, us, ed, tr⟩ := hp
    exact q D us H1 s3 ed tr
def spTreeOf : Sp := fun vs H Q _ => ∃ zs : List Nat, vs = [.str (tx zs)] ∧ zs.Nodup ∧ zs.length ≤ 12 ∧ ∀ (v : V) (H' : Hp), Same H H' → BAt H' v (gr zs) → Q v H'
def spCert : Sp := fun vs H Q _ => ∃ zs : List Nat, vs = [vt zs] ∧ zs.Nodup ∧ zs.length ≤ 12 ∧
  (∀ (p a : Addr) (l h b : Nat) (r : List (Nat × Nat × Nat)) (H' : Hp), Same H H' → H' p = some (.tup [.str "barrier", .ref a]) → H' a = some (.tup [.int (l : Int), .int (h : Int), .int (b : Int)]) → bars0 zs zs.length = (l, h, b) :: r → Q (.ref p) H') ∧
  (∀ (p : Addr) (v : V) (H' : Hp), Same H H' → H' p = some (.tup [.str "tree", v]) → BAt H' v (gr zs) → bars0 zs zs.length = [] → Q (.ref p) H')
theorem ok_cert (F : Fun K "search_certificate" "search_certificate" s_search_certificate f fd) (Dbarriers_of : Df P w K mg base 4 "barriers_of" ["order"] spBars) (Dtree_of : Df P w K mg base 64 "tree_of" ["order"] spTreeOf) : FnOk P w K mg base CX0 65 f fd ["order"] spCert := by
  refine F.ok sc_search_certificate (fun vs H Q E h => ?_) (fun cdv A outer s H vs Q E hr h => ?_)
  · obtain ⟨zs, rfl, _⟩ := h
    rfl
  obtain ⟨zs, rfl, nd, hz, q1, q2⟩ := h
  refine ⟨_, (pss_cons (ps_set (i := 1) sc_search_certificate.nd rfl (.inl rfl) (pe_call Dbarriers_of.ok (hr.mono (by omega)) rfl Dbarriers_of.g Dbarriers_of.kp Dbarriers_of.b .nil pass0 (pa_cons (pv 0) pa_nil)))
    (pss_one (ps_ret (pe_ifExp (pt_truth (pv 1) (by intro _; rfl)) (pe_tup (pa_cons pe_str (pa_cons (pe_ix ix_list (pv 1) pe_int (fun _ _ => rfl)) pa_nil))) (pe_tup (pa_cons pe_str (pa_cons (pe_call Dtree_of.ok (hr.mono (by omega)) rfl Dtree_of.g Dtree_of.kp Dtree_of.b .nil pass0 (pa_cons (pv 0) pa_nil)) pa_nil))))))), ?_⟩
  refine ⟨_, rfl, zs, rfl, by omega, fun p us H1 s1 ep tr => ?_⟩
  refine ⟨_, rfl, !us.isEmpty, .inl ⟨us, SqL.of ep, rfl⟩, ?_⟩
  generalize hts : bars0 zs zs.length = ts at tr q1 q2
  cases tr with
  | nil =>
    refine iteF ?_
    refine ⟨_, rfl, zs, rfl, nd, hz, fun v H2 s2 hv => ⟨(by show 2 ≤ sizeLine; decide), fun r nr => ?_⟩⟩
    have k := same_new nr (.tup [.str "tree", v])
    exact q2 r v _ ((s1.trans s2).trans k) upd_same (hv.same k) rfl
  | @cons a l h b vs ts ea tr =>
    refine iteT ?_
    refine ⟨_, rfl, p, _, _, _, rfl, rfl, SqL.of ep, atI_nat (j := 0) rfl, (by show 2 ≤ sizeLine; decide), fun r nr => ?_⟩
    have k := same_new nr (.tup [.str "barrier", .ref a])
    exact q1 r a l h b ts _ (s1.trans k) upd_same (k _ _ ea) rfl
end
/-! ### patterns of three letters -/
def Bar3 (zs : List Nat) : Prop := ∃ x y z : Nat, [x, y, z].Sublist zs ∧ z < x ∧ x < y
theorem sub_split {x : Nat} {r : List Nat} : ∀ {zs : List Nat}, (x :: r).Sublist zs → ∃ a b, zs = a ++ x :: b ∧ r.Sublist b
  | [], h => by cases h
  | y :: zs, h => by
    cases h with
    | cons _ h =>
      obtain ⟨a, b, rfl, hb⟩ := sub_split h
      exact ⟨y :: a, b, rfl, hb⟩
    | cons_cons _ h => exact ⟨[], zs, rfl, h⟩
theorem getD_mid (a b : List Nat) (x : Nat) : (a ++ x :: b).getD a.length 0 = x := by
  rw [List.getD_eq_getElem?_getD, List.getElem?_append_right (Nat.le_refl _), Nat.sub_self]
  rfl
theorem getD_right (a b : List Nat) (k : Nat) : (a ++ b).getD (a.length + k) 0 = b.getD k 0 := by
  rw [List.getD_eq_getElem?_getD, List.getD_eq_getElem?_getD, List.getElem?_append_right (Nat.le_add_right _ _), Nat.add_sub_cancel_left]
theorem barr_of {zs : List Nat} (h : Bar3 zs) : ∃ l h b, Barr zs l h b := by
  obtain ⟨x, y, z, hs, zx, xy⟩ := h
  obtain ⟨a, b, rfl, hs1⟩ := sub_split hs
  obtain ⟨c, d, rfl, hs2⟩ := sub_split hs1
  obtain ⟨e, f, rfl, _⟩ := sub_split hs2
  refine ⟨a.length, a.length + (c.length + 1), a.length + (c.length + (e.length + 1) + 1), by omega, by omega, ?_, ?_, ?_⟩
  · simp only [List.length_append, List.length_cons]; omega
  · rw [getD_right, getD_mid]
    show (c ++ y :: (e ++ z :: f)).getD (c.length + (e.length + 1)) 0 < x
    rw [getD_right]
    show (e ++ z :: f).getD e.length 0 < x
    rw [getD_mid]
    exact zx
  · rw [getD_right, getD_mid]
    show x < (c ++ y :: (e ++ z :: f)).getD c.length 0
    rw [getD_mid]
    exact xy
theorem get_sub {zs : List Nat} {i : Nat} {r : List Nat} (h : i < zs.length) (hr : r.Sublist (zs.drop (i + 1))) : (zs.getD i 0 :: r).Sublist (zs.drop i) := by
  rw [List.drop_eq_getElem_cons h, List.getD_eq_getElem?_getD, List.getElem?_eq_getElem h]
  exact hr.cons_cons _
theorem Barr.sub {zs : List Nat} {l h b : Nat} (k : Barr zs l h b) : [zs.getD l 0, zs.getD h 0, zs.getD b 0].Sublist zs := by
  obtain ⟨lh, hb, bz, _⟩ := k
  have s1 : [zs.getD b 0].Sublist (zs.drop b) := get_sub bz (List.nil_sublist _)
  have s2 : [zs.getD h 0, zs.getD b 0].Sublist (zs.drop h) := get_sub (by omega) (s1.trans (List.drop_sublist_drop_left _ (by omega)))
  have s3 := get_sub (zs := zs) (i := l) (by omega) (s2.trans (List.drop_sublist_drop_left _ (show l + 1 ≤ h by omega)))
  exact s3.trans (List.drop_sublist _ _)
theorem Barr.bar {zs : List Nat} {l h b : Nat} (k : Barr zs l h b) : Bar3 zs := ⟨_, _, _, k.sub, k.2.2.2.1, k.2.2.2.2⟩
theorem Bar3.mono {ws zs : List Nat} (s : ws.Sublist zs) (h : Bar3 ws) : Bar3 zs := by
  obtain ⟨x, y, z, hs, h⟩ := h
  exact ⟨x, y, z, hs.trans s, h⟩
theorem filter_sub {ws zs : List Nat} (s : ws.Sublist zs) : zs.Nodup → zs.filter (fun c => decide (c ∈ ws)) = ws := by
  induction s with
  | slnil => intro _; rfl
  | @cons l1 l2 a s ih =>
    intro nd
    obtain ⟨na, nd⟩ := List.nodup_cons.mp nd
    rw [List.filter_cons_of_neg (by rw [decide_eq_true_eq]; exact fun z => na (s.subset z))]
    exact ih nd
  | @cons_cons l1 l2 a s ih =>
    intro nd
    obtain ⟨na, nd⟩ := List.nodup_cons.mp nd
    rw [List.filter_cons_of_pos (by rw [decide_eq_true_eq]; exact List.mem_cons_self)]
    have e : l2.filter (fun c => decide (c ∈ a :: l1)) = l2.filter (fun c => decide (c ∈ l1)) := by
      refine List.filter_congr fun c hc => ?_
      have : c ≠ a := fun z => na (z ▸ hc)
      simp [this]
    rw [e, ih nd]
theorem sub_of_mem {zs ws : List Nat} {x y z : Nat} (nd : zs.Nodup) (h : [x, y, z].Sublist zs) (s : ws.Sublist zs) (hx : x ∈ ws) (hy : y ∈ ws) (hz : z ∈ ws) : [x, y, z].Sublist ws := by
  have := h.filter (fun c => decide (c ∈ ws))
  rw [filter_sub s nd] at this
  simpa [hx, hy, hz] using this
theorem bst_noBar {t : B} (h : Bst t) : ¬ Bar3 t.pre := by
  induction t with
  | nil =>
    rintro ⟨x, y, z, hs, _⟩
    cases hs
  | node l w r i1 i2 =>
    obtain ⟨hl, hr, bl, br⟩ := h
    rintro ⟨x, y, z, hs, zx, xy⟩
    have hs : [x, y, z].Sublist (w :: (l.pre ++ r.pre)) := hs
    cases hs with
    | cons _ hs =>
      obtain ⟨l1, l2, e, s1, s2⟩ := List.sublist_append_iff.mp hs
      match l1, e with
      | [], e =>
        have : l2 = [x, y, z] := e.symm
        exact i2 br ⟨x, y, z, this ▸ s2, zx, xy⟩
      | [x'], e =>
        simp only [List.cons_append, List.nil_append, List.cons.injEq] at e
        obtain ⟨rfl, rfl⟩ := e
        have h1 := hl x (s1.subset List.mem_cons_self)
        have h2 := hr z (s2.subset (by simp))
        omega
      | [x', y'], e =>
        simp only [List.cons_append, List.nil_append, List.cons.injEq] at e
        obtain ⟨rfl, rfl, rfl⟩ := e
        have h1 := hl x (s1.subset List.mem_cons_self)
        have h2 := hr z (s2.subset (by simp))
        omega
      | [x', y', z'], e =>
        simp only [List.cons_append, List.nil_append, List.cons.injEq] at e
        obtain ⟨rfl, rfl, rfl, _⟩ := e
        exact i1 bl ⟨x, y, z, s1, zx, xy⟩
      | _ :: _ :: _ :: _ :: _, e => simp at e
    | cons_cons _ hs =>
      obtain ⟨l1, l2, e, s1, s2⟩ := List.sublist_append_iff.mp hs
      match l1, e with
      | [], e =>
        have : l2 = [y, z] := e.symm
        have h2 := hr z (s2.subset (by simp [this]))
        omega
      | y' :: _, e =>
        simp only [List.cons_append, List.cons.injEq] at e
        obtain ⟨rfl, _⟩ := e
        have h1 := hl y (s1.subset List.mem_cons_self)
        omega
theorem bst_mid {t : B} (h : Bst t) : t.mid.Pairwise (· < ·) := by
  induction t with
  | nil => exact .nil
  | node l w r i1 i2 =>
    obtain ⟨hl, hr, bl, br⟩ := h
    show (l.mid ++ w :: r.mid).Pairwise (· < ·)
    refine List.pairwise_append.mpr ⟨i1 bl, List.pairwise_cons.mpr ⟨fun c hc => hr c ((r.mid_mem c).mp hc), i2 br⟩, fun a ha c hc => ?_⟩
    have h1 := hl a ((l.mid_mem a).mp ha)
    rcases List.mem_cons.mp hc with rfl | hc
    · exact h1
    · have := hr c ((r.mid_mem c).mp hc)
      omega
theorem asc_of : ∀ {zs : List Nat}, zs.Pairwise (· < ·) → asc zs = true
  | [], _ => rfl
  | [_], _ => rfl
  | a :: b :: r, h => by
    have ih := asc_of (zs := b :: r) (List.pairwise_cons.mp h).2
    have hab := (List.pairwise_cons.mp h).1 b List.mem_cons_self
    unfold asc at ih ⊢
    show ((decide (a < b)) :: (((b :: r).zip ((b :: r).drop 1)).map fun q => decide (q.1 < q.2))).all id = true
    rw [List.all_cons, ih, decide_eq_true hab]
    rfl
theorem tx_init (l : List Nat) (c : Nat) : cutS (tx (l ++ [c])) none (some (-1)) = tx l := by
  unfold cutS tx
  show (⟨_⟩ : Str) = ⟨_⟩
  have e : HT.sIx (l ++ [c]).length (l ++ [c]).length (some (-1)) = l.length := by
    show (if (-1 : Int) < 0 then ((-1 : Int) + ((l ++ [c]).length : Int)).toNat else min (-1 : Int).toNat (l ++ [c]).length) = _
    rw [if_pos (by decide), List.length_append, List.length_cons, List.length_nil]
    omega
  show (⟨(((l ++ [c]).drop 0).take (HT.sIx (l ++ [c]).length (l ++ [c]).length (some (-1)) - 0)).toArray⟩ : Str) = _
  rw [e, List.drop_zero, Nat.sub_zero, List.take_left]
theorem tx_last (l : List Nat) (c : Nat) : cutS (tx (l ++ [c])) (some (-1)) none = tx [c] := by
  unfold cutS tx
  show (⟨_⟩ : Str) = ⟨_⟩
  have e : HT.sIx (l ++ [c]).length 0 (some (-1)) = l.length := by
    show (if (-1 : Int) < 0 then ((-1 : Int) + ((l ++ [c]).length : Int)).toNat else min (-1 : Int).toNat (l ++ [c]).length) = _
    rw [if_pos (by decide), List.length_append, List.length_cons, List.length_nil]
    omega
  show (⟨(((l ++ [c]).drop (HT.sIx (l ++ [c]).length 0 (some (-1)))).take ((l ++ [c]).length - HT.sIx (l ++ [c]).length 0 (some (-1)))).toArray⟩ : Str) = _
  rw [e, List.drop_left, List.take_of_length_le (by rw [List.length_append]; simp)]
theorem snoc_of {zs : List Nat} (h : zs ≠ []) : ∃ ys c, zs = ys ++ [c] := ⟨zs.dropLast, zs.getLast h, (List.dropLast_concat_getLast h).symm⟩
/-! ### orders without a barrier are walks -/
theorem foldl_split (zs : List Nat) (x : Nat) : ∀ l r : B, zs.foldl B.ins (.node l x r) = .node ((zs.filter (fun c => decide (c < x))).foldl B.ins l) x ((zs.filter (fun c => !decide (c < x))).foldl B.ins r) := by
  induction zs with
  | nil => intro l r; rfl
  | cons c s ih =>
    intro l r
    rw [List.foldl_cons]
    have e : (B.node l x r).ins c = if c < x then .node (l.ins c) x r else .node l x (r.ins c) := rfl
    rw [e]
    by_cases h : c < x
    · rw [if_pos h, ih, List.filter_cons_of_pos (by simpa using h), List.filter_cons_of_neg (by simpa using h), List.foldl_cons]
    · rw [if_neg h, ih, List.filter_cons_of_neg (by simpa using h), List.filter_cons_of_pos (by simpa using h), List.foldl_cons]
theorem split_of {x : Nat} : ∀ {zs : List Nat}, (∀ y z, [y, z].Sublist zs → z < x → x < y → False) → x ∉ zs → zs = zs.filter (fun c => decide (c < x)) ++ zs.filter (fun c => !decide (c < x))
  | [], _, _ => rfl
  | c :: r, h, hx => by
    have hr : ∀ y z, [y, z].Sublist r → z < x → x < y → False := fun y z s => h y z (s.cons _)
    have nx : x ≠ c := fun z => hx (by rw [z]; exact List.mem_cons_self)
    have hx' : x ∉ r := fun z => hx (List.mem_cons_of_mem _ z)
    by_cases lt : c < x
    · rw [List.filter_cons_of_pos (by simpa using lt), List.filter_cons_of_neg (by simpa using lt), List.cons_append, ← split_of hr hx']
    · rw [List.filter_cons_of_neg (by simpa using lt), List.filter_cons_of_pos (by simpa using lt)]
      have none : ∀ z ∈ r, ¬ z < x := fun z hz zx => h c z ((List.singleton_sublist.mpr hz).cons_cons c) zx (by omega)
      have e1 : r.filter (fun c => decide (c < x)) = [] := List.filter_eq_nil_iff.mpr fun z hz => by simpa using none z hz
      have e2 : r.filter (fun c => !decide (c < x)) = r := List.filter_eq_self.mpr fun z hz => by simpa using none z hz
      rw [e1, e2]
      rfl
theorem pre_of_noBar : ∀ (n : Nat) (zs : List Nat), zs.length ≤ n → zs.Nodup → ¬ Bar3 zs → (gr zs).pre = zs
  | _, [], _, _, _ => rfl
  | 0, _ :: _, h, _, _ => absurd h (Nat.not_succ_le_zero _)
  | n + 1, x :: r, h, nd, nb => by
    obtain ⟨nx, nr⟩ := List.nodup_cons.mp nd
    have sp := split_of (x := x) (zs := r) (fun y z s zx xy => nb ⟨x, y, z, s.cons_cons x, zx, xy⟩) nx
    have s1 : (r.filter (fun c => decide (c < x))).Sublist r := List.filter_sublist
    have s2 : (r.filter (fun c => !decide (c < x))).Sublist r := List.filter_sublist
    have hl : r.length ≤ n := Nat.le_of_succ_le_succ h
    have i1 := pre_of_noBar n _ (Nat.le_trans s1.length_le hl) (nr.sublist s1) (fun b => nb ((b.mono s1).mono (List.sublist_cons_self _ _)))
    have i2 := pre_of_noBar n _ (Nat.le_trans s2.length_le hl) (nr.sublist s2) (fun b => nb ((b.mono s2).mono (List.sublist_cons_self _ _)))
    unfold gr at i1 i2 ⊢
    rw [List.foldl_cons]
    show (r.foldl B.ins (.node .nil x .nil)).pre = _
    rw [foldl_split]
    show x :: ((List.foldl B.ins .nil _).pre ++ (List.foldl B.ins .nil _).pre) = _
    rw [i1, i2, ← sp]
/-! ### _law_barriers -/
def lb2 (zs : List Nat) (p q n : Nat) : List (Nat × Nat × Nat) := (List.range n).filterMap fun k => if Barb zs p q (q + 1 + k) then some (p, q, q + 1 + k) else none
def lb1 (zs : List Nat) (p n : Nat) : List (Nat × Nat × Nat) := (List.range n).flatMap fun j => lb2 zs p (p + 1 + j) (zs.length - (p + 1 + j + 1))
def lb0 (zs : List Nat) (n : Nat) : List (Nat × Nat × Nat) := (List.range n).flatMap fun p => lb1 zs p (zs.length - (p + 1))
theorem lb2_succ (zs : List Nat) (p q n : Nat) : lb2 zs p q (n + 1) = lb2 zs p q n ++ if Barb zs p q (q + 1 + n) then [(p, q, q + 1 + n)] else [] := by
  unfold lb2
  rw [List.range_succ, List.filterMap_append]
  congr 1
  rw [List.filterMap_cons, List.filterMap_nil]
  cases Barb zs p q (q + 1 + n) <;> rfl
theorem lb1_succ (zs : List Nat) (p n : Nat) : lb1 zs p (n + 1) = lb1 zs p n ++ lb2 zs p (p + 1 + n) (zs.length - (p + 1 + n + 1)) := by
  unfold lb1
  rw [List.range_succ, List.flatMap_append, List.flatMap_cons, List.flatMap_nil, List.append_nil]
theorem lb0_succ (zs : List Nat) (n : Nat) : lb0 zs (n + 1) = lb0 zs n ++ lb1 zs n (zs.length - (n + 1)) := by
  unfold lb0
  rw [List.range_succ, List.flatMap_append, List.flatMap_cons, List.flatMap_nil, List.append_nil]
theorem lb2_len (zs : List Nat) (p q n : Nat) : (lb2 zs p q n).length ≤ n := by
  unfold lb2
  exact Nat.le_trans (List.length_filterMap_le _ _) (by rw [List.length_range]; exact Nat.le_refl _)
theorem lb_mem {zs : List Nat} {l h b : Nat} : (l, h, b) ∈ lb0 zs zs.length ↔ Barr zs l h b := by
  unfold lb0 lb1 lb2 Barr
  rw [List.mem_flatMap]
  constructor
  · rintro ⟨p, hp, hm⟩
    obtain ⟨j, hj, hm⟩ := List.mem_flatMap.mp hm
    obtain ⟨k, hk, e⟩ := List.mem_filterMap.mp hm
    have hp := List.mem_range.mp hp
    have hj := List.mem_range.mp hj
    have hk := List.mem_range.mp hk
    split at e
    · rename_i hb
      cases e
      unfold Barb at hb
      rw [Bool.and_eq_true, decide_eq_true_eq, decide_eq_true_eq] at hb
      exact ⟨by omega, by omega, by omega, hb.1, hb.2⟩
    · cases e
  · rintro ⟨h1, h2, h3, h4, h5⟩
    have hb : Barb zs l h b = true := by
      unfold Barb
      rw [decide_eq_true h4, decide_eq_true h5]
      rfl
    refine ⟨l, List.mem_range.mpr (by omega), List.mem_flatMap.mpr ⟨h - (l + 1), List.mem_range.mpr (by omega), List.mem_filterMap.mpr ⟨b - (h + 1), List.mem_range.mpr (by omega), ?_⟩⟩⟩
    rw [show l + 1 + (h - (l + 1)) = h by omega, show h + 1 + (b - (h + 1)) = b by omega, if_pos hb]
theorem TrAt.app {H : Hp} {vs us : List V} {ts ss : List (Nat × Nat × Nat)} (h : TrAt H vs ts) (g : TrAt H us ss) : TrAt H (vs ++ us) (ts ++ ss) := by
  induction h with
  | nil => exact g
  | cons e _ ih => exact .cons e ih
theorem TrAt.get {H : Hp} {vs : List V} {ts : List (Nat × Nat × Nat)} (h : TrAt H vs ts) : ∀ {i : Nat} {v : V}, vs[i]? = some v → ∃ a l h b, v = .ref a ∧ ts[i]? = some (l, h, b) ∧ H a = some (.tup [.int (l : Int), .int (h : Int), .int (b : Int)]) := by
  induction h with
  | nil => intro i v e; simp at e
  | cons e _ ih =>
    intro i v he
    cases i with
    | zero => cases he; exact ⟨_, _, _, _, rfl, rfl, e⟩
    | succ i => exact ih he
def spLBars : Sp := fun vs H Q _ => ∃ zs : List Nat, vs = [vt zs] ∧ zs.length ≤ 30 ∧ ∀ (p : Addr) (us : List V) (H' : Hp), Same H H' → H' p = some (.lst us) → TrAt H' us (lb0 zs zs.length) → (lb0 zs zs.length).length ≤ 27000 → Q (.ref p) H'
section
variable {P : Program} {w : World} {K : PySem.W.Frag} {mg : Str → Option Value} {base : Heap} {f : Addr} {fd : FuncData}
theorem ok_lbars {k : Nat} (F : Fun K "_law_barriers" "_law_barriers" s__law_barriers f fd) (M : Mgs mg) : FnOk P w K mg base CX0 (k + 1) f fd ["_law_order_here"] spLBars := by
  refine F.ok sc__law_barriers (fun vs H Q E h => ?_) (fun cdv A outer s H vs Q E hr h => ?_)
  · obtain ⟨zs, rfl, _⟩ := h
    rfl
  obtain ⟨zs, rfl, hz, q⟩ := h
  have lz : (tx zs).length ≤ sizeLine := small (by rw [tx_len]; omega)
  refine ⟨_, (pss_cons (ps_par (i := 1) (j := 2) (by rfl) sc__law_barriers.nd rfl rfl (by decide) rfl rfl (pa_cons (pe_lst pa_nil) (pa_cons (pe_callB call_len_str rfl M.len PySem.boot_len (pa_cons (pv 0) pa_nil)) pa_nil)) (by rfl))
    (pss_cons (ps_for PassesOwn.never rfl (pi_range1 rfl M.range (pa_cons (pv 2) pa_nil)) (pg_name (i := 3) sc__law_barriers.nd rfl (.inr rfl))
      (pss_one (ps_for PassesOwn.never rfl (pi_range2 rfl M.range (pa_cons (pe_op op_add (pv 3) pe_int) (pa_cons (pv 2) pa_nil))) (pg_name (i := 4) sc__law_barriers.nd rfl (.inr rfl))
      (pss_one (ps_set (i := 1) sc__law_barriers.nd rfl (.inl rfl) (pe_op op_cat (pv 1) (pe_lc (own := [("_law_r", 5)]) (g := gName 5) rfl sc__law_barriers.nd (pi_range2 rfl M.range (pa_cons (pe_op op_add (pv 4) pe_int) (pa_cons (pv 2) pa_nil))) (blkOk_by (N := ["_law_order_here", "_law_found", "_law_size", "_law_p", "_law_q", "_law_r"]) (sc := defScope s__law_barriers) (by decide +kernel)) (fun _ _ _ _ _ => (pg_name (i := 5) sc__law_barriers.nd rfl (.inl rfl))) (fun _ _ _ _ _ => pts_one (pt_chain op_lt_str op_lt_str (pe_ix ix_str (pv 0) (pv 5) (fun _ _ => rfl)) (pe_ix ix_str (pv 0) (pv 3) (fun _ _ => rfl)) (pe_ix ix_str (pv 0) (pv 4) (fun _ _ => rfl)))) (fun _ _ _ _ _ => (pe_tup (pa_cons (pv 3) (pa_cons (pv 4) (pa_cons (pv 5) pa_nil))))))))))))
    (pss_one (ps_ret (pv 1))))), ?_⟩
  refine ⟨(by show 0 ≤ sizeLine; decide), fun f0 nf0 => ?_⟩
  refine ⟨_, rfl, _, rfl, lz, _, _, rfl, ?_⟩
  have q0 := same_new nf0 (.lst [])
  rw [tx_len]
  refine ⟨_, rfl, _, rfl, by omega, by omega, ?_⟩
  rw [Int.toNat_natCast]
  refine for_range (lo := 0) (n := zs.length) (fun p σ H' => ∃ (fa : Addr) (us : List V) (o3 o4 : Option V), σ = [some (vt zs), some (.ref fa), some (.int (zs.length : Int)), o3, o4, none] ∧ Same H H' ∧ H' fa = some (.lst us) ∧ TrAt H' us (lb0 zs p) ∧ (lb0 zs p).length ≤ 900 * p) ⟨f0, [], _, _, rfl, q0, upd_same, .nil, Nat.le_refl _⟩ (fun p σ H1 hp hv => ?_) (fun σ H1 hv => ?_)
  · obtain ⟨fa, us, o3, o4, rfl, s1, ef, tr, tl⟩ := hv
    rw [show (0 : Int) + (p : Int) = ((p : Nat) : Int) by omega]
    refine ⟨_, rfl, _, _, rfl, rfl, _, rfl, _, _, rfl, ⟨by omega, by omega, by omega, by omega⟩, ?_⟩
    rw [show ((zs.length : Int) - ((p : Int) + 1)).toNat = zs.length - (p + 1) by omega]
    refine for_range (lo := (p : Int) + 1) (n := zs.length - (p + 1)) (fun j σ H' => ∃ (fa : Addr) (us : List V) (o4 : Option V), σ = [some (vt zs), some (.ref fa), some (.int (zs.length : Int)), some (.int (p : Int)), o4, none] ∧ Same H H' ∧ H' fa = some (.lst us) ∧ TrAt H' us (lb0 zs p ++ lb1 zs p j) ∧ (lb0 zs p ++ lb1 zs p j).length ≤ 900 * p + 30 * j) ⟨fa, us, _, rfl, s1, ef, by rw [show lb1 zs p 0 = [] from rfl, List.append_nil]; exact tr, by rw [show lb1 zs p 0 = [] from rfl, List.append_nil]; omega⟩ (fun j σ H2 hj hv2 => ?_) (fun σ H2 hv2 => ?_)
    · obtain ⟨fb, us2, o4', rfl, s2, ef2, tr2, tl2⟩ := hv2
      rw [show (p : Int) + 1 + (j : Int) = ((p + 1 + j : Nat) : Int) by omega]
      generalize hq : p + 1 + j = qq at *
      refine ⟨_, rfl, _, rfl, _, _, rfl, rfl, _, rfl, _, _, rfl, ⟨by omega, by omega, by omega, by omega⟩, fun D nD => ?_⟩
      rw [show ((zs.length : Int) - ((qq : Int) + 1)).toNat = zs.length - (qq + 1) by omega]
      have k1 := same_new nD (.lst [])
      refine lc_range (lo := (qq : Int) + 1) (n := zs.length - (qq + 1)) (fun n H' => Same H2 H' ∧ ∃ vs : List V, H' D = some (.lst vs) ∧ TrAt H' vs (lb2 zs p qq n)) ⟨k1, [], upd_same, .nil⟩ (fun n H3 hn hv3 => ?_) (fun H3 hv3 => ?_)
      · obtain ⟨sm, vs, ed, trv⟩ := hv3
        have ll := trv.len
        have l2 := lb2_len zs p qq n
        rw [show (qq : Int) + 1 + (n : Int) = ((qq + 1 + n : Nat) : Int) by omega]
        refine ⟨rfl, ?_⟩
        refine ⟨_, rfl, _, rfl, _, _, _, rfl, rfl, lz, sig_at (by omega), _, rfl, _, rfl, _, _, _, rfl, rfl, lz, sig_at (by omega), _, _, rfl, rfl, _, rfl, ?_⟩
        rw [ch_lt]
        have eB := lb2_succ zs p qq n
        have hBarb : Barb zs p qq (qq + 1 + n) = (decide (zs.getD (qq + 1 + n) 0 < zs.getD p 0) && decide (zs.getD p 0 < zs.getD qq 0)) := rfl
        by_cases c1 : zs.getD (qq + 1 + n) 0 < zs.getD p 0
        · rw [decide_eq_true c1] at hBarb ⊢
          refine iteT ⟨_, rfl, _, rfl, _, _, _, rfl, rfl, lz, sig_at (by omega), _, _, rfl, rfl, _, rfl, ?_⟩
          rw [ch_lt]
          by_cases c2 : zs.getD p 0 < zs.getD qq 0
          · rw [decide_eq_true c2] at hBarb ⊢
            rw [hBarb, Bool.and_self, if_pos rfl] at eB
            refine iteT ?_
            refine ⟨_, rfl, _, rfl, _, rfl, (by show 3 ≤ sizeLine; decide), fun t2 nt2 => ?_⟩
            have k2 := same_new nt2 (.tup [.int (p : Int), .int (qq : Int), .int ((qq + 1 + n : Nat) : Int)])
            refine ⟨_, k2 _ _ ed, ?_, fun b' o e => ?_, vs ++ [.ref t2], upd_same, ?_⟩
            · rw [ll]; exact small1000 (by omega)
            · rw [upd_ne (ne_of_none e nD)]; exact k2 _ _ (sm _ _ e)
            · rw [eB]
              have keep : KeepT (upd H3 t2 (.tup [.int (p : Int), .int (qq : Int), .int ((qq + 1 + n : Nat) : Int)])) (upd (upd H3 t2 (.tup [.int (p : Int), .int (qq : Int), .int ((qq + 1 + n : Nat) : Int)])) D (.lst (vs ++ [.ref t2]))) := fun c xs e => by
                rw [upd_ne (ne_of e (k2 _ _ ed) (by intro z; cases z))]; exact e
              exact TrAt.keep keep ((trv.same k2).snoc upd_same)
          · rw [decide_eq_false c2] at hBarb ⊢
            rw [hBarb, Bool.and_false, if_neg Bool.false_ne_true, List.append_nil] at eB
            rw [eB]
            exact iteF ⟨sm, vs, ed, trv⟩
        · rw [decide_eq_false c1] at hBarb ⊢
          rw [hBarb, Bool.false_and, if_neg Bool.false_ne_true, List.append_nil] at eB
          rw [eB]
          exact iteF ⟨_, rfl, iteF ⟨sm, vs, ed, trv⟩⟩
      · obtain ⟨sm, vs, ed, trv⟩ := hv3
        have l1 := tr2.len
        have l2 := trv.len
        have l3 := lb2_len zs p qq (zs.length - (qq + 1))
        refine ⟨fb, D, _, _, rfl, rfl, sm _ _ ef2, ed, ?_, fun g ng => ?_⟩
        · rw [l1, l2]; show _ ≤ 16777216; omega
        have k3 := same_new ng (.lst (us2 ++ vs))
        have eL := lb1_succ zs p j
        rw [hq] at eL
        refine ⟨g, _, _, rfl, (s2.trans sm).trans k3, upd_same, ?_, ?_⟩
        · rw [eL, ← List.append_assoc]
          exact ((tr2.same sm).app trv).same k3
        · rw [eL, ← List.append_assoc, List.length_append]
          omega
    · obtain ⟨fb, us2, o4', rfl, s2, ef2, tr2, tl2⟩ := hv2
      rw [← lb0_succ] at tr2 tl2
      exact ⟨fb, us2, _, _, rfl, s2, ef2, tr2, by omega⟩
  · obtain ⟨fa, us, o3, o4, rfl, s1, ef, tr, tl⟩ := hv
    exact ⟨_, rfl, q fa us H1 s1 ef tr (by omega)⟩
end
/-! ### numbers of orders -/
def facN : Nat → Nat
  | 0 => 1
  | n + 1 => facN n * (n + 1)
theorem facN_pos : ∀ n, 0 < facN n
  | 0 => Nat.one_pos
  | n + 1 => Nat.mul_pos (facN_pos n) (Nat.succ_pos n)
def prodN : List Nat → Nat
  | [] => 1
  | h :: t => h * prodN t
theorem prodN_app : ∀ a b : List Nat, prodN (a ++ b) = prodN a * prodN b
  | [], b => (Nat.one_mul _).symm
  | h :: a, b => by
    show h * prodN (a ++ b) = h * prodN a * prodN b
    rw [prodN_app a b, Nat.mul_assoc]
def cho : Nat → Nat → Nat
  | _, 0 => 1
  | 0, _ + 1 => 0
  | n + 1, k + 1 => cho n k + cho n (k + 1)
theorem cho_over : ∀ n k, n < k → cho n k = 0
  | 0, 0, h => absurd h (by omega)
  | 0, k + 1, _ => rfl
  | n + 1, 0, h => absurd h (by omega)
  | n + 1, k + 1, h => by
    show cho n k + cho n (k + 1) = 0
    rw [cho_over n k (by omega), cho_over n (k + 1) (by omega)]
theorem cho_self : ∀ n, cho n n = 1
  | 0 => rfl
  | n + 1 => by
    show cho n n + cho n (n + 1) = 1
    rw [cho_self n, cho_over n (n + 1) (by omega)]
theorem cho_0 (n : Nat) : cho n 0 = 1 := by cases n <;> rfl
theorem cho_fac : ∀ n a b : Nat, a + b = n → cho (a + b) a * (facN a * facN b) = facN (a + b) := by
  intro n
  induction n with
  | zero =>
    intro a b h
    have ha : a = 0 := by omega
    have hb : b = 0 := by omega
    subst ha hb
    rfl
  | succ n ih =>
    intro a b h
    cases a with
    | zero => rw [Nat.zero_add, cho_0, Nat.one_mul]; exact Nat.one_mul _
    | succ a =>
      cases b with
      | zero => rw [Nat.add_zero, cho_self, Nat.one_mul]; exact Nat.mul_one _
      | succ b =>
        have e1 := ih a (b + 1) (by omega)
        have e2 := ih (a + 1) b (by omega)
        have es : a + 1 + (b + 1) = (a + (b + 1)) + 1 := by omega
        rw [es]
        show (cho (a + (b + 1)) a + cho (a + (b + 1)) (a + 1)) * (facN a * (a + 1) * facN (b + 1)) = facN (a + (b + 1)) * (a + (b + 1) + 1)
        have e3 : a + (b + 1) = a + 1 + b := by omega
        rw [Nat.add_mul]
        have f1 : cho (a + (b + 1)) a * (facN a * (a + 1) * facN (b + 1)) = (a + 1) * facN (a + (b + 1)) := by
          rw [← e1]
          ac_rfl
        have f2 : cho (a + (b + 1)) (a + 1) * (facN a * (a + 1) * facN (b + 1)) = (b + 1) * facN (a + (b + 1)) := by
          rw [e3, ← e2]
          show cho (a + 1 + b) (a + 1) * (facN a * (a + 1) * (facN b * (b + 1))) = (b + 1) * (cho (a + 1 + b) (a + 1) * (facN a * (a + 1) * facN b))
          ac_rfl
        rw [f1, f2, ← Nat.add_mul, Nat.mul_comm]
        refine congrArg (facN (a + (b + 1)) * ·) ?_
        omega
def B.hooks : B → List Nat
  | .nil => []
  | .node l _ r => (l.size + r.size + 1) :: (l.hooks ++ r.hooks)
theorem B.hooks_len : ∀ t : B, t.hooks.length = t.size
  | .nil => rfl
  | .node l x r => by
    show (l.hooks ++ r.hooks).length + 1 = l.size + 1 + r.size
    rw [List.length_append, l.hooks_len, r.hooks_len]
    omega
theorem B.hooks_pos : ∀ (t : B), ∀ h ∈ t.hooks, 0 < h ∧ h ≤ t.size
  | .nil, h, hh => by cases hh
  | .node l x r, h, hh => by
    show 0 < h ∧ h ≤ l.size + 1 + r.size
    rcases List.mem_cons.mp hh with rfl | hh
    · omega
    · rcases List.mem_append.mp hh with hh | hh
      · have := l.hooks_pos h hh; omega
      · have := r.hooks_pos h hh; omega
def B.num : B → Nat
  | .nil => 1
  | .node l _ r => l.num * r.num * cho (l.size + r.size) l.size
theorem B.num_hooks : ∀ t : B, t.num * prodN t.hooks = facN t.size
  | .nil => rfl
  | .node l x r => by
    have h1 := l.num_hooks
    have h2 := r.num_hooks
    have h3 := cho_fac _ l.size r.size rfl
    show l.num * r.num * cho (l.size + r.size) l.size * ((l.size + r.size + 1) * prodN (l.hooks ++ r.hooks)) = facN (l.size + 1 + r.size)
    rw [prodN_app, show l.size + 1 + r.size = (l.size + r.size) + 1 by omega]
    show _ = facN (l.size + r.size) * (l.size + r.size + 1)
    rw [← h3, ← h1, ← h2]
    ac_rfl
theorem prodN_pos : ∀ l : List Nat, (∀ h ∈ l, 0 < h) → 0 < prodN l
  | [], _ => Nat.one_pos
  | h :: l, hh => Nat.mul_pos (hh h List.mem_cons_self) (prodN_pos l fun k hk => hh k (List.mem_cons_of_mem _ hk))
theorem B.num_le (t : B) : t.num ≤ facN t.size := by
  rw [← t.num_hooks]
  exact Nat.le_mul_of_pos_right _ (prodN_pos _ fun h hh => (t.hooks_pos h hh).1)
theorem foldl_div : ∀ (l : List Nat) (m : Nat), l.foldl (· / ·) m = m / prodN l
  | [], m => (Nat.div_one m).symm
  | h :: l, m => by
    rw [List.foldl_cons, foldl_div l]
    show m / h / prodN l = m / (h * prodN l)
    rw [Nat.div_div_eq_div_mul]
theorem B.num_div (t : B) : t.hooks.foldl (· / ·) (facN t.size) = t.num := by
  rw [foldl_div, ← t.num_hooks]
  exact Nat.mul_div_cancel _ (prodN_pos _ fun h hh => (t.hooks_pos h hh).1)
theorem facN_mono : ∀ {a b : Nat}, a ≤ b → facN a ≤ facN b := by
  intro a b h
  induction h with
  | refl => exact Nat.le_refl _
  | step _ ih => exact Nat.le_trans ih (Nat.le_mul_of_pos_right _ (Nat.succ_pos _))
/-- s (s - 1) .., k of them -/
def desc (s : Nat) : Nat → Nat
  | 0 => 1
  | k + 1 => desc s k * (s - k)
theorem desc_fac (s : Nat) : ∀ k, k ≤ s → desc s k * facN (s - k) = facN s
  | 0, _ => Nat.one_mul _
  | k + 1, h => by
    rw [← desc_fac s k (by omega)]
    show desc s k * (s - k) * facN (s - (k + 1)) = desc s k * facN (s - k)
    rw [show s - k = (s - (k + 1)) + 1 by omega]
    show _ = desc s k * (facN (s - (k + 1)) * (s - (k + 1) + 1))
    ac_rfl
theorem desc_cho (a b : Nat) : desc (a + b) a = cho (a + b) a * facN a := by
  have h1 := desc_fac (a + b) a (by omega)
  rw [show a + b - a = b by omega, ← cho_fac _ a b rfl, ← Nat.mul_assoc] at h1
  exact Nat.eq_of_mul_eq_mul_right (facN_pos b) h1
def divs (m : Nat) : Nat → Nat
  | 0 => m
  | k + 1 => divs m k / (k + 1)
theorem divs_fac (m : Nat) : ∀ k, divs m k = m / facN k
  | 0 => (Nat.div_one m).symm
  | k + 1 => by
    show divs m k / (k + 1) = m / (facN k * (k + 1))
    rw [divs_fac m k, Nat.div_div_eq_div_mul]
theorem num_node (l : B) (x : Nat) (r : B) : divs (l.num * r.num * desc (l.size + r.size) l.size) l.size = (B.node l x r).num := by
  rw [divs_fac, desc_cho, ← Nat.mul_assoc]
  exact Nat.mul_div_cancel _ (facN_pos _)
theorem desc_le (s : Nat) : ∀ k, k ≤ s → desc s k ≤ facN s := fun k h => by
  rw [← desc_fac s k h]
  exact Nat.le_mul_of_pos_right _ (facN_pos _)
/-! all orders -/
def insAll (c : Nat) (o : List Nat) : List (List Nat) := (List.range (o.length + 1)).map fun k => o.take k ++ [c] ++ o.drop k
def allP (zs : List Nat) : List (List Nat) := zs.foldl (fun F c => F.flatMap (insAll c)) [[]]
theorem allP_snoc (zs : List Nat) (c : Nat) : allP (zs ++ [c]) = (allP zs).flatMap (insAll c) := by
  unfold allP
  rw [List.foldl_append]
  rfl
theorem ins_perm' (c : Nat) (o : List Nat) : ∀ p ∈ insAll c o, p.Perm (c :: o) := fun p hp => by
  obtain ⟨k, _, rfl⟩ := List.mem_map.mp hp
  have h1 : (o.take k ++ [c] ++ o.drop k).Perm ([c] ++ o.take k ++ o.drop k) := List.Perm.append_right _ List.perm_append_comm
  rw [List.append_assoc, List.append_assoc, List.take_append_drop] at h1
  rw [List.append_assoc]
  exact h1
theorem snoc_ind {P : List Nat → Prop} (h0 : P []) (hs : ∀ l c, P l → P (l ++ [c])) (l : List Nat) : P l := by
  have : ∀ m : List Nat, P m.reverse := by
    intro m
    induction m with
    | nil => exact h0
    | cons c m ih => rw [List.reverse_cons]; exact hs _ c ih
  have := this l.reverse
  rwa [List.reverse_reverse] at this
theorem allP_perm (zs : List Nat) : ∀ p ∈ allP zs, p.Perm zs := by
  induction zs using snoc_ind with
  | h0 => intro p hp; rw [List.mem_singleton.mp hp]
  | hs zs c ih =>
    intro p hp
    rw [allP_snoc] at hp
    obtain ⟨o, ho, hp⟩ := List.mem_flatMap.mp hp
    exact (ins_perm' c o p hp).trans (((ih o ho).cons c).trans (List.perm_append_comm (l₁ := [c])))
theorem allP_all (zs : List Nat) : ∀ p : List Nat, p.Perm zs → p ∈ allP zs := by
  induction zs using snoc_ind with
  | h0 => intro p hp; rw [hp.eq_nil]; exact List.mem_singleton.mpr rfl
  | hs zs c ih =>
    intro p hp
    have hc : c ∈ p := hp.mem_iff.mpr (List.mem_append_right _ (List.mem_singleton.mpr rfl))
    obtain ⟨a, b, rfl⟩ := List.append_of_mem hc
    have h1 : (c :: (a ++ b)).Perm (c :: zs) := (List.perm_middle.symm.trans hp).trans (List.perm_append_comm (l₂ := [c]))
    rw [allP_snoc]
    refine List.mem_flatMap.mpr ⟨a ++ b, ih _ h1.cons_inv, List.mem_map.mpr ⟨a.length, List.mem_range.mpr (by rw [List.length_append]; omega), ?_⟩⟩
    rw [List.take_left, List.drop_left, List.append_assoc]
    rfl
def B.mapT (g : Nat → Nat) : B → B
  | .nil => .nil
  | .node l x r => .node (l.mapT g) (g x) (r.mapT g)
theorem B.mapT_size (g : Nat → Nat) : ∀ t : B, (t.mapT g).size = t.size
  | .nil => rfl
  | .node l x r => by show (l.mapT g).size + 1 + (r.mapT g).size = _; rw [l.mapT_size, r.mapT_size]; rfl
theorem B.mapT_num (g : Nat → Nat) : ∀ t : B, (t.mapT g).num = t.num
  | .nil => rfl
  | .node l x r => by
    show (l.mapT g).num * (r.mapT g).num * cho ((l.mapT g).size + (r.mapT g).size) (l.mapT g).size = _
    rw [l.mapT_num, r.mapT_num, B.mapT_size, B.mapT_size]
    rfl
theorem B.mapT_ins (g : Nat → Nat) (c : Nat) : ∀ t : B, (∀ d ∈ t.pre, (c < d ↔ g c < g d)) → (t.ins c).mapT g = (t.mapT g).ins (g c)
  | .nil, _ => rfl
  | .node l x r, h => by
    have hx := h x List.mem_cons_self
    have h1 := l.mapT_ins g c fun d hd => h d (List.mem_cons_of_mem _ (List.mem_append_left _ hd))
    have h2 := r.mapT_ins g c fun d hd => h d (List.mem_cons_of_mem _ (List.mem_append_right _ hd))
    show (if c < x then B.node (l.ins c) x r else .node l x (r.ins c)).mapT g = if g c < g x then B.node ((l.mapT g).ins (g c)) (g x) (r.mapT g) else .node (l.mapT g) (g x) ((r.mapT g).ins (g c))
    by_cases hc : c < x
    · rw [if_pos hc, if_pos (hx.mp hc), ← h1]; rfl
    · rw [if_neg hc, if_neg (fun z => hc (hx.mpr z)), ← h2]; rfl
theorem gr_mem' (zs : List Nat) (d : Nat) : d ∈ (gr zs).pre ↔ d ∈ zs := (gr_perm zs).mem_iff
theorem gr_snoc (zs : List Nat) (c : Nat) : gr (zs ++ [c]) = (gr zs).ins c := by
  unfold gr
  rw [List.foldl_append]
  rfl
theorem gr_map (g : Nat → Nat) (S : List Nat) (mono : ∀ c ∈ S, ∀ d ∈ S, (c < d ↔ g c < g d)) (zs : List Nat) (h : ∀ c ∈ zs, c ∈ S) : gr (zs.map g) = (gr zs).mapT g := by
  induction zs using snoc_ind with
  | h0 => rfl
  | hs zs c ih =>
    have hc := h c (List.mem_append_right _ (List.mem_singleton.mpr rfl))
    have hz : ∀ d ∈ zs, d ∈ S := fun d hd => h d (List.mem_append_left _ hd)
    rw [List.map_append]
    show gr (zs.map g ++ [g c]) = _
    rw [gr_snoc, gr_snoc, B.mapT_ins g c (gr zs) fun d hd => mono c hc d (hz d ((gr_mem' zs d).mp hd)), ih hz]
theorem insAll_map (g : Nat → Nat) (c : Nat) (o : List Nat) : insAll (g c) (o.map g) = (insAll c o).map (List.map g) := by
  unfold insAll
  rw [List.length_map, List.map_map]
  refine List.map_congr_left fun k _ => ?_
  show List.take k (o.map g) ++ [g c] ++ List.drop k (o.map g) = (o.take k ++ [c] ++ o.drop k).map g
  rw [List.map_append, List.map_append, List.map_take, List.map_drop]
  rfl
theorem allP_map (g : Nat → Nat) (zs : List Nat) : allP (zs.map g) = (allP zs).map (List.map g) := by
  induction zs using snoc_ind with
  | h0 => rfl
  | hs zs c ih =>
    rw [List.map_append]
    show allP (zs.map g ++ [g c]) = _
    rw [allP_snoc, allP_snoc, ih, List.flatMap_map, List.map_flatMap]
    refine congrArg (fun f => (allP zs).flatMap f) (funext fun o => ?_)
    exact insAll_map g c o
theorem mapT_inj (g : Nat → Nat) (S : List Nat) (inj : ∀ c ∈ S, ∀ d ∈ S, g c = g d → c = d) : ∀ (t u : B), (∀ c ∈ t.pre, c ∈ S) → (∀ c ∈ u.pre, c ∈ S) → t.mapT g = u.mapT g → t = u
  | .nil, .nil, _, _, _ => rfl
  | .nil, .node _ _ _, _, _, h => by cases h
  | .node _ _ _, .nil, _, _, h => by cases h
  | .node l x r, .node l' x' r', h1, h2, h => by
    injection h with e1 e2 e3
    rw [mapT_inj g S inj l l' (fun c hc => h1 c (List.mem_cons_of_mem _ (List.mem_append_left _ hc))) (fun c hc => h2 c (List.mem_cons_of_mem _ (List.mem_append_left _ hc))) e1,
      mapT_inj g S inj r r' (fun c hc => h1 c (List.mem_cons_of_mem _ (List.mem_append_right _ hc))) (fun c hc => h2 c (List.mem_cons_of_mem _ (List.mem_append_right _ hc))) e3,
      inj x (h1 x List.mem_cons_self) x' (h2 x' List.mem_cons_self) e2]
def B.beq : B → B → Bool
  | .nil, .nil => true
  | .node l x r, .node l' x' r' => Nat.beq x x' && (l.beq l' && r.beq r')
  | _, _ => false
theorem B.beq_eq : ∀ t u : B, t.beq u = decide (t = u)
  | .nil, .nil => by rw [decide_eq_true rfl]; rfl
  | .nil, .node _ _ _ => by rw [decide_eq_false (by simp)]; rfl
  | .node _ _ _, .nil => by rw [decide_eq_false (by simp)]; rfl
  | .node l x r, .node l' x' r' => by
    show (Nat.beq x x' && (l.beq l' && r.beq r')) = _
    rw [l.beq_eq l', r.beq_eq r']
    have e : Nat.beq x x' = decide (x = x') := by
      by_cases h : x = x'
      · subst h; rw [decide_eq_true rfl]; exact Nat.beq_refl x
      · rw [decide_eq_false h]
        cases hb : Nat.beq x x' with
        | false => rfl
        | true => exact absurd (Nat.eq_of_beq_eq_true hb) h
    rw [e]
    by_cases h1 : x = x' <;> by_cases h2 : l = l' <;> by_cases h3 : r = r' <;> simp [h1, h2, h3]
def many (zs : List Nat) : Nat := ((allP zs).filter fun p => (gr p).beq (gr zs)).length
theorem few_orders : ∀ n, n ≤ 5 → ∀ rs ∈ allP (List.range n), many rs = (gr rs).num := by
  have h : ((List.range 6).all fun n => (allP (List.range n)).all fun rs => Nat.beq (many rs) (gr rs).num) = true := by decide +kernel
  intro n hn rs hr
  have h1 := List.all_eq_true.mp h n (List.mem_range.mpr (by omega))
  exact Nat.eq_of_beq_eq_true (List.all_eq_true.mp h1 rs hr)
theorem nodup_le {α : Type} [DecidableEq α] : ∀ {l m : List α}, l.Nodup → (∀ x ∈ l, x ∈ m) → l.length ≤ m.length
  | [], m, _, _ => Nat.zero_le _
  | x :: l, m, nd, h => by
    obtain ⟨n1, n2⟩ := List.nodup_cons.mp nd
    have hx := h x List.mem_cons_self
    have := nodup_le (l := l) (m := m.erase x) n2 fun y hy => (List.mem_erase_of_ne (fun z : y = x => n1 (z ▸ hy))).mpr (h y (List.mem_cons_of_mem _ hy))
    rw [List.length_erase_of_mem hx] at this
    have : 0 < m.length := List.length_pos_of_mem hx
    rw [List.length_cons]
    omega
theorem perm_of_le {α : Type} [DecidableEq α] : ∀ {l m : List α}, l.Nodup → (∀ x ∈ l, x ∈ m) → m.length ≤ l.length → l.Perm m
  | [], m, _, _, h => by
    have : m = [] := List.length_eq_zero_iff.mp (by simpa using h)
    rw [this]
  | x :: l, m, nd, h, hl => by
    obtain ⟨n1, n2⟩ := List.nodup_cons.mp nd
    have hx := h x List.mem_cons_self
    have e := List.length_erase_of_mem hx
    rw [List.length_cons] at hl
    have := perm_of_le (l := l) (m := m.erase x) n2 (fun y hy => (List.mem_erase_of_ne (fun z : y = x => n1 (z ▸ hy))).mpr (h y (List.mem_cons_of_mem _ hy))) (by omega)
    exact (this.cons x).trans (List.perm_cons_erase hx).symm
theorem many_num {zs : List Nat} (nd : zs.Nodup) (h5 : zs.length ≤ 5) : many zs = (gr zs).num := by
  let g : Nat → Nat := fun c => (zs.filter fun d => decide (d < c)).length
  have gle : ∀ c ∈ zs, ∀ d ∈ zs, c < d → g c < g d := fun c hc d hd hlt => by
    have n1 : (c :: zs.filter fun e => decide (e < c)).Nodup := List.nodup_cons.mpr ⟨fun z => by have := of_decide_eq_true (List.mem_filter.mp z).2; omega, nd.sublist List.filter_sublist⟩
    have := nodup_le n1 (m := zs.filter fun e => decide (e < d)) fun e he => by
      rcases List.mem_cons.mp he with rfl | he
      · exact List.mem_filter.mpr ⟨hc, decide_eq_true hlt⟩
      · obtain ⟨a, b⟩ := List.mem_filter.mp he
        have := of_decide_eq_true b
        exact List.mem_filter.mpr ⟨a, decide_eq_true (by omega)⟩
    exact this
  have mono : ∀ c ∈ zs, ∀ d ∈ zs, (c < d ↔ g c < g d) := fun c hc d hd => by
    constructor
    · exact gle c hc d hd
    · intro h
      rcases Nat.lt_trichotomy c d with e | e | e
      · exact e
      · rw [e] at h; omega
      · have := gle d hd c hc e; omega
  have inj : ∀ c ∈ zs, ∀ d ∈ zs, g c = g d → c = d := fun c hc d hd e => by
    rcases Nat.lt_trichotomy c d with h | h | h
    · have := gle c hc d hd h; omega
    · exact h
    · have := gle d hd c hc h; omega
  have glt : ∀ c ∈ zs, g c < zs.length := fun c hc => by
    have n1 : (c :: zs.filter fun e => decide (e < c)).Nodup := List.nodup_cons.mpr ⟨fun z => by have := of_decide_eq_true (List.mem_filter.mp z).2; omega, nd.sublist List.filter_sublist⟩
    have := nodup_le n1 (m := zs) fun e he => by
      rcases List.mem_cons.mp he with rfl | he
      · exact hc
      · exact (List.mem_filter.mp he).1
    exact this
  have pr : (zs.map g).Perm (List.range zs.length) := by
    refine perm_of_le ?_ ?_ ?_
    · rw [List.nodup_iff_pairwise_ne, List.pairwise_map]
      exact List.Pairwise.imp_of_mem (fun {a b} ha hb (h : a ≠ b) e => h (inj a ha b hb e)) nd
    · intro x hx
      obtain ⟨c, hc, rfl⟩ := List.mem_map.mp hx
      exact List.mem_range.mpr (glt c hc)
    · rw [List.length_map, List.length_range]; exact Nat.le_refl _
  have key := few_orders zs.length h5 (zs.map g) (allP_all _ _ pr)
  unfold many at key ⊢
  have eg : gr (zs.map g) = (gr zs).mapT g := gr_map g zs mono zs fun c hc => hc
  rw [allP_map, List.filter_map, List.length_map, eg, B.mapT_num] at key
  rw [← key]
  refine congrArg List.length (List.filter_congr fun p hp => ?_)
  show _ = (gr (p.map g)).beq ((gr zs).mapT g)
  have pp := allP_perm zs p hp
  have hpz : ∀ c ∈ p, c ∈ zs := fun c hc => pp.mem_iff.mp hc
  rw [gr_map g zs mono p hpz, B.beq_eq, B.beq_eq]
  by_cases e : gr p = gr zs
  · rw [e, decide_eq_true rfl, decide_eq_true rfl]
  · rw [decide_eq_false e, decide_eq_false fun z => e (mapT_inj g zs inj _ _ (fun c hc => hpz c ((gr_mem' p c).mp hc)) (fun c hc => (gr_mem' zs c).mp hc) z)]
/-! ### sorted of any number of texts -/
def rSortedSA (K : PySem.W.Frag) : List V → Hp → VK → Prop := fun vs H Q => ∃ (a : Addr) (xs : List Str), vs = [V.ref a] ∧ SqL K H a (xs.map V.str) ∧
  ∀ (ys : List Str) (p : Addr), ys.Perm xs → sortedS ys = true → H p = none → Q (.ref p) (upd H p (.lst (ys.map V.str)))
theorem cr_sortedSA {X : Cx} : CallR X (.builtin "sorted") (rSortedSA X.K) := by
  intro pins s σ H vs us Q I r h
  obtain ⟨a, xs, rfl, hs, q⟩ := h
  obtain ⟨its, rv, hl, hz⟩ := I.list hs
  rw [Vals.ref1 r]
  have hlen0 := rv.length
  rw [List.length_map] at hlen0
  rw [List.length_map] at hz
  refine PyProof.Rows.sorted_strsAny hl.isList rv.strs (by rw [← hlen0]; exact hz) fun out ys h1 h2 h3 => ?_
  obtain ⟨ep, he'⟩ := PyProof.Rows.sortedAll_at s.heap its out
  have hlen : (ys.map V.str).length ≤ sizeLine := by rw [List.length_map, h2.length_eq]; exact hz
  exact ⟨.ref _, upd H (s.heap.objs.size + 1) (.lst (ys.map V.str)), I.laid (t' := s.toks) (fun _ _ => PyProof.Rows.sortedAll_old) (Nat.le_succ _) ⟨hlen, out.toList, ep, vals_of_strs h1, he'⟩, rfl, q ys _ h2 h3 (I.hok.fresh (Nat.le_succ _))⟩
/-! ### sizes_in, count_together, count_orders -/
theorem lc2_it {J : It} {n : Nat} {G : Hp → Prop} {Y : Nat → Hp → V → Hp → Prop} (w : Walk J n G Y) {g : TG} {tt : TT} {wi1 : TI} {g1 : TG} {tt1 : TT} {te : TE} {vs vs1 : List Nat} {σ : L2.St} {H1 : Hp} {D : Addr} {Qd : Hp → Prop} (Pv : Nat → Hp → Prop) (h0 : Pv 0 (upd H1 D (.lst []))) (hG : ∀ i H, i ≤ n → Pv i H → G H)
    (hs : ∀ i x H H', i < n → Pv i H → Y i H x H' → g x (wipe σ vs) H' fun σ2 H2 => wipe σ2 vs = wipe σ vs ∧ tt σ2 H2 fun b H3 =>
      if b = true then wi1 σ2 H3 fun J1 H4 => ∃ W1 : Nat → Nat → Hp → Prop, (∃ m, W1 0 m H4) ∧ ∀ j k H, W1 j k H →
        (J1.stop j H ∧ Pv (i + 1) H) ∨ (J1.go j H ∧ ∃ Nx1 : Hp → Prop, (∀ H', Nx1 H' → ∃ k', k' < k ∧ W1 (j + 1) k' H') ∧ ∀ x H', J1.yld j H x H' → g1 x (wipe σ2 vs1) H' fun σ3 H5 => wipe σ3 vs1 = wipe σ2 vs1 ∧ tt1 σ3 H5 fun b H6 =>
          if b = true then te σ3 H6 fun y H7 => ∃ acc, H7 D = some (.lst acc) ∧ acc.length < sizeLine ∧ Nx1 (upd H7 D (.lst (acc ++ [y]))) else Nx1 H6)
      else Pv (i + 1) H3) (hd : ∀ H, Pv n H → Qd H) :
    ∃ W : Nat → Nat → Hp → Prop, (∃ m, W 0 m (upd H1 D (.lst []))) ∧ ∀ i m H, W i m H →
      (J.stop i H ∧ Qd H) ∨ (J.go i H ∧ ∃ Nx : Hp → Prop, (∀ H', Nx H' → ∃ m', m' < m ∧ W (i + 1) m' H') ∧ ∀ x H', J.yld i H x H' → g x (wipe σ vs) H' fun σ2 H2 => wipe σ2 vs = wipe σ vs ∧ tt σ2 H2 fun b H3 =>
        if b = true then wi1 σ2 H3 fun J1 H4 => ∃ W1 : Nat → Nat → Hp → Prop, (∃ m, W1 0 m H4) ∧ ∀ j k H, W1 j k H →
          (J1.stop j H ∧ Nx H) ∨ (J1.go j H ∧ ∃ Nx1 : Hp → Prop, (∀ H', Nx1 H' → ∃ k', k' < k ∧ W1 (j + 1) k' H') ∧ ∀ x H', J1.yld j H x H' → g1 x (wipe σ2 vs1) H' fun σ3 H5 => wipe σ3 vs1 = wipe σ2 vs1 ∧ tt1 σ3 H5 fun b H6 =>
            if b = true then te σ3 H6 fun y H7 => ∃ acc, H7 D = some (.lst acc) ∧ acc.length < sizeLine ∧ Nx1 (upd H7 D (.lst (acc ++ [y]))) else Nx1 H6)
        else Nx H3) := by
  refine ⟨fun i m H => m = n - i ∧ i ≤ n ∧ Pv i H, ⟨n, by simp, Nat.zero_le _, h0⟩, ?_⟩
  rintro i m H ⟨rfl, hi, p⟩
  have q := hG i H hi p
  by_cases hlt : i < n
  · exact .inr ⟨w.goes i H hlt q, Pv (i + 1), fun H' p' => ⟨n - (i + 1), by omega, rfl, hlt, p'⟩, fun x H' y => hs i x H H' hlt p (w.yields i H x H' hlt q y)⟩
  · have e : i = n := by omega
    subst e
    exact .inl ⟨w.stops H q, hd H p⟩
theorem in_it {J : It} {n : Nat} {G : Hp → Prop} {Y : Nat → Hp → V → Hp → Prop} (w : Walk J n G Y) {g : TG} {tt : TT} {te : TE} {vs : List Nat} {σ : L2.St} {H4 : Hp} {D : Addr} {Nx : Hp → Prop} (Pv : Nat → Hp → Prop) (h0 : Pv 0 H4) (hG : ∀ i H, i ≤ n → Pv i H → G H)
    (hs : ∀ i x H H', i < n → Pv i H → Y i H x H' → g x (wipe σ vs) H' fun σ2 H2 => wipe σ2 vs = wipe σ vs ∧ tt σ2 H2 fun b H3 =>
      if b = true then te σ2 H3 fun y H4 => ∃ acc, H4 D = some (.lst acc) ∧ acc.length < sizeLine ∧ Pv (i + 1) (upd H4 D (.lst (acc ++ [y]))) else Pv (i + 1) H3) (hd : ∀ H, Pv n H → Nx H) :
    ∃ W : Nat → Nat → Hp → Prop, (∃ m, W 0 m H4) ∧ ∀ i m H, W i m H →
      (J.stop i H ∧ Nx H) ∨ (J.go i H ∧ ∃ Nx1 : Hp → Prop, (∀ H', Nx1 H' → ∃ m', m' < m ∧ W (i + 1) m' H') ∧ ∀ x H', J.yld i H x H' → g x (wipe σ vs) H' fun σ2 H2 => wipe σ2 vs = wipe σ vs ∧ tt σ2 H2 fun b H3 =>
        if b = true then te σ2 H3 fun y H4 => ∃ acc, H4 D = some (.lst acc) ∧ acc.length < sizeLine ∧ Nx1 (upd H4 D (.lst (acc ++ [y]))) else Nx1 H3) := by
  refine ⟨fun i m H => m = n - i ∧ i ≤ n ∧ Pv i H, ⟨n, by simp, Nat.zero_le _, h0⟩, ?_⟩
  rintro i m H ⟨rfl, hi, p⟩
  have q := hG i H hi p
  by_cases hlt : i < n
  · exact .inr ⟨w.goes i H hlt q, Pv (i + 1), fun H' p' => ⟨n - (i + 1), by omega, rfl, hlt, p'⟩, fun x H' y => hs i x H H' hlt p (w.yields i H x H' hlt q y)⟩
  · have e : i = n := by omega
    subst e
    exact .inl ⟨w.stops H q, hd H p⟩
abbrev vn (n : Nat) : V := .int (n : Int)
/-- trees at vs -/
inductive TsAt (H : Hp) : List V → List B → Prop
  | nil : TsAt H [] []
  | cons {v : V} {t : B} {vs : List V} {ts : List B} : BAt H v t → TsAt H vs ts → TsAt H (v :: vs) (t :: ts)
theorem TsAt.same {H H' : Hp} (k : Same H H') {vs : List V} {ts : List B} (h : TsAt H vs ts) : TsAt H' vs ts := by
  induction h with
  | nil => exact .nil
  | cons a _ ih => exact .cons (a.same k) ih
theorem TsAt.len {H : Hp} {vs : List V} {ts : List B} (h : TsAt H vs ts) : vs.length = ts.length := by
  induction h with
  | nil => rfl
  | cons _ _ ih => rw [List.length_cons, List.length_cons, ih]
theorem TsAt.get {H : Hp} {vs : List V} {ts : List B} (h : TsAt H vs ts) : ∀ {i : Nat} {v : V}, vs[i]? = some v → ∃ t, ts[i]? = some t ∧ BAt H v t := by
  induction h with
  | nil => intro i v e; simp at e
  | cons a _ ih =>
    intro i v e
    cases i with
    | zero => cases e; exact ⟨_, rfl, a⟩
    | succ i => exact ih e
def hooksL (ts : List B) : List Nat := ts.flatMap B.hooks
def together (ts : List B) : Nat := (hooksL ts).foldl (· / ·) (facN (hooksL ts).length)
theorem together_one (t : B) : together [t] = t.num := by
  unfold together hooksL
  rw [List.flatMap_cons, List.flatMap_nil, List.append_nil, B.hooks_len, B.num_div]
def spSizesIn (N : Nat) : Sp := fun vs H Q _ => ∃ (v : V) (t : B), vs = [v] ∧ BAt H v t ∧ t.size < N ∧ t.size ≤ 500 ∧ ∀ (p : Addr) (H' : Hp), Same H H' → H p = none → H' p = some (.lst (t.hooks.map vn)) → Q (.ref p) H'
def spTogether (K : PySem.W.Frag) : Sp := fun vs H Q _ => ∃ (a : Addr) (us : List V) (ts : List B), vs = [.ref a] ∧ SqL K H a us ∧ TsAt H us ts ∧ (hooksL ts).length ≤ 15 ∧ ∀ (H' : Hp), Same H H' → Q (vn (together ts)) H'
theorem hooksL_pos (ts : List B) : ∀ h ∈ hooksL ts, 0 < h := fun h hh => by
  obtain ⟨t, _, h2⟩ := List.mem_flatMap.mp hh
  exact (t.hooks_pos h h2).1
theorem hooksL_snoc (ts : List B) (t : B) : hooksL (ts ++ [t]) = hooksL ts ++ t.hooks := by
  unfold hooksL
  rw [List.flatMap_append, List.flatMap_cons, List.flatMap_nil, List.append_nil]
theorem hooksL_take {ts : List B} (k : Nat) : (hooksL (ts.take k)).length ≤ (hooksL ts).length := by
  have h : hooksL ts = hooksL (ts.take k) ++ hooksL (ts.drop k) := by
    unfold hooksL
    rw [← List.flatMap_append, List.take_append_drop]
  rw [h, List.length_append]
  omega
theorem hook_le {ts : List B} {h : Nat} (hh : h ∈ hooksL ts) : h ≤ (hooksL ts).length := by
  obtain ⟨t, h1, h2⟩ := List.mem_flatMap.mp hh
  have := (t.hooks_pos h h2).2
  have l : t.hooks.length ≤ (hooksL ts).length := by
    obtain ⟨a, b, e⟩ := List.append_of_mem h1
    rw [e]
    unfold hooksL
    rw [List.flatMap_append, List.flatMap_cons, List.length_append, List.length_append]
    omega
  rw [B.hooks_len] at l
  omega
theorem fac15 {n : Nat} (h : n ≤ 15) : facN n ≤ 1307674368000 := Nat.le_trans (facN_mono h) (by decide)
theorem foldl_div_le : ∀ (l : List Nat) (m : Nat), l.foldl (· / ·) m ≤ m
  | [], m => Nat.le_refl _
  | h :: l, m => Nat.le_trans (foldl_div_le l (m / h)) (Nat.div_le_self _ _)
theorem take_nextG {α : Type} {zs : List α} {i : Nat} {c : α} (h : zs[i]? = some c) : zs.take (i + 1) = zs.take i ++ [c] := by
  rw [List.take_add_one, h]
  rfl
section
variable {P : Program} {w : World} {K : PySem.W.Frag} {mg : Str → Option Value} {base : Heap} {f : Addr} {fd : FuncData}
theorem ok_sizesIn (F : Fun K "sizes_in" "sizes_in" s_sizes_in f fd) (M : Mgs mg) (b : Binds K fd ["tree"] []) (g : mg "sizes_in" = some (.ref f)) : ∀ N : Nat, FnOk P w K mg base CX0 N f fd ["tree"] (spSizesIn N)
  | 0 => by
    have no : ∀ vs H Q E, ¬ spSizesIn 0 vs H Q E := fun vs H Q E h => by
      obtain ⟨v, t, _, _, h1, _⟩ := h
      omega
    exact ⟨fun vs H Q E h => absurd h (no vs H Q E), fun A outer s H args us vs Q E _ _ _ _ h => absurd h (no vs H Q E)⟩
  | N + 1 => by
    have Dself : Df P w K mg base N "sizes_in" ["tree"] (spSizesIn N) := ⟨f, fd, ok_sizesIn F M b g N, b, F.kp, g⟩
    refine F.ok sc_sizes_in (fun vs H Q E h => ?_) (fun cdv A outer s H vs Q E hr h => ?_)
    · obtain ⟨v, t, rfl, _⟩ := h
      rfl
    obtain ⟨v, t, rfl, hv, hn, hz, q⟩ := h
    refine ⟨_, (pss_cons (ps_if (pt_cmpR op_isN (pv 0) pe_non (nomark _))
      (pss_one (ps_ret (pe_lst pa_nil))) pss_nil)
    (pss_cons (ps_asg (pv 0) (pg_tup rfl (pgs_cons (pg_name (i := 1) sc_sizes_in.nd rfl (.inl rfl)) (pgs_cons (pg_name (i := 2) sc_sizes_in.nd rfl (.inl rfl)) (pgs_cons (pg_name (i := 3) sc_sizes_in.nd rfl (.inl rfl)) pgs_nil)))))
    (pss_cons (ps_set (i := 4) sc_sizes_in.nd rfl (.inl rfl) (pe_op op_cat (pe_call Dself.ok (hr.mono (by omega)) rfl Dself.g Dself.kp Dself.b .nil pass0 (pa_cons (pv 1) pa_nil)) (pe_call Dself.ok (hr.mono (by omega)) rfl Dself.g Dself.kp Dself.b .nil pass0 (pa_cons (pv 3) pa_nil))))
    (pss_one (ps_ret (pe_lst (pa_cons (pe_op op_add (pe_callB call_len_seq rfl M.len PySem.boot_len (pa_cons (pv 4) pa_nil)) pe_int) (StX.pa_star (pv 4) pa_nil)))))))), ?_⟩
    rcases hv.inv with ⟨rfl, rfl⟩ | ⟨a, l, r, x, tl, tr, rfl, rfl, ea, hl, hr'⟩
    · refine ⟨_, rfl, rfl, _, rfl, iteT ⟨(by show 0 ≤ sizeLine; decide), fun p np => ?_⟩⟩
      exact q p _ (same_new np _) np upd_same
    · have sz : tl.size + 1 + tr.size < N + 1 := hn
      have sz2 : tl.size + 1 + tr.size ≤ 500 := hz
      refine ⟨_, rfl, rfl, _, rfl, iteF ?_⟩
      refine ⟨_, rfl, a, _, rfl, SqT.of ea, rfl, _, _, rfl, _, _, rfl, _, _, rfl, rfl, ?_⟩
      refine ⟨_, rfl, l, tl, rfl, hl, by omega, by omega, fun p1 H1 s1 n1 e1 => ?_⟩
      refine ⟨_, rfl, r, tr, rfl, hr'.same s1, by omega, by omega, fun p2 H2 s2 n2 e2 => ?_⟩
      have h1 := tl.hooks_len
      have h2 := tr.hooks_len
      refine ⟨p1, p2, _, _, rfl, rfl, s2 _ _ e1, e2, small (by rw [List.length_map, List.length_map]; omega), fun p3 n3 => ?_⟩
      have k3 := same_new n3 (.lst (tl.hooks.map vn ++ tr.hooks.map vn))
      have e3 := upd_same (H := H2) (a := p3) (o := .lst (tl.hooks.map vn ++ tr.hooks.map vn))
      have s3 := (s1.trans s2).trans k3
      generalize upd H2 p3 (.lst (tl.hooks.map vn ++ tr.hooks.map vn)) = H3 at e3 s3 ⊢
      refine ⟨_, rfl, p3, _, rfl, .inl (SqL.of e3), _, _, rfl, rfl, _, rfl, p3, _, rfl, .inr (SqL.of e3), ?_⟩
      refine ⟨small ?_, fun p4 n4 => ?_⟩
      · rw [List.length_cons, List.length_append, List.length_append, List.length_map, List.length_map, List.length_nil]; omega
      have e5 : (fun i j : Int => V.int (i + j)) (((tl.hooks.map vn ++ tr.hooks.map vn).length : Nat) : Int) 1 :: ((tl.hooks.map vn ++ tr.hooks.map vn) ++ []) = (B.node tl x tr).hooks.map vn := by
        show _ = ((tl.size + tr.size + 1) :: (tl.hooks ++ tr.hooks)).map vn
        rw [List.append_nil, List.map_cons, List.map_append]
        refine congrArg (fun z => V.int z :: (tl.hooks.map vn ++ tr.hooks.map vn)) ?_
        rw [List.length_append, List.length_map, List.length_map, h1, h2]
        omega
      have k4 := same_new n4 (.lst ((fun i j : Int => V.int (i + j)) (((tl.hooks.map vn ++ tr.hooks.map vn).length : Nat) : Int) 1 :: ((tl.hooks.map vn ++ tr.hooks.map vn) ++ [])))
      exact q p4 _ (s3.trans k4) (s3.free n4) (upd_same.trans (congrArg (fun z => some (HO.lst z)) e5))
theorem ok_together (F : Fun K "count_together" "count_together" s_count_together f fd) (M : Mgs mg) (Dsizes_in : Df P w K mg base 20 "sizes_in" ["tree"] (spSizesIn 20)) : FnOk P w K mg base CX0 21 f fd ["parts"] (spTogether K) := by
  refine F.ok sc_count_together (fun vs H Q E h => ?_) (fun cdv A outer s H vs Q E hr h => ?_)
  · obtain ⟨a, us, ts, rfl, _⟩ := h
    rfl
  obtain ⟨a, us, ts, rfl, ea, ta, h15, q⟩ := h
  refine ⟨_, (pss_cons (ps_setLc2 (i := 3) (own := [("part", 1), ("size", 2)]) (vs1 := [2]) (g := gName 1) (tt := tYes) (g1 := gName 2) (tt1 := tYes) (by rfl) sc_count_together.nd rfl rfl (sw_true rfl rfl rfl (by decide +kernel)) (pi_list (pv 0)) (blkOk_by (N := ["parts", "part", "size", "sizes", "orders", "at"]) (sc := defScope s_count_together) (by decide +kernel)) (by decide) (fun _ _ _ _ _ => (pg_name (i := 1) sc_count_together.nd rfl (.inl rfl))) (fun _ _ _ _ _ => pts_nil) (fun _ _ _ _ _ => (show PI _ _ _ (iList K _) from pi_list (pe_call Dsizes_in.ok (hr.mono (by omega)) rfl Dsizes_in.g Dsizes_in.kp Dsizes_in.b .nil pass0 (pa_cons (pv 1) pa_nil)))) (fun _ _ _ _ _ => (pg_name (i := 2) sc_count_together.nd rfl (.inl rfl))) (fun _ _ _ _ _ => pts_nil) (fun _ _ _ _ _ => (pv 2)))
    (pss_cons (ps_set (i := 4) sc_count_together.nd rfl (.inl rfl) pe_int)
    (pss_cons (ps_for PassesOwn.never rfl (pi_range1 rfl M.range (pa_cons (pe_callB call_len_seq rfl M.len PySem.boot_len (pa_cons (pv 3) pa_nil)) pa_nil)) (pg_name (i := 5) sc_count_together.nd rfl (.inl rfl))
      (pss_one (ps_aug (i := 4) sc_count_together.nd rfl (.inl rfl) (pe_op op_add (pv 5) pe_int) (show PIp _ .Mult _ from iop_mul))))
    (pss_cons (ps_for PassesOwn.never rfl (pi_list (pv 3)) (pg_name (i := 2) sc_count_together.nd rfl (.inl rfl))
      (pss_one (ps_aug (i := 4) sc_count_together.nd rfl (.inl rfl) (pv 2) (show PIp _ .FloorDiv _ from iop_fdiv))))
    (pss_one (ps_ret (pv 4))))))), ?_⟩
  refine ⟨_, rfl, a, rfl, ⟨_, ea⟩, fun D nD => ?_⟩
  have kD := same_new nD (.lst [])
  have tl := ta.len
  refine lc2_it (walk_list (K := K) (a := a) (xs := us)) (fun i H' => Same H H' ∧ H' D = some (.lst ((hooksL (ts.take i)).map vn))) ⟨kD, upd_same⟩ (fun i H' _ hp => hp.1.seq ea) (fun i x H1 H1' hi hp hy => ?_) (fun H1 hp => ?_)
  · obtain ⟨s1, eD⟩ := hp
    obtain ⟨rfl, hx⟩ := hy
    obtain ⟨t, ht, hat⟩ := ta.get hx
    have tz : t.size ≤ 15 := by
      have := hooksL_take (ts := ts) (i + 1)
      rw [take_nextG ht, hooksL_snoc, List.length_append, B.hooks_len] at this
      omega
    refine ⟨rfl, kept ?_⟩
    refine ⟨_, rfl, x, t, rfl, hat.same s1, by omega, by omega, fun p H2 s2 np e2 => ⟨p, rfl, ⟨_, SqL.of e2⟩, ?_⟩⟩
    have npD : p ≠ D := Ne.symm (ne_of_none eD np)
    refine in_it (walk_list (K := K) (a := p) (xs := t.hooks.map vn)) (fun j H' => Same H H' ∧ H' p = some (.lst (t.hooks.map vn)) ∧ H' D = some (.lst ((hooksL (ts.take i)).map vn ++ (t.hooks.map vn).take j))) ⟨s1.trans s2, e2, by rw [List.take_zero, List.append_nil]; exact s2 _ _ eD⟩ (fun j H' _ hp => SqL.of hp.2.1) (fun j y H3 H3' hj hp hy => ?_) (fun H3 hp => ?_)
    · obtain ⟨s3, e3, eD3⟩ := hp
      obtain ⟨rfl, hy⟩ := hy
      have hl1 := hooksL_take (ts := ts) i
      have hl2 := t.hooks_len
      refine ⟨rfl, kept ⟨_, rfl, _, eD3, ?_, fun b o e => ?_, ?_, ?_⟩⟩
      · rw [List.length_append, List.length_map, List.length_take, List.length_map]; exact small1000 (by omega)
      · rw [upd_ne (ne_of_none e nD)]; exact s3 _ _ e
      · rw [upd_ne npD]; exact e3
      · rw [upd_same, take_nextG hy, List.append_assoc]
    · obtain ⟨s3, e3, eD3⟩ := hp
      rw [List.take_of_length_le (Nat.le_refl _), ← List.map_append, ← hooksL_snoc, ← take_nextG ht] at eD3
      exact ⟨s3, eD3⟩
  obtain ⟨s1, eD⟩ := hp
  rw [tl, List.take_length] at eD
  refine ⟨_, rfl, D, _, rfl, .inl (SqL.of eD), ?_⟩
  refine ⟨(((hooksL ts).map vn).length : Int), rfl, by rw [List.length_map]; omega, by rw [List.length_map]; omega, ?_⟩
  rw [Int.toNat_natCast]
  refine for_range (lo := 0) (n := ((hooksL ts).map vn).length) (fun i σ H' => ∃ (o5 : Option V), σ = [some (.ref a), none, none, some (.ref D), some (vn (facN i)), o5] ∧ Same H1 H') ⟨_, rfl, Same.refl _⟩ (fun i σ H2 hi hp => ?_) (fun σ H2 hp => ?_)
  · obtain ⟨o5, rfl, s2⟩ := hp
    rw [List.length_map] at hi
    have := fac15 (show i ≤ 15 by omega)
    refine ⟨_, rfl, _, rfl, _, _, rfl, rfl, _, _, rfl, rfl, .inl ⟨by omega, by omega⟩, ?_⟩
    refine ⟨some (.int (0 + i)), ?_, s2⟩
    have e : vn (facN (i + 1)) = V.int ((facN i : Int) * ((0 : Int) + (i : Int) + 1)) := congrArg V.int (by rw [Int.zero_add]; exact Int.natCast_mul _ _)
    rw [e]
    rfl
  obtain ⟨o5, rfl, s2⟩ := hp
  rw [List.length_map] at *
  have eD2 := s2 _ _ eD
  refine ⟨_, rfl, D, rfl, ⟨_, SqL.of eD2⟩, ?_⟩
  refine for_list (K := K) (a := D) (xs := (hooksL ts).map vn) (fun i σ H' => ∃ (o2 : Option V), σ = [some (.ref a), none, o2, some (.ref D), some (vn (((hooksL ts).take i).foldl (· / ·) (facN (hooksL ts).length))), o5] ∧ Same H2 H') ⟨_, rfl, Same.refl _⟩ (fun i σ H' _ hp => by obtain ⟨_, _, sm⟩ := hp; exact SqL.of (sm _ _ eD2)) (fun i x σ H3 hx hp => ?_) (fun σ H3 hp => ?_)
  · obtain ⟨o2, rfl, s3⟩ := hp
    rw [List.getElem?_map] at hx
    obtain ⟨h, hh, rfl⟩ := Option.map_eq_some_iff.mp hx
    have hm := List.mem_of_getElem? hh
    have hpos := hooksL_pos ts h hm
    have hle := hook_le hm
    have fb := foldl_div_le ((hooksL ts).take i) (facN (hooksL ts).length)
    have := fac15 h15
    refine ⟨_, rfl, _, rfl, _, _, rfl, rfl, ⟨by omega, by omega⟩, ?_⟩
    refine ⟨some (vn h), ?_, s3⟩
    have e : vn (((hooksL ts).take (i + 1)).foldl (· / ·) (facN (hooksL ts).length)) = V.int (((((hooksL ts).take i).foldl (· / ·) (facN (hooksL ts).length) : Nat) : Int) / (h : Int)) := by
      rw [take_nextG hh, List.foldl_append]
      rfl
    rw [e]
    rfl
  · obtain ⟨o2, rfl, s3⟩ := hp
    rw [List.length_map, List.take_length]
    exact ⟨_, rfl, q H3 (s1.trans (s2.trans s3))⟩
def spCountO : Sp := fun vs H Q _ => ∃ (v : V) (t : B), vs = [v] ∧ BAt H v t ∧ t.size ≤ 15 ∧ ∀ (H' : Hp), Same H H' → Q (vn t.num) H'
theorem ok_countO (F : Fun K "count_orders" "count_orders" s_count_orders f fd) (Dcount_together : Df P w K mg base 21 "count_together" ["parts"] (spTogether K)) : FnOk P w K mg base CX0 22 f fd ["tree"] spCountO := by
  refine F.ok sc_count_orders (fun vs H Q E h => ?_) (fun cdv A outer s H vs Q E hr h => ?_)
  · obtain ⟨v, t, rfl, _⟩ := h
    rfl
  obtain ⟨v, t, rfl, hv, hz, q⟩ := h
  refine ⟨_, (pss_one (ps_ret (pe_call Dcount_together.ok (hr.mono (by omega)) rfl Dcount_together.g Dcount_together.kp Dcount_together.b .nil pass0 (pa_cons (pe_lst (pa_cons (pv 0) pa_nil)) pa_nil)))), ?_⟩
  refine ⟨_, rfl, (by show 1 ≤ sizeLine; decide), fun p np => ?_⟩
  have k1 := same_new np (.lst [v])
  refine ⟨p, [v], [t], rfl, SqL.of upd_same, .cons (hv.same k1) .nil, ?_, fun H' s' => ?_⟩
  · unfold hooksL
    rw [List.flatMap_cons, List.flatMap_nil, List.append_nil, B.hooks_len]
    exact hz
  · rw [together_one]
    exact q H' (k1.trans s')
end
/-! ### sorted(xs, key=lambda x: x[0]), sorted(xs, key=lambda x: len(x[0])) -/
section
variable {prog : Program} {w : World} {A : Around} {s : Shared}
/-- a lambda of one name, called; its body told from the new frame -/
theorem lam_one {f c' : Addr} {q x : Str} {params : Arguments} {body : Expr} {scope : Scope} {cl : List (Str × Addr)} {pm ctv v : Value} {Q : Value → Shared → Prop}
    (room : A.depth < recursionLimit) (hf : s.heap.get? f = some (PySem.W.kla_obj "<lambda>" q params body scope cl pm c' ctv)) (hrec : s.heap.CodeRec (.ref c') q) (lim : s.heap.NoLimit)
    (hco : scope.isCoroutine = false) (hgen : scope.isGenerator = false) (hk : scope.kind = .function) (hc : ∀ y ∈ scope.names, y.2 ≠ .cell) (hx : scope.names.lookup x = some .local)
    (hbind : bindArgs (PySem.W.kla_fn "<lambda>" q params body scope cl pm (.ref c') ctv) ⟨[v], []⟩ = pure [(x, v)])
    (hbody : ∀ (h₁ : Heap) (env : Env), (∀ b o, s.heap.get? b = some o → h₁.get? b = some o) → env.scope = scope → env.globals = mainGlobals → env.builtins = builtinsNs → env.kindOf x = some .local → h₁.Ns env.locals (fun y => [(x, v)].reverse.lookup y) →
      wpAny (model prog w) (A.deeper env) (eval body env) Q (fun _ _ => False) { s with heap := h₁, toks := s.toks + 1 }) :
    wpAny (model prog w) A (call (.ref f) [v]) Q (fun _ _ => False) s := by
  refine wpAny_call (PySem.W.kla_callFunE room hf rfl hco hgen rfl hrec ?_)
  rw [hbind]
  refine wpAny_pure (wpAny_newFunctionEnv hc (fun y hy => by rw [List.mem_singleton.mp hy]; exact hx) (fun h₁ hns hsb => ⟨lim.fresh _ hsb, ?_⟩) hk)
  refine PySem.W.kla_codeExpr (wpAny_mono (hbody h₁ _ (fun b o e => hsb.extBut b o (Nat.ne_of_lt (Heap.lt_size e)) (Heap.get?_push_of_some _ e)) rfl rfl rfl hx hns) (fun v s' h => h) fun _ _ h => h.elim)
/-- its body x[0], x a pair that begins with a text -/
theorem lam_item {env : Env} {x : Str} {t : Addr} {items : Array Value} {z : Str} {tz : Tok} {m : Str → Option Value} {j : Nat} {p1 cp pos : Pos} {Q : Value → Shared → Prop} (hk : env.scope.kind = .function) (hx : env.kindOf x = some .local) (hn : s.heap.Ns env.locals m)
    (hm : m x = some (.ref t)) (ht : IsTup s.heap t items) (h0 : items[0]? = some (.str z tz)) (hd : (x == ("__debug__" : Str)) = false) (hq : ∀ tk, Q (.str z tz) { s with toks := tk }) :
    wpAny (model prog w) A (eval (.Subscript (.Name x p1) (.Constant (.int 0) j cp) pos) env) Q (fun _ _ => False) s := by
  refine Subscript_ (wpAny_Name (wpAny_loadName_local hk hx hn hm ?_) hd)
  refine wpAny_Constant_int ?_
  have hsz : 0 < items.size := (Array.getElem?_eq_some_iff.mp h0).1
  exact item_tuple (j := 0) ht (by decide) (by decide) (seqIndex_of (Int.le_refl 0) (by omega)) h0 (hq _)
/-- its body len(x[0]) -/
theorem lam_len {env : Env} {x : Str} {t : Addr} {items : Array Value} {z : Str} {tz : Tok} {m mg mb : Str → Option Value} {j : Nat} {p0 p1 cp pos pos2 : Pos} {Q : Value → Shared → Prop} (hk : env.scope.kind = .function) (hx : env.kindOf x = some .local) (hn : s.heap.Ns env.locals m)
    (hl : env.kindOf "len" = some .globalImplicit) (hg : env.globals = mainGlobals) (hbn : env.builtins = builtinsNs) (hmg : s.heap.Ns mainGlobals mg) (hmb : s.heap.Ns builtinsNs mb) (hml : mg "len" = none) (hbl : mb "len" = bootBuiltins "len")
    (hm : m x = some (.ref t)) (ht : IsTup s.heap t items) (h0 : items[0]? = some (.str z tz)) (hd : (x == ("__debug__" : Str)) = false) (hz : z.length ≤ 1000000) (hq : ∀ tu tk, Q (.int (z.length : Int) tu) { s with toks := tk }) :
    wpAny (model prog w) A (eval (.Call (.Name "len" p0) [.Subscript (.Name x p1) (.Constant (.int 0) j cp) pos] [] pos2) env) Q (fun _ _ => False) s := by
  refine Call_ (Calls.Name_function_global hk hl (Calls.loadGlobal_builtin (by rw [hg]; exact hmg) hml (by rw [hbn]; exact hmb) (hbl.trans (show bootBuiltins "len" = some (.builtin "len") by decide +kernel)) ?_) (by decide))
  refine PyProof.Rows.callWith_builtin1 ?_
  refine Calls.spliced_cons (lam_item hk hx hn hm ht h0 hd fun tk => Calls.spliced_nil ?_)
  exact PySem.P.len_str (by omega) (hq _ _)
end
theorem each_vals {vs : List V} {us : List Value} (h : Vals vs us) : PySem.W.EachIs (fun u v => RelV v u) us vs := by
  induction h with
  | nil => exact .nil
  | cons r _ ih => exact .cons r ih
theorem vals_each {vs : List V} {us : List Value} (h : PySem.W.EachIs (fun u v => RelV v u) us vs) : Vals vs us := by
  induction h with
  | nil => exact .nil
  | cons r _ ih => exact .cons r ih
theorem seqL_ext {K : PySem.W.Frag} {H H' : Hp} (e : LamX.ExtN H H') {a : Addr} {xs : List V} (h : SqL K H a xs) : SqL K H' a xs := by
  rcases h with h | h
  · rcases h with h | ⟨o, h⟩
    · exact .inl (.inl (e _ _ h (fun ps z => by cases z)))
    · exact .inl (.inr ⟨o, e _ _ h (fun ps z => by cases z)⟩)
  · exact .inr h
/-- a lambda of one name whose value at a pair that begins with the text z is g z -/
def KeyLam (x : Str) (mg : Str → Option Value) (params : Arguments) (body : Expr) (scope : Scope) (g : Str → PyData) : Prop :=
  scope.isCoroutine = false ∧ scope.isGenerator = false ∧ scope.kind = .function ∧ (∀ y ∈ scope.names, y.2 ≠ .cell ∧ y.2 ≠ .free) ∧ scope.names.lookup x = some .local ∧
  (∀ (q : Str) (pm cv ctv v : Value) (cl : List (Str × Addr)), bindArgs (PySem.W.kla_fn "<lambda>" q params body scope cl pm cv ctv) ⟨[v], []⟩ = pure [(x, v)]) ∧
  ∀ {prog : Program} {w : World} {A : Around} {s : Shared} {env : Env} {t : Addr} {items : Array Value} {z : Str} {tz : Tok} {mb : Str → Option Value} {m : Str → Option Value} {Q : Value → Shared → Prop}, env.scope = scope → env.globals = mainGlobals → env.builtins = builtinsNs → env.kindOf x = some .local → s.heap.Ns env.locals m → m x = some (.ref t) →
    s.heap.Ns mainGlobals mg → s.heap.Ns builtinsNs mb → (∀ y : Str, y ≠ "__name__" → mb y = bootBuiltins y) → IsTup s.heap t items → items[0]? = some (.str z tz) → z.length ≤ 1000000 → (∀ v tk, Reads s.heap v (g z) [] → Q v { s with toks := tk }) →
    wpAny (model prog w) A (eval body env) Q (fun _ _ => False) s
def KeyG (g : Str → PyData) : Prop := (∀ z z', PySem.W.alike (g z) (g z') = true) ∧ (∀ z, g z ≠ .none ∧ ∀ xs, g z ≠ .tuple xs) ∧ ∀ z, (g z).depth = 0
def tSortK (K : PySem.W.Frag) (T : List (Addr × Str)) (g : Str → PyData) (te : TE) : TE := fun σ H Q => te σ H fun v H1 => ∃ (a : Addr) (xs : List V) (kf : V → PyData), v = .ref a ∧ SqL K H1 a xs ∧ LamX.Tabs T H1 ∧
  (∀ x ∈ xs, ∃ (t : Addr) (z : Str) (u : V), x = .ref t ∧ H1 t = some (.tup [.str z, u]) ∧ kf x = g z ∧ z.length ≤ 1000000) ∧
  ∀ (p : Addr) (H2 : Hp), LamX.ExtN H1 H2 → LamX.Tabs T H2 → H2 p = none → Q (.ref p) (upd H2 p (.lst (xs.mergeSort (PySem.W.dataLe false kf))))
section
variable {X : Cx}
theorem pe_sortKey {T : List (Addr × Str)} {c P : Addr} {k : Nat} {g : Str → PyData} {te : TE} {e : Expr} {x : Str} {params : Arguments} {body : Expr} {scope : Scope} {p lpos kpos pos : Pos} (he : PE X e te) (hg : Gl X "sorted") (hm : X.mg "sorted" = none) (hr : Room (k + 1) X.A)
    (TB : LamX.TabB X.base X.mg c P) (hcode : X.env.code = .ref c) (hmT : (P, X.env.qual ++ "<lambda>") ∈ T) (hu : ∀ p ∈ T, p.1 = P → p.2 = X.env.qual ++ "<lambda>") (hdef : defaultsOf params X.env = ([], []))
    (KL : KeyLam x X.mg params body scope g) (KG : KeyG g) (hst : backTo pos (starEach [e] X.env) = (false, eval e X.env) :: backTo pos (starEach [] X.env) := by rfl) :
    PE X (.Call (.Name "sorted" p) [e] [⟨some "key", .Lambda params body scope lpos, kpos⟩] pos) (tSortK X.K T g te) := by
  obtain ⟨k1, k2, k3, k4, k5, k6, k7⟩ := KL
  obtain ⟨g1, g2, g3⟩ := KG
  refine ⟨fun pins s σ H Q I h => ?_⟩
  refine wpAny_Call_Name_kw (ld_blt I hg hm (show bootBuiltins "sorted" = some (.builtin "sorted") by decide +kernel) ?_)
  refine PyProof.Rows.callWith_kw ?_ hst (by rw [hst]; rfl) (by rfl) (by rfl)
  rw [hst]
  refine Calls.spliced_cons (thn (he.run pins s σ H _ I h) fun u s1 ⟨v, H1, I1, r1, a, xs, kf, ev, hs, hT, hx, q⟩ => ?_)
  subst ev
  obtain rfl : u = Value.ref a := r1
  refine Calls.spliced_nil ?_
  refine PyProof.Rows.evalAll_cons ?_
  show wpAny _ _ (eval (.Lambda params body scope lpos) X.env >>= fun v => standAt pos >>= fun _ => pure v) _ _ _
  refine wpAny_bind (LamX.lam_make2 I1 TB hcode hmT hu hT hdef (fun y hy e => absurd e (k4 y hy).2) fun f c' pm ctv H2 s2 I2 eN T2 hf hfn hfr hco => wpAny_bind (wpAny_standAt (wpAny_pure (PyProof.Rows.evalAll_nil ?_))))
  show wpAny _ _ (call (.builtin "sorted") [.ref a] [("key", .ref f)]) _ _ s2
  have hs2 := seqL_ext eN hs
  obtain ⟨its, rv, hl, hz⟩ := I2.list hs2
  have ex : ∀ z, z ∈ xs.map kf → ∃ y, z = g y := fun z hm => by
    obtain ⟨v, hv, rfl⟩ := List.mem_map.mp hm
    obtain ⟨_, y, _, _, _, e, _⟩ := hx v hv
    exact ⟨y, e⟩
  have room := hr.dp
  have units := hr.un
  refine PySem.W.sorted_key_data (b := false) (β := V) (bs := xs) (R := fun u v => RelV v u) kf hl.isList (each_vals rv) (fun d hd d' hd' => ?_) (.inr fun d hd => ?_) hz (fun v hv => ?_) (PyProof.Rows.ksk_s1 _ _) (fun _ => PyProof.Rows.ksk_l1 _ _) (fun _ => PyProof.Rows.ksk_t1 _ _) (fun v y r hy h tk kp => ?_) fun out c2 h' tk kp fresh ho hlen eo => ?_
  · obtain ⟨y, rfl⟩ := ex d hd
    obtain ⟨y', rfl⟩ := ex d' hd'
    exact g1 y y'
  · obtain ⟨y, rfl⟩ := ex d hd
    exact g2 y
  · obtain ⟨y, e⟩ := ex (kf v) (List.mem_map.mpr ⟨v, hv, rfl⟩)
    rw [e, g3]
    omega
  · obtain ⟨t, z, u2, rfl, ht, ek, hzl⟩ := hx y hy
    obtain rfl : v = Value.ref t := r
    obtain ⟨_, its2, r2, o, hot, hct, n, hdt⟩ := I2.hok t _ (eN _ _ ht (fun ps z => by cases z))
    obtain ⟨w1, w2, rfl, rw1, _⟩ := vals2 r2
    obtain ⟨tz, rfl⟩ := rw1
    obtain ⟨⟨oc, vs, tc, hoc, hdc, hvc⟩, _, _⟩ := I2.hok c' _ hco
    obtain ⟨mb, b1, b2⟩ := I2.mod.blt
    have glob : s2.heap.Ns mainGlobals X.mg := I2.mod.glob.keeps I2.bk
    have blt : s2.heap.Ns builtinsNs mb := b1.keeps I2.bk
    refine lam_one (s := { s2 with heap := h, toks := tk }) (by show X.A.depth < recursionLimit; omega) (kp _ _ hf) ⟨c', oc, vs, tc, rfl, kp _ _ hoc, hdc, hvc⟩ (I2.nolimit.keeps kp) k1 k2 k3 (fun y hy => (k4 y hy).1) k5 (k6 _ _ _ _ _ _) fun h₁ env kp2 e1 e2 e3 e4 hns => ?_
    have kk : ∀ b o, s2.heap.get? b = some o → h₁.get? b = some o := fun b o e => kp2 b o (kp b o e)
    refine k7 e1 e2 e3 e4 hns (by simp) (glob.keeps kk) (blt.keeps kk) b2 (⟨o, kk _ _ hot, hct, n, hdt⟩ : IsTup h₁ t _) rfl hzl fun v' tk' hrd => ?_
    rw [ek]
    exact ⟨h₁, tk', rfl, kp2, hrd⟩
  · have hp : H2 (s2.heap.objs.size + 1) = none := I2.hok.fresh (Nat.le_succ _)
    refine ⟨.ref _, _, I2.laid (t' := tk) kp (Nat.le_succ _) (o := .lst (xs.mergeSort (PySem.W.dataLe false kf))) ⟨by rw [List.length_mergeSort]; exact hz, out, c2, vals_each eo, ho⟩, rfl, q _ _ eN T2 hp⟩
end
theorem keyG_str : KeyG PyData.str := ⟨fun _ _ => by simp [PySem.W.alike], fun _ => ⟨by simp, by simp⟩, fun _ => by simp [PyData.depth]⟩
theorem keyG_len : KeyG fun z : Str => .int (z.length : Int) := ⟨fun _ _ => by simp [PySem.W.alike], fun _ => ⟨by simp, by simp⟩, fun _ => by simp [PyData.depth]⟩
theorem keyLam_item {mg : Str → Option Value} {x : Str} {params : Arguments} {scope : Scope} {j : Nat} {p1 cp pos : Pos} (h1 : scope.isCoroutine = false) (h2 : scope.isGenerator = false) (h3 : scope.kind = .function) (h4 : ∀ y ∈ scope.names, y.2 ≠ .cell ∧ y.2 ≠ .free) (h5 : scope.names.lookup x = some .local)
    (h6 : ∀ (q : Str) (pm cv ctv v : Value) (cl : List (Str × Addr)), bindArgs (PySem.W.kla_fn "<lambda>" q params (.Subscript (.Name x p1) (.Constant (.int 0) j cp) pos) scope cl pm cv ctv) ⟨[v], []⟩ = pure [(x, v)]) (hd : (x == ("__debug__" : Str)) = false) :
    KeyLam x mg params (.Subscript (.Name x p1) (.Constant (.int 0) j cp) pos) scope PyData.str :=
  ⟨h1, h2, h3, h4, h5, h6, fun e1 e2 e3 e4 hn hm g b b2 ht h0 hz hq => lam_item (by rw [e1]; exact h3) e4 hn hm ht h0 hd fun tk => hq _ tk (Reads.str _ _)⟩
theorem keyLam_len {mg : Str → Option Value} {x : Str} {params : Arguments} {scope : Scope} {j : Nat} {p0 p1 cp pos pos2 : Pos} (h1 : scope.isCoroutine = false) (h2 : scope.isGenerator = false) (h3 : scope.kind = .function) (h4 : ∀ y ∈ scope.names, y.2 ≠ .cell ∧ y.2 ≠ .free) (h5 : scope.names.lookup x = some .local)
    (h6 : ∀ (q : Str) (pm cv ctv v : Value) (cl : List (Str × Addr)), bindArgs (PySem.W.kla_fn "<lambda>" q params (.Call (.Name "len" p0) [.Subscript (.Name x p1) (.Constant (.int 0) j cp) pos] [] pos2) scope cl pm cv ctv) ⟨[v], []⟩ = pure [(x, v)]) (hd : (x == ("__debug__" : Str)) = false)
    (h7 : scope.names.lookup ("len" : Str) = some NameKind.globalImplicit) (h8 : mg "len" = none) :
    KeyLam x mg params (.Call (.Name "len" p0) [.Subscript (.Name x p1) (.Constant (.int 0) j cp) pos] [] pos2) scope fun z => .int (z.length : Int) :=
  ⟨h1, h2, h3, h4, h5, h6, fun e1 e2 e3 e4 hn hm g b b2 ht h0 hz hq => lam_len (by rw [e1]; exact h3) e4 hn (by rw [← e1] at h7; exact h7) e2 e3 g b h8 (b2 _ (by decide)) hm ht h0 hd hz fun tu tk => hq _ tk (Reads.int _ _)⟩
/-! ### next_steps -/
def kids (l r : B) : List B := [l, r].filter fun t => decide (t ≠ .nil)
def kidsV (l r : V) : List V := [l, r].filter fun v => !decide (v = .non)
/-- the steps from ts, the i-th root taken -/
def stepAt (ts : List B) (i : Nat) : Nat × List B := match ts[i]? with
  | some (.node l x r) => (x, ts.take i ++ kids l r ++ ts.drop (i + 1))
  | _ => (0, [])
def stepsL (ts : List B) : List (Nat × List B) := (List.range ts.length).map (stepAt ts)
theorem TsAt.app {H : Hp} {vs us : List V} {ts ws : List B} (h : TsAt H vs ts) (g : TsAt H us ws) : TsAt H (vs ++ us) (ts ++ ws) := by
  induction h with
  | nil => exact g
  | cons a _ ih => exact .cons a ih
theorem TsAt.take {H : Hp} {vs : List V} {ts : List B} (h : TsAt H vs ts) : ∀ n : Nat, TsAt H (vs.take n) (ts.take n) := by
  induction h with
  | nil => intro n; rw [List.take_nil, List.take_nil]; exact .nil
  | cons a _ ih =>
    intro n
    cases n with
    | zero => exact .nil
    | succ n => exact .cons a (ih n)
theorem TsAt.drop {H : Hp} {vs : List V} {ts : List B} (h : TsAt H vs ts) : ∀ n : Nat, TsAt H (vs.drop n) (ts.drop n) := by
  induction h with
  | nil => intro n; rw [List.drop_nil, List.drop_nil]; exact .nil
  | cons a h ih =>
    intro n
    cases n with
    | zero => exact .cons a h
    | succ n => exact ih n
theorem TsAt.keep {H H' : Hp} (k : KeepT H H') {vs : List V} {ts : List B} (h : TsAt H vs ts) : TsAt H' vs ts := by
  induction h with
  | nil => exact .nil
  | cons a _ ih => exact .cons (a.keep k) ih
theorem kids_at {H : Hp} {l r : V} {tl tr : B} (hl : BAt H l tl) (hr : BAt H r tr) : TsAt H (kidsV l r) (kids tl tr) := by
  unfold kids kidsV
  rcases hl.inv with ⟨rfl, rfl⟩ | ⟨a, l1, r1, x, t1, t2, rfl, rfl, e, h1, h2⟩ <;> rcases hr.inv with ⟨rfl, rfl⟩ | ⟨a', l1', r1', x', t1', t2', rfl, rfl, e', h1', h2'⟩
  · exact .nil
  · exact .cons hr .nil
  · exact .cons hl .nil
  · exact .cons hl (.cons hr .nil)
/-- the steps SS lie at us: pairs of a letter and a new list of trees, none of the lists at N -/
inductive SAt (N : Addr) (H : Hp) : List V → List (Nat × List B) → Prop
  | nil : SAt N H [] []
  | cons {a q : Addr} {c : Nat} {ws : List V} {ts : List B} {us : List V} {ss : List (Nat × List B)} : H a = some (.tup [.str (ch c), .ref q]) → q ≠ N → H q = some (.lst ws) → TsAt H ws ts → SAt N H us ss → SAt N H (.ref a :: us) ((c, ts) :: ss)
theorem SAt.keep {N : Addr} {H H' : Hp} (k : KeepT H H') (kl : ∀ b o, b ≠ N → H b = some o → (∀ ps, o ≠ .tbl ps) → H' b = some o) {us : List V} {ss : List (Nat × List B)} (h : SAt N H us ss) : SAt N H' us ss := by
  induction h with
  | nil => exact .nil
  | cons e1 e2 e3 e4 _ ih => exact .cons (k _ _ e1) e2 (kl _ _ e2 e3 (fun ps z => by cases z)) (e4.keep k) ih
theorem SAt.snoc {N : Addr} {H : Hp} {us : List V} {ss : List (Nat × List B)} (h : SAt N H us ss) {a q : Addr} {c : Nat} {ws : List V} {ts : List B} (e1 : H a = some (.tup [.str (ch c), .ref q])) (e2 : q ≠ N) (e3 : H q = some (.lst ws)) (e4 : TsAt H ws ts) : SAt N H (us ++ [.ref a]) (ss ++ [(c, ts)]) := by
  induction h with
  | nil => exact .cons e1 e2 e3 e4 .nil
  | cons f1 f2 f3 f4 _ ih => exact .cons f1 f2 f3 f4 ih
theorem SAt.len {N : Addr} {H : Hp} {us : List V} {ss : List (Nat × List B)} (h : SAt N H us ss) : us.length = ss.length := by
  induction h with
  | nil => rfl
  | cons _ _ _ _ _ ih => rw [List.length_cons, List.length_cons, ih]
theorem SAt.get {N : Addr} {H : Hp} {us : List V} {ss : List (Nat × List B)} (h : SAt N H us ss) : ∀ {i : Nat} {v : V}, us[i]? = some v → ∃ a q c ws ts, v = .ref a ∧ ss[i]? = some (c, ts) ∧ H a = some (.tup [.str (ch c), .ref q]) ∧ H q = some (.lst ws) ∧ TsAt H ws ts := by
  induction h with
  | nil => intro i v e; simp at e
  | cons e1 e2 e3 e4 _ ih =>
    intro i v e
    cases i with
    | zero => cases e; exact ⟨_, _, _, _, _, rfl, rfl, e1, e3, e4⟩
    | succ i => exact ih e
theorem SAt.re {N N' : Addr} {H : Hp} {us : List V} {ss : List (Nat × List B)} (h : SAt N H us ss) (n : H N' = none) : SAt N' H us ss := by
  induction h with
  | nil => exact .nil
  | cons e1 e2 e3 e4 _ ih => exact .cons e1 (ne_of_none e3 n) e3 e4 ih
theorem SAt.perm {N : Addr} {H : Hp} {us ys : List V} (p : ys.Perm us) : ∀ {ss : List (Nat × List B)}, SAt N H us ss → ∃ zz, SAt N H ys zz ∧ zz.Perm ss := by
  induction p with
  | nil => intro ss h; exact ⟨ss, h, .refl _⟩
  | cons x _ ih =>
    intro ss h
    cases h with
    | cons e1 e2 e3 e4 h =>
      obtain ⟨zz, h1, h2⟩ := ih h
      exact ⟨_ :: zz, .cons e1 e2 e3 e4 h1, h2.cons _⟩
  | swap x y l =>
    intro ss h
    cases h with
    | cons e1 e2 e3 e4 h =>
      cases h with
      | cons f1 f2 f3 f4 h => exact ⟨_ :: _ :: _, .cons f1 f2 f3 f4 (.cons e1 e2 e3 e4 h), List.Perm.swap _ _ _⟩
  | trans _ _ ih1 ih2 =>
    intro ss h
    obtain ⟨z1, h1, p1⟩ := ih2 h
    obtain ⟨z2, h2, p2⟩ := ih1 h1
    exact ⟨z2, h2, p2.trans p1⟩
def kzOf (H : Hp) (x : V) : Str := match x with
  | .ref t => (match H t with | some (.tup [.str z, _]) => z | _ => Str.ofString "")
  | _ => Str.ofString ""
theorem kzOf_at {H : Hp} {a : Addr} {z : Str} {u : V} (e : H a = some (.tup [.str z, u])) : kzOf H (.ref a) = z := by
  simp only [kzOf, e]
theorem SAt.kz {N : Addr} {H : Hp} {us : List V} {ss : List (Nat × List B)} (h : SAt N H us ss) : us.map (kzOf H) = ss.map fun s => ch s.1 := by
  induction h with
  | nil => rfl
  | cons e1 _ _ _ _ ih =>
    rw [List.map_cons, List.map_cons, ih]
    exact congrArg (· :: _) (kzOf_at e1)
theorem ch_le {a b : Nat} (h : (ch a).cps.toList ≤ (ch b).cps.toList) : a ≤ b := by
  have h1 := ch_lt b a
  by_cases h2 : b < a
  · rw [decide_eq_true h2] at h1
    exact absurd h (List.not_le.mpr (of_decide_eq_true h1))
  · omega
theorem tabs_but {T : List (Addr × Str)} {H H' : Hp} {N : Addr} {ws : List V} (e : H N = some (.lst ws)) (k : ∀ b o, b ≠ N → H b = some o → H' b = some o) (h : LamX.Tabs T H) : LamX.Tabs T H' := fun p hp => by
  obtain ⟨ps, h1, h2, h3⟩ := h p hp
  refine ⟨ps, k _ _ (fun z => by rw [z, e] at h1; cases h1) h1, h2, fun pos cv hc => ?_⟩
  obtain ⟨c, e1, e2⟩ := h3 pos cv hc
  exact ⟨c, e1, k _ _ (fun z => by rw [z, e] at e2; unfold LamX.CodeO at e2; cases e2) e2⟩
theorem extN_keepT {H H' : Hp} (k : LamX.ExtN H H') : KeepT H H' := fun b xs e => k b _ e fun ps z => by cases z
def spNextSteps (K : PySem.W.Frag) (T : List (Addr × Str)) : Sp := fun vs H Q _ => ∃ (a : Addr) (us : List V) (ts : List B), vs = [.ref a] ∧ SqL K H a us ∧ TsAt H us ts ∧ (∀ t ∈ ts, t ≠ .nil) ∧ ts.length ≤ 100 ∧ LamX.Tabs T H ∧
  ∀ (p : Addr) (ws : List V) (SS : List (Nat × List B)) (H' : Hp), LamX.ExtN H H' → LamX.Tabs T H' → H' p = some (.lst ws) → SAt p H' ws SS → SS.Perm (stepsL ts) → SS.Pairwise (fun a b => a.1 ≤ b.1) → Q (.ref p) H'
section
variable {P : Program} {w : World} {K : PySem.W.Frag} {mg : Str → Option Value} {base : Heap} {f : Addr} {fd : FuncData}
/-- a def whose code object is known -/
theorem okC {x qual : Str} {st : Stmt} {N ps : List Str} {k : Nat} {sp : Sp} {c : Addr} (F : Fun K x qual st f fd) (hc : fd.code = .ref c) (S : FnScope N ps (defScope st)) (len : ∀ vs H Q E, sp vs H Q E → vs.length = ps.length)
    (hbody : ∀ (A : Around) (outer : List Env) (s : Shared) (H : Hp) (vs : List V) (Q : VK) (E : XK), Room k (A.deeper (envOfC qual (defScope st) s.heap.objs.size f (.ref c))) → sp vs H Q E →
      ∃ t, PSs (cxOf CX0 P w K mg base N qual (defScope st) f (.ref c) A outer s H E).nox (defBody st) t ∧ t { nx := fun _ H' => Q .non H', rt := Q } (start N vs) H) : FnOk P w K mg base CX0 (k + 1) f fd ps sp := by
  obtain ⟨oc, od, kV, doc, pm, an, cdv, ct, osl, rfl, lk, hcd⟩ := F.ex
  obtain rfl : cdv = .ref c := hc
  refine fn_of lk hcd S len fun A outer s H vs Q E hr hsp => ?_
  obtain ⟨t, h, q⟩ := hbody A outer s H vs Q E hr hsp
  exact ⟨t, h.nox, q⟩
theorem ok_nextSteps {T : List (Addr × Str)} {c P' : Addr} (F : Fun K "next_steps" "next_steps" s_next_steps f fd) (hc : fd.code = .ref c) (M : Mgs mg) (TB : LamX.TabB base mg c P') (hmT : (P', ("next_steps.<locals>.<lambda>" : Str)) ∈ T) (hu : ∀ p ∈ T, p.1 = P' → p.2 = ("next_steps.<locals>.<lambda>" : Str)) :
    FnOk P w K mg base CX0 3 f fd ["parts"] (spNextSteps K T) := by
  refine okC F hc sc_next_steps (fun vs H Q E h => ?_) (fun A outer s H vs Q E hr h => ?_)
  · obtain ⟨a, us, ts, rfl, _⟩ := h
    rfl
  obtain ⟨a, us, ts, rfl, ea, ta, nn, tl, hT, q⟩ := h
  have hr := hr
  refine ⟨_, (pss_cons (ps_set (i := 1) sc_next_steps.nd rfl (.inl rfl) (pe_lst pa_nil))
    (pss_cons (ps_for PassesOwn.never rfl (pi_enum rfl M.enumerate (pa_cons (pv 0) pa_nil)) (pg_tup rfl (pgs_cons (pg_name (i := 2) sc_next_steps.nd rfl (.inl rfl)) (pgs_cons (pg_tup rfl (pgs_cons (pg_name (i := 3) sc_next_steps.nd rfl (.inl rfl)) (pgs_cons (pg_name (i := 4) sc_next_steps.nd rfl (.inl rfl)) (pgs_cons (pg_name (i := 5) sc_next_steps.nd rfl (.inl rfl)) pgs_nil)))) pgs_nil)))
      (pss_cons (ps_setLc (i := 7) (own := [("side", 6)]) (g := gName 6) (by rfl) sc_next_steps.nd rfl rfl (sw_true rfl rfl rfl (by decide +kernel)) (pi_tup (pe_tup (pa_cons (pv 3) (pa_cons (pv 5) pa_nil)))) (blkOk_by (N := ["parts", "found", "at", "left", "letter", "right", "side", "sides"]) (sc := defScope s_next_steps) (by decide +kernel)) (fun _ _ _ _ _ => (pg_name (i := 6) sc_next_steps.nd rfl (.inl rfl))) (fun _ _ _ _ _ => pts_one (pt_cmpR op_notN (pv 6) pe_non (nomark _))) (fun _ _ _ _ _ => (pv 6)))
    (pss_one (ps_expr (pe_bm PySem.F.plainAttrs_list PySem.F.slot_list_append PySem.F.type_list_append mt_append (pv 1) (pa_cons (pe_tup (pa_cons (pv 4) (pa_cons (pe_op op_cat (pe_op op_cat (pe_slice sl_list (pv 0) po_none (po_some (pv 2))) (pv 7)) (pe_slice sl_list (pv 0) (po_some (pe_op op_add (pv 2) pe_int)) po_none)) pa_nil))) pa_nil))))))
    (pss_one (ps_ret (pe_sortKey (pv 1) rfl M.sorted hr TB rfl hmT hu rfl (keyLam_item rfl rfl rfl (by decide +kernel) rfl (fun _ _ _ _ _ _ => rfl) (by decide +kernel)) keyG_str))))), ?_⟩
  have len := ta.len
  refine ⟨(by show 0 ≤ sizeLine; decide), fun pf npf => ?_⟩
  have kf := same_new npf (.lst [])
  have ef := upd_same (H := H) (a := pf) (o := .lst [])
  have ea0 := kf.seq ea
  have ta0 := ta.same kf
  have hT0 : LamX.Tabs T (upd H pf (.lst [])) := hT.ext kf
  generalize upd H pf (.lst []) = H0 at kf ef ea0 ta0 hT0 ⊢
  refine ⟨_, rfl, a, us, rfl, ea0, ?_⟩
  have eaK : ∀ H' : Hp, (∀ b o, b ≠ pf → H0 b = some o → H' b = some o) → SqL K H' a us := fun H' k => by
    rcases ea with (e | ⟨o, e⟩) | e
    · exact .inl (.inl (k _ _ (ne_of_none e npf) (kf _ _ e)))
    · exact .inl (.inr ⟨o, k _ _ (ne_of_none e npf) (kf _ _ e)⟩)
    · exact .inr e
  have kT : ∀ H' : Hp, (∀ b o, b ≠ pf → H0 b = some o → H' b = some o) → KeepT H0 H' := fun H' k b xs e => k b _ (fun z => by rw [z, ef] at e; cases e) e
  refine for_it (walk_enum (K := K) (a := a) (xs := us)) (fun i σ H' => ∃ (o2 o3 o4 o5 o6 o7 : Option V) (ws : List V), σ = [some (.ref a), some (.ref pf), o2, o3, o4, o5, o6, o7] ∧ (∀ b o, b ≠ pf → H0 b = some o → H' b = some o) ∧ H' pf = some (.lst ws) ∧ SAt pf H' ws ((List.range i).map (stepAt ts)))
    ⟨none, none, none, none, none, none, [], rfl, (fun b o _ e => e), ef, .nil⟩ (fun i σ H' _ hp => ?_) (fun i x σ H1 H1' hi hp hy => ?_) (fun σ H1 hp => ?_)
  · obtain ⟨_, _, _, _, _, _, _, _, k, _⟩ := hp
    exact eaK _ k
  · obtain ⟨o2, o3, o4, o5, o6, o7, ws, rfl, k1, e1, sa⟩ := hp
    obtain ⟨t0, x1, x2, rfl, n0, rfl, ex1, ex2⟩ := hy
    cases ex1
    obtain ⟨t, ht, hat⟩ := (ta0.keep (kT _ k1)).get ex2
    have tn := nn t (List.mem_of_getElem? ht)
    rcases hat.inv with ⟨rfl, rfl⟩ | ⟨a', l, r, c, tl', tr', rfl, rfl, e', hl, hr'⟩
    · exact absurd rfl tn
    have j1 := same_new n0 (.tup [.int (i : Int), .ref a'])
    have et := upd_same (H := H1) (a := t0) (o := .tup [.int (i : Int), .ref a'])
    have e1' := j1 _ _ e1
    have k1' : ∀ b o, b ≠ pf → H0 b = some o → upd H1 t0 (.tup [.int (i : Int), .ref a']) b = some o := fun b o hb e => j1 _ _ (k1 b o hb e)
    have sa' := sa.keep (Tw.Same.keepT j1) fun b o _ e _ => j1 _ _ e
    have e2 := j1 _ _ e'
    have hl' := hl.same j1
    have hr2 := hr'.same j1
    generalize upd H1 t0 (.tup [.int (i : Int), .ref a']) = H2 at et e1' k1' sa' e2 hl' hr2 ⊢
    refine ⟨t0, _, rfl, SqT.of et, rfl, _, _, rfl, _, _, rfl, a', _, rfl, SqT.of e2, rfl, _, _, rfl, _, _, rfl, _, _, rfl, rfl, rfl, ?_⟩
    refine ⟨_, rfl, _, rfl, (by show 2 ≤ sizeLine; decide), fun tp ntp => ⟨tp, rfl, ⟨_, SqT.of upd_same⟩, fun D nD => ?_⟩⟩
    have j2 := same_new ntp (.tup [l, r])
    have etp := upd_same (H := H2) (a := tp) (o := .tup [l, r])
    have e1b := j2 _ _ e1'
    generalize upd H2 tp (.tup [l, r]) = H3 at j2 etp e1b nD ⊢
    have j3 := same_new nD (.lst [])
    refine lc_it (walk_tup (K := K) (a := tp) (xs := [l, r])) (fun i H' => Same H3 H' ∧ H' D = some (.lst (([l, r].take i).filter fun v => !decide (v = .non)))) ⟨j3, upd_same⟩ (fun i H' _ hp => SqT.of (hp.1 _ _ etp)) (fun j x H4 H4' hj hp hy => ?_) (fun H4 hp => ?_)
    · obtain ⟨s4, e4⟩ := hp
      obtain ⟨rfl, hx⟩ := hy
      rw [take_nextG hx, List.filter_append]
      refine ⟨rfl, ⟨_, rfl, rfl, _, rfl, ?_⟩⟩
      by_cases hn : x = .non
      · subst hn
        refine iteF ⟨s4, ?_⟩
        rw [e4]
        exact congrArg (fun z => some (HO.lst z)) (List.append_nil _).symm
      · rw [decide_eq_false hn]
        refine iteT ⟨_, rfl, _, e4, ?_, fun b o e => ?_, ?_⟩
        · exact small1000 (Nat.le_trans (List.length_filter_le _ _) (by rw [List.length_take]; show min j 2 ≤ 1000; omega))
        · rw [upd_ne (ne_of_none e nD)]; exact s4 _ _ e
        · rw [upd_same]
          have e : [x].filter (fun v => !decide (v = V.non)) = [x] := by
            rw [List.filter_cons, decide_eq_false hn]
            rfl
          rw [e]
    · obtain ⟨s4, e4⟩ := hp
      have s24 := j2.trans s4
      have e4' : H4 D = some (.lst (kidsV l r)) := e4
      have e14 := s24 _ _ e1'
      have k14 : ∀ b o, b ≠ pf → H0 b = some o → H4 b = some o := fun b o hb e => s24 _ _ (k1' b o hb e)
      have ea4 := eaK _ k14
      have ta4 := ta0.keep (kT _ k14)
      have kd4 := kids_at (hl'.same s24) (hr2.same s24)
      have kl2 : (kidsV l r).length ≤ 2 := List.length_filter_le _ _
      refine ⟨_, rfl, .inl ⟨rfl, _, SqL.of e14⟩, _, rfl, _, rfl, _, rfl, _, rfl, a, us, rfl, ea4, fun p5 n5 => ?_⟩
      rw [cut_to]
      have j5 := same_new n5 (.lst (us.take i))
      have e5 := upd_same (H := H4) (a := p5) (o := .lst (us.take i))
      have e4b := j5 _ _ e4'
      generalize upd H4 p5 (.lst (us.take i)) = H5 at j5 e5 e4b ⊢
      refine ⟨_, rfl, p5, D, _, _, rfl, rfl, e5, e4b, small (by rw [List.length_take]; omega), fun p6 n6 => ?_⟩
      have j6 := same_new n6 (.lst (us.take i ++ kidsV l r))
      have e6 := upd_same (H := H5) (a := p6) (o := .lst (us.take i ++ kidsV l r))
      generalize upd H5 p6 (.lst (us.take i ++ kidsV l r)) = H6 at j6 e6 ⊢
      have s46 := j5.trans j6
      refine ⟨_, rfl, _, rfl, _, _, rfl, rfl, _, rfl, a, us, rfl, s46.seq ea4, fun p7 n7 => ?_⟩
      rw [show ((i : Int) + 1) = ((i + 1 : Nat) : Int) from rfl, cut_from]
      have j7 := same_new n7 (.lst (us.drop (i + 1)))
      have e7 := upd_same (H := H6) (a := p7) (o := .lst (us.drop (i + 1)))
      have e6b := j7 _ _ e6
      generalize upd H6 p7 (.lst (us.drop (i + 1))) = H7 at j7 e7 e6b ⊢
      refine ⟨p6, p7, _, _, rfl, rfl, e6b, e7, small (by rw [List.length_append, List.length_take, List.length_drop]; omega), fun p8 n8 => ?_⟩
      have j8 := same_new n8 (.lst (us.take i ++ kidsV l r ++ us.drop (i + 1)))
      have e8 := upd_same (H := H7) (a := p8) (o := .lst (us.take i ++ kidsV l r ++ us.drop (i + 1)))
      generalize upd H7 p8 (.lst (us.take i ++ kidsV l r ++ us.drop (i + 1))) = H8 at j8 e8 ⊢
      have s48 := (s46.trans j7).trans j8
      refine ⟨(by show 2 ≤ sizeLine; decide), fun tq ntq => ?_⟩
      have j9 := same_new ntq (.tup [.str (ch c), .ref p8])
      have e9 := upd_same (H := H8) (a := tq) (o := .tup [.str (ch c), .ref p8])
      generalize upd H8 tq (.tup [.str (ch c), .ref p8]) = H9 at j9 e9 ⊢
      have s49 := s48.trans j9
      have s29 := s24.trans s49
      have k19 : ∀ b o, b ≠ pf → H0 b = some o → H9 b = some o := fun b o hb e => s29 _ _ (k1' b o hb e)
      have wl : ws.length = i := by rw [sa'.len, List.length_map, List.length_range]
      have ef9 := s29 _ _ e1'
      refine ⟨pf, _, _, rfl, rfl, ef9, small1000 (by omega), ?_⟩
      have np8 : p8 ≠ pf := fun z => by
        have := ((s24.trans s46).trans j7) _ _ e1'
        rw [z, this] at n8
        cases n8
      have kTu : KeepT H9 (upd H9 pf (.lst (ws ++ [.ref tq]))) := fun b xs e => by
        rw [upd_ne (fun z => by rw [z, ef9] at e; cases e)]
        exact e
      have tt : TsAt H9 (us.take i ++ kidsV l r ++ us.drop (i + 1)) (ts.take i ++ kids tl' tr' ++ ts.drop (i + 1)) :=
        (((ta4.take i).app kd4).app (ta4.drop (i + 1))).same s49
      have st : stepAt ts i = (c, ts.take i ++ kids tl' tr' ++ ts.drop (i + 1)) := by
        unfold stepAt
        rw [ht]
      refine ⟨_, _, _, _, _, _, ws ++ [.ref tq], rfl, fun b o hb e => ?_, upd_same, ?_⟩
      · rw [upd_ne hb]; exact k19 b o hb e
      · rw [List.range_succ, List.map_append, List.map_cons, List.map_nil, st]
        refine SAt.snoc ((sa'.keep (Tw.Same.keepT s29) fun b o _ e _ => s29 _ _ e).keep kTu fun b o hb e _ => by rw [upd_ne hb]; exact e) (kTu _ _ e9) np8 (by rw [upd_ne np8]; exact j9 _ _ e8) (tt.keep kTu)
  · obtain ⟨o2, o3, o4, o5, o6, o7, ws, rfl, k1, e1, sa⟩ := hp
    rw [len] at sa
    have hT1 := tabs_but ef k1 hT0
    have wl : ws.length = ts.length := by rw [sa.len, List.length_map, List.length_range]
    refine ⟨_, rfl, pf, ws, fun x => .str (kzOf H1 x), rfl, SqL.of e1, hT1, fun x hx => ?_, fun p H2 eN T2 np => ?_⟩
    · obtain ⟨j, hj⟩ := List.getElem?_of_mem hx
      obtain ⟨b, b2, d, _, _, rfl, _, g1, _, _⟩ := sa.get hj
      exact ⟨b, ch d, _, rfl, g1, congrArg PyData.str (kzOf_at g1), (by show 1 ≤ 1000000; decide)⟩
    · have pm := List.mergeSort_perm ws (PySem.W.dataLe false fun x => PyData.str (kzOf H1 x))
      have so := List.pairwise_mergeSort (le := PySem.W.dataLe false fun x => PyData.str (kzOf H1 x)) (by
        intro a b c h1 h2
        rw [PySem.W.dataLe_str] at h1 h2 ⊢
        exact decide_eq_true (List.le_trans (of_decide_eq_true h1) (of_decide_eq_true h2))) (by
        intro a b
        rw [PySem.W.dataLe_str]
        show (decide ((kzOf H1 a).cps.toList ≤ (kzOf H1 b).cps.toList) || decide ((kzOf H1 b).cps.toList ≤ (kzOf H1 a).cps.toList)) = true
        rcases List.le_total (kzOf H1 a).cps.toList (kzOf H1 b).cps.toList with h | h
        · rw [decide_eq_true h]; rfl
        · rw [decide_eq_true h, Bool.or_true]) ws
      generalize ws.mergeSort (PySem.W.dataLe false fun x => PyData.str (kzOf H1 x)) = ys at pm so ⊢
      obtain ⟨SS, sa1, pS⟩ := sa.perm pm
      have kz := sa1.kz
      have sa2 : SAt p H2 ys SS := (sa1.keep (extN_keepT eN) fun b o _ e n => eN b o e n).re np
      have j3 := same_new np (.lst ys)
      refine q p ys SS _ ?_ (T2.ext j3) upd_same (sa2.keep (Tw.Same.keepT j3) fun b o _ e _ => j3 _ _ e) pS ?_
      · intro b o e n
        have nb : b ≠ pf := ne_of_none e npf
        exact j3 _ _ (eN _ _ (k1 _ _ nb (kf _ _ e)) n)
      · have so2 : (ys.map (kzOf H1)).Pairwise fun a b => a.cps.toList ≤ b.cps.toList := by
          rw [List.pairwise_map]
          refine so.imp fun {a b} h => ?_
          rw [PySem.W.dataLe_str] at h
          exact of_decide_eq_true h
        rw [kz, List.pairwise_map] at so2
        exact so2.imp fun {a b} h => ch_le h
end
/-! ### steps and orders: mathematics -/
def prel (ts : List B) : List Nat := ts.flatMap B.pre
structure FG (ts : List B) : Prop where
  nn : ∀ t ∈ ts, t ≠ .nil
  nd : (prel ts).Nodup
theorem prel_app (a b : List B) : prel (a ++ b) = prel a ++ prel b := List.flatMap_append ..
theorem prel_cons (t : B) (b : List B) : prel (t :: b) = t.pre ++ prel b := List.flatMap_cons ..
theorem hooksL_app (a b : List B) : hooksL (a ++ b) = hooksL a ++ hooksL b := List.flatMap_append ..
theorem hooksL_cons (t : B) (b : List B) : hooksL (t :: b) = t.hooks ++ hooksL b := List.flatMap_cons ..
theorem kids_pre (l r : B) : prel (kids l r) = l.pre ++ r.pre := by
  cases l <;> cases r <;> simp [kids, prel, B.pre]
theorem kids_hooks (l r : B) : hooksL (kids l r) = l.hooks ++ r.hooks := by
  cases l <;> cases r <;> simp [kids, hooksL, B.hooks]
theorem kids_nn (l r : B) : ∀ t ∈ kids l r, t ≠ .nil := fun t ht => of_decide_eq_true (List.mem_filter.mp ht).2
theorem step_mem {ts : List B} (nn : ∀ t ∈ ts, t ≠ .nil) (c : Nat) (rest : List B) : (c, rest) ∈ stepsL ts ↔ ∃ pre l r post, ts = pre ++ .node l c r :: post ∧ rest = pre ++ kids l r ++ post := by
  unfold stepsL
  rw [List.mem_map]
  constructor
  · rintro ⟨i, hi, e⟩
    have hl := List.mem_range.mp hi
    have ht := List.getElem?_eq_getElem hl
    have hd : ts.drop i = ts[i] :: ts.drop (i + 1) := List.drop_eq_getElem_cons hl
    cases h : ts[i] with
    | nil => exact absurd h (nn _ (List.getElem_mem hl))
    | node l x r =>
      unfold stepAt at e
      rw [ht, h] at e
      cases e
      refine ⟨ts.take i, l, r, ts.drop (i + 1), ?_, rfl⟩
      rw [← h, ← hd, List.take_append_drop]
  · rintro ⟨pre, l, r, post, rfl, rfl⟩
    refine ⟨pre.length, List.mem_range.mpr (by rw [List.length_append, List.length_cons]; omega), ?_⟩
    unfold stepAt
    rw [List.getElem?_append_right (Nat.le_refl _), Nat.sub_self]
    have e : pre ++ B.node l c r :: post = (pre ++ [.node l c r]) ++ post := by rw [List.append_assoc]; rfl
    have e1 : (pre ++ B.node l c r :: post).take pre.length = pre := List.take_left' rfl
    have e2 : (pre ++ B.node l c r :: post).drop (pre.length + 1) = post := by rw [e]; exact List.drop_left' (by simp)
    show (c, (pre ++ B.node l c r :: post).take pre.length ++ kids l r ++ (pre ++ B.node l c r :: post).drop (pre.length + 1)) = _
    rw [e1, e2]
theorem FG.step {ts : List B} (g : FG ts) {c : Nat} {rest : List B} (h : (c, rest) ∈ stepsL ts) : FG rest ∧ c ∈ prel ts ∧ c ∉ prel rest := by
  obtain ⟨pre, l, r, post, rfl, rfl⟩ := (step_mem g.nn c rest).mp h
  have e : prel (pre ++ .node l c r :: post) = prel pre ++ (c :: ((l.pre ++ r.pre) ++ prel post)) := by rw [prel_app, prel_cons]; rfl
  have e2 : prel (pre ++ kids l r ++ post) = prel pre ++ ((l.pre ++ r.pre) ++ prel post) := by rw [prel_app, prel_app, kids_pre, List.append_assoc]
  have nd := g.nd
  rw [e] at nd
  have p : (prel pre ++ c :: ((l.pre ++ r.pre) ++ prel post)).Perm (c :: (prel pre ++ ((l.pre ++ r.pre) ++ prel post))) := List.perm_middle
  rw [p.nodup_iff, List.nodup_cons] at nd
  refine ⟨⟨fun t ht => ?_, by rw [e2]; exact nd.2⟩, by rw [e, p.mem_iff]; exact List.mem_cons_self, by rw [e2]; exact nd.1⟩
  rcases List.mem_append.mp ht with ht | ht
  · rcases List.mem_append.mp ht with ht | ht
    · exact g.nn t (List.mem_append_left _ ht)
    · exact kids_nn l r t ht
  · exact g.nn t (List.mem_append_right _ (List.mem_cons_of_mem _ ht))
theorem step_hooks {ts : List B} (g : FG ts) {c : Nat} {rest : List B} (h : (c, rest) ∈ stepsL ts) : (hooksL rest).length + 1 = (hooksL ts).length := by
  obtain ⟨pre, l, r, post, rfl, rfl⟩ := (step_mem g.nn c rest).mp h
  rw [hooksL_app, hooksL_app, kids_hooks, hooksL_app, hooksL_cons]
  show _ = (hooksL pre ++ (((l.size + r.size + 1) :: (l.hooks ++ r.hooks)) ++ hooksL post)).length
  simp only [List.length_append, List.length_cons]
  omega
theorem step_ne {ts : List B} (g : FG ts) : ∀ i j : Nat, i < j → j < ts.length → (stepAt ts i).1 ≠ (stepAt ts j).1 := fun i j hij hj e => by
  have hi : i < ts.length := by omega
  have split : ts = ts.take j ++ ts[j] :: ts.drop (j + 1) := by rw [← List.drop_eq_getElem_cons hj, List.take_append_drop]
  have nd := g.nd
  rw [split, prel_app, List.nodup_append] at nd
  have root : ∀ k (hk : k < ts.length), (stepAt ts k).1 ∈ ts[k].pre := fun k hk => by
    unfold stepAt
    rw [List.getElem?_eq_getElem hk]
    cases h : ts[k] with
    | nil => exact absurd h (g.nn _ (List.getElem_mem hk))
    | node l x r => exact List.mem_cons_self
  refine nd.2.2 (stepAt ts i).1 ?_ (stepAt ts j).1 ?_ e
  · refine List.mem_flatMap.mpr ⟨ts[i], List.mem_take_iff_getElem.mpr ⟨i, by omega, rfl⟩, root i hi⟩
  · rw [prel_cons]
    exact List.mem_append_left _ (root j hj)
theorem steps_nodup {ts : List B} (g : FG ts) : ((stepsL ts).map fun s => s.1).Nodup := by
  unfold stepsL
  rw [List.map_map]
  refine List.Pairwise.map _ (fun a b h => h) ?_
  refine List.Pairwise.imp_of_mem (fun {a b} ha hb (h : a < b) => ?_) (List.pairwise_lt_range (n := ts.length))
  exact step_ne g a b h (List.mem_range.mp hb)
/-- the letters of the roots are told apart -/
theorem step_inj {ts : List B} (g : FG ts) {c : Nat} {r1 r2 : List B} (h1 : (c, r1) ∈ stepsL ts) (h2 : (c, r2) ∈ stepsL ts) : r1 = r2 := by
  unfold stepsL at h1 h2
  obtain ⟨i, hi, e1⟩ := List.mem_map.mp h1
  obtain ⟨j, hj, e2⟩ := List.mem_map.mp h2
  have hi' := List.mem_range.mp hi
  have hj' := List.mem_range.mp hj
  have : i = j := by
    rcases Nat.lt_trichotomy i j with h | h | h
    · exact absurd (by rw [e1, e2]) (step_ne g i j h hj')
    · exact h
    · exact absurd (by rw [e1, e2]) (step_ne g j i h hi')
  subst this
  rw [e1] at e2
  exact (Prod.mk.inj e2).2
def togR : List B → Nat
  | [] => 1
  | t :: ts => cho (t.size + (hooksL ts).length) t.size * (t.num * togR ts)
theorem togR_hooks : ∀ ts : List B, togR ts * prodN (hooksL ts) = facN (hooksL ts).length
  | [] => rfl
  | t :: ts => by
    have ih := togR_hooks ts
    have h1 := t.num_hooks
    have h2 := cho_fac _ t.size (hooksL ts).length rfl
    rw [hooksL_cons, prodN_app, List.length_append, B.hooks_len]
    show cho (t.size + (hooksL ts).length) t.size * (t.num * togR ts) * (prodN t.hooks * prodN (hooksL ts)) = _
    rw [← h2, ← h1, ← ih]
    simp only [Nat.mul_assoc, Nat.mul_left_comm]
theorem prodL_pos (ts : List B) : 0 < prodN (hooksL ts) := prodN_pos _ (hooksL_pos ts)
theorem together_eq (ts : List B) : together ts = togR ts := by
  unfold together
  rw [foldl_div, ← togR_hooks]
  exact Nat.mul_div_cancel _ (prodL_pos ts)
theorem togR_pos (ts : List B) : 0 < togR ts := by
  rcases Nat.eq_zero_or_pos (togR ts) with h | h
  · have := togR_hooks ts
    rw [h, Nat.zero_mul] at this
    have := facN_pos (hooksL ts).length
    omega
  · exact h
theorem stepAt_tog {ts : List B} (nn : ∀ t ∈ ts, t ≠ .nil) {i : Nat} (hi : i < ts.length) : togR (stepAt ts i).2 * prodN (hooksL ts) = facN ((hooksL ts).length - 1) * (ts[i]).size := by
  have split : ts = ts.take i ++ ts[i] :: ts.drop (i + 1) := by rw [← List.drop_eq_getElem_cons hi, List.take_append_drop]
  have hm : ts[i] ∈ ts := List.getElem_mem hi
  have hat := List.getElem?_eq_getElem hi
  generalize ts[i] = t at split hm hat ⊢
  cases t with
  | nil => exact absurd rfl (nn _ hm)
  | node l x r =>
    have e : (stepAt ts i).2 = ts.take i ++ kids l r ++ ts.drop (i + 1) := by unfold stepAt; rw [hat]
    rw [e]
    have h := togR_hooks (ts.take i ++ kids l r ++ ts.drop (i + 1))
    have hh : hooksL (ts.take i ++ kids l r ++ ts.drop (i + 1)) = hooksL (ts.take i) ++ (l.hooks ++ r.hooks) ++ hooksL (ts.drop (i + 1)) := by rw [hooksL_app, hooksL_app, kids_hooks]
    have ht : hooksL ts = hooksL (ts.take i) ++ ((l.size + r.size + 1) :: (l.hooks ++ r.hooks) ++ hooksL (ts.drop (i + 1))) := by
      conv => lhs; rw [split]
      rw [hooksL_app, hooksL_cons]
      rfl
    have hl : (hooksL ts).length - 1 = (hooksL (ts.take i ++ kids l r ++ ts.drop (i + 1))).length := by
      rw [hh, ht]
      simp only [List.length_append, List.length_cons]
      omega
    rw [hl, ← h, hh, ht]
    simp only [prodN_app, prodN, List.cons_append]
    show _ = _ * (l.size + 1 + r.size)
    rw [show l.size + 1 + r.size = l.size + r.size + 1 by omega]
    simp only [Nat.mul_assoc, Nat.mul_left_comm, Nat.mul_comm]
theorem sum_map_mul {f g : Nat → Nat} {k m : Nat} : ∀ n : Nat, (∀ i, i < n → f i * k = m * g i) → ((List.range n).map f).sum * k = m * ((List.range n).map g).sum
  | 0, _ => by simp
  | n + 1, h => by
    have ih := sum_map_mul n fun i hi => h i (by omega)
    rw [List.range_succ, List.map_append, List.map_append, List.sum_append, List.sum_append, Nat.add_mul, Nat.mul_add, ih]
    simp only [List.map_cons, List.map_nil, List.sum_cons, List.sum_nil, Nat.add_zero]
    rw [h n (by omega)]
theorem sum_sizes (ts : List B) : ((List.range ts.length).map fun i => (ts.getD i .nil).size).sum = (hooksL ts).length := by
  have e : ((List.range ts.length).map fun i => (ts.getD i .nil).size) = ts.map B.size := by
    apply List.ext_getElem?
    intro i
    rw [List.getElem?_map, List.getElem?_map]
    by_cases hi : i < ts.length
    · rw [List.getElem?_range hi, List.getElem?_eq_getElem hi]
      simp [List.getD_eq_getElem?_getD, hi]
    · rw [List.getElem?_eq_none (by simpa using hi), List.getElem?_eq_none (by simpa using hi)]
      rfl
  rw [e]
  clear e
  induction ts with
  | nil => rfl
  | cons t ts ih => rw [List.map_cons, List.sum_cons, ih, hooksL_cons, List.length_append, B.hooks_len]
theorem hooksL_ne {ts : List B} (nn : ∀ t ∈ ts, t ≠ .nil) (h : ts ≠ []) : 0 < (hooksL ts).length := by
  cases ts with
  | nil => exact absurd rfl h
  | cons t ts =>
    rw [hooksL_cons, List.length_append, B.hooks_len]
    have := nn t List.mem_cons_self
    cases t with
    | nil => exact absurd rfl this
    | node l x r => show 0 < l.size + 1 + r.size + _; omega
theorem tog_sum {ts : List B} (nn : ∀ t ∈ ts, t ≠ .nil) (h : ts ≠ []) : ((stepsL ts).map fun s => togR s.2).sum = togR ts := by
  have e := sum_map_mul (f := fun i => togR (stepAt ts i).2) (g := fun i => (ts.getD i .nil).size) (k := prodN (hooksL ts)) (m := facN ((hooksL ts).length - 1)) ts.length fun i hi => by
    have := stepAt_tog nn hi
    simp only [List.getD_eq_getElem?_getD, List.getElem?_eq_getElem hi, Option.getD_some]
    exact this
  rw [sum_sizes] at e
  have pos := hooksL_ne nn h
  have hf : facN ((hooksL ts).length - 1) * (hooksL ts).length = facN (hooksL ts).length := by
    obtain ⟨n, hn⟩ : ∃ n, (hooksL ts).length = n + 1 := ⟨(hooksL ts).length - 1, by omega⟩
    rw [hn]
    rfl
  rw [hf, ← togR_hooks] at e
  unfold stepsL
  rw [List.map_map]
  exact Nat.eq_of_mul_eq_mul_right (prodL_pos ts) e
/-! ### orders of steps, their numbers -/
def below (ts : List B) (c : Nat) : Nat := (((stepsL ts).filter fun s => decide (s.1 < c)).map fun s => togR s.2).sum
inductive Valid : List B → List Nat → Prop
  | nil : Valid [] []
  | cons {ts : List B} {c : Nat} {rest : List B} {w : List Nat} : (c, rest) ∈ stepsL ts → Valid rest w → Valid ts (c :: w)
inductive Idx : List B → List Nat → Nat → Prop
  | nil : Idx [] [] 0
  | cons {ts : List B} {c : Nat} {rest : List B} {w : List Nat} {k : Nat} : (c, rest) ∈ stepsL ts → Idx rest w k → Idx ts (c :: w) (below ts c + k)
inductive Num : List B → Nat → List Nat → Prop
  | nil {i : Nat} : Num [] i []
  | cons {ts : List B} {c : Nat} {rest : List B} {w : List Nat} {i : Nat} : (c, rest) ∈ stepsL ts → below ts c ≤ i → i - below ts c < togR rest → Num rest (i - below ts c) w → Num ts i (c :: w)
theorem filter_sum_le {S : List (Nat × List B)} {g : Nat × List B → Nat} {p q : Nat × List B → Bool} (h : ∀ s ∈ S, p s = true → q s = true) : ((S.filter p).map g).sum ≤ ((S.filter q).map g).sum := by
  induction S with
  | nil => exact Nat.le_refl _
  | cons s S ih =>
    have ih' := ih fun t ht => h t (List.mem_cons_of_mem _ ht)
    have hs := h s List.mem_cons_self
    rw [List.filter_cons, List.filter_cons]
    by_cases hp : p s = true
    · rw [if_pos hp, if_pos (hs hp), List.map_cons, List.map_cons, List.sum_cons, List.sum_cons]
      omega
    · rw [if_neg hp]
      split
      · rw [List.map_cons, List.sum_cons]; omega
      · exact ih'
theorem filter_sum_add {S : List (Nat × List B)} {g : Nat × List B → Nat} {p q : Nat × List B → Bool} {s : Nat × List B} (hs : s ∈ S) (hp : p s = false) (hq : q s = true) (h : ∀ s ∈ S, p s = true → q s = true) : ((S.filter p).map g).sum + g s ≤ ((S.filter q).map g).sum := by
  induction S with
  | nil => cases hs
  | cons t S ih =>
    have hle := filter_sum_le (g := g) fun u hu => h u (List.mem_cons_of_mem t hu)
    rw [List.filter_cons, List.filter_cons]
    rcases List.mem_cons.mp hs with rfl | hs
    · rw [if_neg (by rw [hp]; simp), if_pos hq, List.map_cons, List.sum_cons]
      omega
    · have ih' := ih hs fun u hu => h u (List.mem_cons_of_mem _ hu)
      by_cases ht : p t = true
      · rw [if_pos ht, if_pos (h t List.mem_cons_self ht), List.map_cons, List.map_cons, List.sum_cons, List.sum_cons]
        omega
      · rw [if_neg ht]
        split
        · rw [List.map_cons, List.sum_cons]; omega
        · exact ih'
theorem below_lt {ts : List B} {c d : Nat} {rest : List B} (h : (c, rest) ∈ stepsL ts) (hd : c < d) : below ts c + togR rest ≤ below ts d :=
  filter_sum_add (g := fun s => togR s.2) h (decide_eq_false (Nat.lt_irrefl c)) (decide_eq_true hd) fun s _ e => decide_eq_true (Nat.lt_trans (of_decide_eq_true e) hd)
theorem below_all {ts : List B} (nn : ∀ t ∈ ts, t ≠ .nil) {c : Nat} {rest : List B} (h : (c, rest) ∈ stepsL ts) : below ts c + togR rest ≤ togR ts := by
  have hne : ts ≠ [] := fun z => by rw [z] at h; cases h
  rw [← tog_sum nn hne]
  have := filter_sum_add (g := fun s => togR s.2) (p := fun s => decide (s.1 < c)) (q := fun _ => true) h (decide_eq_false (Nat.lt_irrefl c)) rfl fun s _ _ => rfl
  rw [List.filter_eq_self.mpr fun _ _ => rfl] at this
  exact this
theorem idx_lt {ts : List B} {w : List Nat} {k : Nat} (h : Idx ts w k) : FG ts → k < togR ts := by
  induction h with
  | nil => intro _; exact Nat.one_pos
  | cons hs _ ih =>
    intro g
    have := ih (g.step hs).1
    have := below_all g.nn hs
    omega
theorem idx_num {ts : List B} {w : List Nat} {k : Nat} (h : Idx ts w k) : ∀ {w' : List Nat}, FG ts → Num ts k w' → w' = w := by
  induction h with
  | nil =>
    intro w' _ hn
    cases hn with
    | nil => rfl
    | cons hs _ _ _ => cases hs
  | @cons ts c rest w k hs hi ih =>
    intro w' g hn
    cases hn with
    | nil => cases hs
    | @cons _ c' rest' w' _ hs' h1 h2 h3 =>
      have lt := idx_lt hi (g.step hs).1
      have e : c' = c := by
        rcases Nat.lt_trichotomy c' c with z | z | z
        · have := below_lt hs' z
          omega
        · exact z
        · have := below_lt hs z
          omega
      subst e
      have er := step_inj g hs hs'
      subst er
      rw [Nat.add_sub_cancel_left] at h3
      rw [ih (g.step hs).1 h3]
theorem num_idx {ts : List B} {i : Nat} {w : List Nat} (h : Num ts i w) : FG ts → i < togR ts → Idx ts w i := by
  induction h with
  | @nil i =>
    intro _ hi
    have : i = 0 := by
      have : i < 1 := hi
      omega
    subst this
    exact .nil
  | @cons ts c rest w i hs h1 h2 h3 ih =>
    intro g _
    have := Idx.cons hs (ih (g.step hs).1 h2)
    rw [Nat.add_sub_cancel' h1] at this
    exact this
theorem Idx.valid {ts : List B} {w : List Nat} {k : Nat} (h : Idx ts w k) : Valid ts w := by
  induction h with
  | nil => exact .nil
  | cons hs _ ih => exact .cons hs ih
theorem Num.valid {ts : List B} {i : Nat} {w : List Nat} (h : Num ts i w) : Valid ts w := by
  induction h with
  | nil => exact .nil
  | cons hs _ _ _ ih => exact .cons hs ih
theorem Valid.idx {ts : List B} {w : List Nat} (h : Valid ts w) : ∃ k, Idx ts w k := by
  induction h with
  | nil => exact ⟨0, .nil⟩
  | cons hs _ ih =>
    obtain ⟨k, hk⟩ := ih
    exact ⟨_, .cons hs hk⟩
theorem Valid.len {ts : List B} {w : List Nat} (h : Valid ts w) : FG ts → w.length = (hooksL ts).length := by
  induction h with
  | nil => intro _; rfl
  | cons hs _ ih =>
    intro g
    rw [List.length_cons, ih (g.step hs).1, step_hooks g hs]
theorem Valid.mem {ts : List B} {w : List Nat} (h : Valid ts w) : FG ts → w.Perm (prel ts) := by
  induction h with
  | nil => intro _; exact .refl _
  | @cons ts c rest w hs _ ih =>
    intro g
    obtain ⟨pre, l, r, post, e1, e2⟩ := (step_mem g.nn c rest).mp hs
    have p := ih (g.step hs).1
    rw [e2, prel_app, prel_app, kids_pre] at p
    rw [e1, prel_app, prel_cons]
    refine (p.cons c).trans ?_
    show (c :: (prel pre ++ (l.pre ++ r.pre) ++ prel post)).Perm (prel pre ++ (c :: (l.pre ++ r.pre) ++ prel post))
    rw [List.append_assoc]
    exact List.perm_middle.symm
/-- steps among more trees -/
theorem step_left {ls : List B} (nn : ∀ t ∈ ls, t ≠ .nil) {rs : List B} (nr : ∀ t ∈ rs, t ≠ .nil) {c : Nat} {rest : List B} (h : (c, rest) ∈ stepsL ls) : (c, rest ++ rs) ∈ stepsL (ls ++ rs) := by
  obtain ⟨pre, l, r, post, rfl, rfl⟩ := (step_mem nn c rest).mp h
  refine (step_mem (fun t ht => (List.mem_append.mp ht).elim (nn t) (nr t)) c _).mpr ⟨pre, l, r, post ++ rs, by rw [List.append_assoc]; rfl, by rw [List.append_assoc]⟩
theorem step_right {ls : List B} (nn : ∀ t ∈ ls, t ≠ .nil) {rs : List B} (nr : ∀ t ∈ rs, t ≠ .nil) {c : Nat} {rest : List B} (h : (c, rest) ∈ stepsL rs) : (c, ls ++ rest) ∈ stepsL (ls ++ rs) := by
  obtain ⟨pre, l, r, post, rfl, rfl⟩ := (step_mem nr c rest).mp h
  exact (step_mem (fun t ht => (List.mem_append.mp ht).elim (nn t) (nr t)) c _).mpr ⟨ls ++ pre, l, r, post, by rw [List.append_assoc], by rw [List.append_assoc, List.append_assoc, List.append_assoc]⟩
inductive Mrg : List Nat → List Nat → List Nat → Prop
  | nil : Mrg [] [] []
  | left {u v w : List Nat} (c : Nat) : Mrg u v w → Mrg (c :: u) v (c :: w)
  | right {u v w : List Nat} (c : Nat) : Mrg u v w → Mrg u (c :: v) (c :: w)
theorem mrg_valid {u v w : List Nat} (m : Mrg u v w) : ∀ {ls rs : List B}, FG ls → FG rs → Valid ls u → Valid rs v → Valid (ls ++ rs) w := by
  induction m with
  | nil =>
    intro ls rs _ _ h1 h2
    cases h1
    cases h2
    exact .nil
  | left c _ ih =>
    intro ls rs g1 g2 h1 h2
    cases h1 with
    | cons hs h1 => exact .cons (step_left g1.nn g2.nn hs) (ih (g1.step hs).1 g2 h1 h2)
  | right c _ ih =>
    intro ls rs g1 g2 h1 h2
    cases h2 with
    | cons hs h2 => exact .cons (step_right g1.nn g2.nn hs) (ih g1 (g2.step hs).1 h1 h2)
/-- the sum of the counts before the j-th of the sorted steps -/
theorem below_take {ts : List B} (g : FG ts) {SS : List (Nat × List B)} (p : SS.Perm (stepsL ts)) (so : SS.Pairwise fun a b => a.1 ≤ b.1) {j : Nat} {c : Nat} {rest : List B} (h : SS[j]? = some (c, rest)) : below ts c = ((SS.take j).map fun s => togR s.2).sum := by
  have hj := (List.getElem?_eq_some_iff.mp h).1
  have he := (List.getElem?_eq_some_iff.mp h).2
  have split : SS = SS.take j ++ (c, rest) :: SS.drop (j + 1) := by
    have := List.drop_eq_getElem_cons hj
    rw [he] at this
    rw [← this, List.take_append_drop]
  have nd := (p.map fun s => s.1).nodup_iff.mpr (steps_nodup g)
  have e1 : below ts c = ((SS.filter fun s => decide (s.1 < c)).map fun s => togR s.2).sum := by
    unfold below
    exact (((p.filter _).map _).sum_nat).symm
  rw [e1]
  rw [split] at so nd
  rw [List.pairwise_append] at so
  rw [List.map_append, List.nodup_append] at nd
  have f : SS.filter (fun s => decide (s.1 < c)) = SS.take j := by
    conv => lhs; rw [split]
    rw [List.filter_append, List.filter_eq_self.mpr, List.filter_eq_nil_iff.mpr, List.append_nil]
    · intro s hs
      have : c ≤ s.1 := by
        rcases List.mem_cons.mp hs with rfl | hs
        · exact Nat.le_refl _
        · exact (List.pairwise_cons.mp so.2.1).1 s hs
      simp only [decide_eq_true_eq]
      omega
    · intro s hs
      have h1 := so.2.2 s hs (c, rest) List.mem_cons_self
      have h2 := nd.2.2 s.1 (List.mem_map.mpr ⟨s, hs, rfl⟩) c (List.mem_map.mpr ⟨(c, rest), List.mem_cons_self, rfl⟩)
      have h1 : s.1 ≤ c := h1
      exact decide_eq_true (by omega)
  rw [f]
/-! the tree that an order grows to -/
def B.bst : B → Prop
  | .nil => True
  | .node l x r => (∀ d ∈ l.pre, d < x) ∧ (∀ d ∈ r.pre, ¬ d < x) ∧ l.bst ∧ r.bst
theorem ins_bst (t : B) (c : Nat) (h : t.bst) : (t.ins c).bst := by
  induction t with
  | nil => exact ⟨fun d hd => (by cases hd), fun d hd => (by cases hd), trivial, trivial⟩
  | node l x r h1 h2 =>
    obtain ⟨a, b, hl, hr⟩ := h
    show (if c < x then B.node (l.ins c) x r else .node l x (r.ins c)).bst
    split
    · rename_i hc
      refine ⟨fun d hd => ?_, b, h1 hl, hr⟩
      rcases (B.ins_mem l c d).mp hd with rfl | hd
      · exact hc
      · exact a d hd
    · rename_i hc
      refine ⟨a, fun d hd => ?_, hl, h2 hr⟩
      rcases (B.ins_mem r c d).mp hd with rfl | hd
      · exact hc
      · exact b d hd
theorem gr_bst (zs : List Nat) : (gr zs).bst := by
  have : ∀ (zs : List Nat) (t : B), t.bst → (zs.foldl B.ins t).bst := by
    intro zs
    induction zs with
    | nil => intro t h; exact h
    | cons c r ih => intro t h; exact ih _ (ins_bst t c h)
  exact this zs .nil trivial
theorem foldl_ins_node (w : List Nat) : ∀ (a : B) (x : Nat) (b : B), w.foldl B.ins (.node a x b) = .node ((w.filter fun c => decide (c < x)).foldl B.ins a) x ((w.filter fun c => !decide (c < x)).foldl B.ins b) := by
  induction w with
  | nil => intro a x b; rfl
  | cons c w ih =>
    intro a x b
    rw [List.foldl_cons]
    show w.foldl B.ins (if c < x then .node (a.ins c) x b else .node a x (b.ins c)) = _
    by_cases hc : c < x
    · rw [if_pos hc, ih, List.filter_cons, List.filter_cons, decide_eq_true hc]
      rfl
    · rw [if_neg hc, ih, List.filter_cons, List.filter_cons, decide_eq_false hc]
      rfl
theorem gr_cons (x : Nat) (w : List Nat) : gr (x :: w) = .node (gr (w.filter fun c => decide (c < x))) x (gr (w.filter fun c => !decide (c < x))) := by
  unfold gr
  rw [List.foldl_cons]
  exact foldl_ins_node w .nil x .nil
theorem valid_split {x : Nat} {ts : List B} {w : List Nat} (h : Valid ts w) : ∀ {ls rs : List B}, ts = ls ++ rs → FG ts → (∀ d ∈ prel ls, d < x) → (∀ d ∈ prel rs, ¬ d < x) → Valid ls (w.filter fun c => decide (c < x)) ∧ Valid rs (w.filter fun c => !decide (c < x)) := by
  induction h with
  | nil =>
    intro ls rs e _ _ _
    obtain ⟨rfl, rfl⟩ := List.append_eq_nil_iff.mp e.symm
    exact ⟨.nil, .nil⟩
  | @cons ts c rest w hs _ ih =>
    intro ls rs e g hl hr
    obtain ⟨pre, l, r, post, e1, e2⟩ := (step_mem g.nn c rest).mp hs
    have gr := (g.step hs).1
    have sub1 : ∀ (pre post : List B), ∀ d ∈ prel (pre ++ kids l r ++ post), d ∈ prel (pre ++ .node l c r :: post) := fun pre post d hd => by
      rw [prel_app, prel_app, kids_pre] at hd
      rw [prel_app, prel_cons]
      rcases List.mem_append.mp hd with hd | hd
      · rcases List.mem_append.mp hd with hd | hd
        · exact List.mem_append_left _ hd
        · exact List.mem_append_right _ (List.mem_append_left _ (List.mem_cons_of_mem _ hd))
      · exact List.mem_append_right _ (List.mem_append_right _ hd)
    rw [e] at e1
    rcases List.append_eq_append_iff.mp e1 with ⟨m, q1, q2⟩ | ⟨m, q1, q2⟩
    · -- the root lies in rs
      have er : rest = ls ++ (m ++ kids l r ++ post) := by rw [e2, q1]; simp only [List.append_assoc]
      have nrs : ∀ t ∈ rs, t ≠ B.nil := fun t ht => g.nn t (by rw [e]; exact List.mem_append_right _ ht)
      have hc : c ∈ prel rs := by rw [q2, prel_app, prel_cons]; exact List.mem_append_right _ (List.mem_append_left _ List.mem_cons_self)
      obtain ⟨i1, i2⟩ := ih er gr hl (fun d hd => hr d (by rw [q2]; exact sub1 m post d hd))
      rw [List.filter_cons, List.filter_cons, decide_eq_false (hr c hc)]
      exact ⟨i1, .cons ((step_mem nrs c _).mpr ⟨m, l, r, post, q2, rfl⟩) i2⟩
    · cases m with
      | nil =>
        rw [List.append_nil] at q1
        have q2' : rs = .node l c r :: post := q2.symm
        have er : rest = ls ++ ([] ++ kids l r ++ post) := by rw [e2, q1]; simp only [List.append_assoc, List.nil_append]
        have nrs : ∀ t ∈ rs, t ≠ B.nil := fun t ht => g.nn t (by rw [e]; exact List.mem_append_right _ ht)
        have hc : c ∈ prel rs := by rw [q2', prel_cons]; exact List.mem_append_left _ List.mem_cons_self
        obtain ⟨i1, i2⟩ := ih er gr hl (fun d hd => hr d (by rw [q2']; exact sub1 [] post d hd))
        rw [List.filter_cons, List.filter_cons, decide_eq_false (hr c hc)]
        exact ⟨i1, .cons ((step_mem nrs c _).mpr ⟨[], l, r, post, q2', rfl⟩) i2⟩
      | cons t m =>
        have q3 := (List.cons.inj q2).1
        have q4 : post = m ++ rs := (List.cons.inj q2).2
        subst q3
        have els : ls = pre ++ .node l c r :: m := q1
        have er : rest = (pre ++ kids l r ++ m) ++ rs := by rw [e2, q4]; simp only [List.append_assoc]
        have nls : ∀ t ∈ ls, t ≠ B.nil := fun t ht => g.nn t (by rw [e]; exact List.mem_append_left _ ht)
        have hc : c ∈ prel ls := by rw [els, prel_app, prel_cons]; exact List.mem_append_right _ (List.mem_append_left _ List.mem_cons_self)
        obtain ⟨i1, i2⟩ := ih er gr (fun d hd => hl d (by rw [els]; exact sub1 pre m d hd)) hr
        rw [List.filter_cons, List.filter_cons, decide_eq_true (hl c hc)]
        exact ⟨.cons ((step_mem nls c _).mpr ⟨pre, l, r, m, els, rfl⟩) i1, i2⟩
/-- the forest of a tree -/
def ft (t : B) : List B := [t].filter fun t => decide (t ≠ .nil)
theorem kids_ft (l r : B) : kids l r = ft l ++ ft r := by
  show [l, r].filter _ = [l].filter _ ++ [r].filter _
  rw [← List.filter_append]
  rfl
theorem ft_nil : ft .nil = [] := rfl
theorem ft_node (l : B) (x : Nat) (r : B) : ft (.node l x r) = [.node l x r] := rfl
theorem prel_ft (t : B) : prel (ft t) = t.pre := by cases t <;> simp [ft, prel, B.pre]
theorem hooks_ft (t : B) : hooksL (ft t) = t.hooks := by cases t <;> simp [ft, hooksL, B.hooks]
theorem ft_fg {t : B} (nd : t.pre.Nodup) : FG (ft t) := ⟨fun u hu => of_decide_eq_true (List.mem_filter.mp hu).2, by rw [prel_ft]; exact nd⟩
theorem togR_ft (t : B) : togR (ft t) = t.num := by
  cases t with
  | nil => rfl
  | node l x r => rw [ft_node, ← together_eq, together_one]
theorem steps_one (l : B) (x : Nat) (r : B) : stepsL [.node l x r] = [(x, kids l r)] := by
  show [stepAt [B.node l x r] 0] = _
  show [(x, [] ++ kids l r ++ [])] = _
  rw [List.append_nil]
  rfl
theorem valid_gr : ∀ (t : B), t.bst → t.pre.Nodup → ∀ w, Valid (ft t) w → gr w = t
  | .nil, _, _, w, h => by
    rw [ft_nil] at h
    cases h with
    | nil => rfl
    | cons hs _ => cases hs
  | .node l x r, b, nd, w, h => by
    rw [ft_node] at h
    cases h with
    | @cons _ c rest w hs h =>
      rw [steps_one] at hs
      cases List.mem_singleton.mp hs
      have nd' : (x :: (l.pre ++ r.pre)).Nodup := nd
      obtain ⟨n1, n2⟩ := List.nodup_cons.mp nd'
      obtain ⟨nl, nr, _⟩ := List.nodup_append.mp n2
      have fg : FG (kids l r) := ⟨kids_nn l r, by rw [kids_pre]; exact n2⟩
      obtain ⟨i1, i2⟩ := valid_split (x := x) h (kids_ft l r) fg (fun d hd => b.1 d (by rw [prel_ft] at hd; exact hd)) (fun d hd => b.2.1 d (by rw [prel_ft] at hd; exact hd))
      rw [gr_cons, valid_gr l b.2.2.1 nl _ i1, valid_gr r b.2.2.2 nr _ i2]
/-! ### numbered_order, order_at -/
theorem numL (K : PySem.W.Frag) {ts : List B} (SS : List (Nat × List B)) (p : SS.Perm (stepsL ts)) (nn : ∀ t ∈ ts, t ≠ .nil) (h : ts ≠ []) : (SS.map fun s => togR s.2).sum = togR ts := by
  rw [← tog_sum nn h]
  exact (p.map _).sum_nat
def spNumO (K : PySem.W.Frag) (T : List (Addr × Str)) (N : Nat) : Sp := fun vs H Q _ => ∃ (a : Addr) (us : List V) (ts : List B) (i : Nat), vs = [.ref a, vn i] ∧ SqL K H a us ∧ TsAt H us ts ∧ FG ts ∧ (hooksL ts).length < N ∧ (hooksL ts).length ≤ 15 ∧ i < togR ts ∧ LamX.Tabs T H ∧
  ∀ (w : List Nat) (H' : Hp), LamX.ExtN H H' → LamX.Tabs T H' → Num ts i w → w.length ≤ 15 → Q (.str (tx w)) H'
theorem fg_len {ts : List B} (g : FG ts) : ts.length ≤ (hooksL ts).length := by
  have nn := g.nn
  clear g
  induction ts with
  | nil => exact Nat.le_refl _
  | cons t ts ih =>
    have := ih fun u hu => nn u (List.mem_cons_of_mem _ hu)
    have h1 : 1 ≤ t.size := by
      have := nn t List.mem_cons_self
      cases t with
      | nil => exact absurd rfl this
      | node l x r => show 1 ≤ l.size + 1 + r.size; omega
    rw [hooksL_cons, List.length_append, B.hooks_len, List.length_cons]
    omega
theorem same_extN {H H' : Hp} (s : Same H H') : LamX.ExtN H H' := fun b o e _ => s b o e
section
variable {P : Program} {w : World} {K : PySem.W.Frag} {mg : Str → Option Value} {base : Heap} {f : Addr} {fd : FuncData}
def spOrderAt (T : List (Addr × Str)) : Sp := fun vs H Q _ => ∃ (v : V) (t : B) (i : Nat), vs = [v, vn i] ∧ BAt H v t ∧ t ≠ .nil ∧ t.pre.Nodup ∧ t.size ≤ 15 ∧ i < t.num ∧ LamX.Tabs T H ∧
  ∀ (w : List Nat) (H' : Hp), LamX.ExtN H H' → LamX.Tabs T H' → Num (ft t) i w → w.length ≤ 15 → Q (.str (tx w)) H'
theorem ft_ne {t : B} (h : t ≠ .nil) : ft t = [t] := by
  cases t with
  | nil => exact absurd rfl h
  | node l x r => rfl
end
/-! ### order_index -/
def secOf (H : Hp) (x : V) : V := match x with
  | .ref t => (match H t with | some (.tup [_, u]) => u | _ => .non)
  | _ => .non
theorem secOf_at {H : Hp} {a : Addr} {z u : V} (e : H a = some (.tup [z, u])) : secOf H (.ref a) = u := by
  simp only [secOf, e]
def spOrderIdx (T : List (Addr × Str)) : Sp := fun vs H Q _ => ∃ (v : V) (t : B) (w : List Nat), vs = [v, .str (tx w)] ∧ BAt H v t ∧ t ≠ .nil ∧ t.pre.Nodup ∧ t.size ≤ 15 ∧ Valid (ft t) w ∧ LamX.Tabs T H ∧
  ∀ (k : Nat) (H' : Hp), LamX.ExtN H H' → LamX.Tabs T H' → Idx (ft t) w k → Q (vn k) H'
section
variable {P : Program} {w : World} {K : PySem.W.Frag} {mg : Str → Option Value} {base : Heap} {f : Addr} {fd : FuncData}
theorem ok_orderIdx {T : List (Addr × Str)} (F : Fun K "order_index" "order_index" s_order_index f fd) (M : Mgs mg) (Dnext_steps : Df P w K mg base 3 "next_steps" ["parts"] (spNextSteps K T)) (Dcount_together : Df P w K mg base 21 "count_together" ["parts"] (spTogether K))
    (Dsize_of : Df P w K mg base 60 "size_of" ["tree"] (fun vs H Q _ => ∃ (v : V) (t : B), vs = [v] ∧ BAt H v t ∧ t.size < 60 ∧ Q (.int (t.size : Int)) H)) : FnOk P w K mg base CX0 61 f fd ["tree", "value"] (spOrderIdx T) := by
  refine F.ok sc_order_index (fun vs H Q E h => ?_) (fun cdv A outer s H vs Q E hr h => ?_)
  · obtain ⟨v, t, w, rfl, _⟩ := h
    rfl
  obtain ⟨v, t, w, rfl, hv, hn, nd, hz, hva, hT, q⟩ := h
  refine ⟨_, (pss_cons (ps_if (PW.pt (pw_or (pt_not (pt_val (pe_callB call_isi rfl M.isinstance (by decide +kernel) (pa_cons (pv 1) (pa_cons (pe_bltn (v := .ty "str") rfl M.str (by decide +kernel) rfl) pa_nil))))) (pw_or1 (pt_cmpR op_ne (pe_callB call_len_str rfl M.len PySem.boot_len (pa_cons (pv 1) pa_nil)) (pe_call Dsize_of.ok (hr.mono (by omega)) rfl Dsize_of.g Dsize_of.kp Dsize_of.b .nil pass0 (pa_cons (pv 0) pa_nil)) (nomark _)))))
      (pss_one ps_never) pss_nil)
    (pss_cons (ps_set (i := 2) sc_order_index.nd rfl (.inl rfl) pe_int)
    (pss_cons (ps_set (i := 3) sc_order_index.nd rfl (.inl rfl) (pe_lst (pa_cons (pv 0) pa_nil)))
    (pss_cons (ps_for PassesOwn.never rfl (pi_str (pv 1)) (pg_name (i := 4) sc_order_index.nd rfl (.inr rfl))
      (pss_cons (ps_set (i := 5) sc_order_index.nd rfl (.inl rfl) (pe_call Dnext_steps.ok (hr.mono (by omega)) rfl Dnext_steps.g Dnext_steps.kp Dnext_steps.b .nil pass0 (pa_cons (pv 3) pa_nil)))
    (pss_cons (ps_setLc (i := 8) (own := [("other", 6), ("rest", 7)]) (g := gTup K 2 (gCons (gName 6) (gCons (gName 7) gNil))) (by rfl) sc_order_index.nd rfl rfl (sw_true rfl rfl rfl (by decide +kernel)) (pi_list (pv 5)) (blkOk_by (N := ["tree", "value", "index", "parts", "letter", "steps", "other", "rest", "taken"]) (sc := defScope s_order_index) (by decide +kernel)) (fun _ _ _ _ _ => (pg_tup rfl (pgs_cons (pg_name (i := 6) sc_order_index.nd rfl (.inl rfl)) (pgs_cons (pg_name (i := 7) sc_order_index.nd rfl (.inl rfl)) pgs_nil)))) (fun _ _ _ _ _ => pts_one (pt_cmpR op_eq (pv 6) (pv 4) (nomark _))) (fun _ _ _ _ _ => (pv 7)))
    (pss_cons (ps_if (pt_not (pt_truth (pv 8) (by intro _; rfl)))
      (pss_one ps_never) pss_nil)
    (pss_cons (ps_aug (i := 2) sc_order_index.nd rfl (.inl rfl) (pe_callB (cr_sum rfl) rfl M.sum (by decide +kernel) (pa_cons (pe_lc (own := [("other", 6), ("rest", 7)]) (g := gTup K 2 (gCons (gName 6) (gCons (gName 7) gNil))) rfl sc_order_index.nd (pi_list (pv 5)) (blkOk_by (N := ["tree", "value", "index", "parts", "letter", "steps", "other", "rest", "taken"]) (sc := defScope s_order_index) (by decide +kernel)) (fun _ _ _ _ _ => (pg_tup rfl (pgs_cons (pg_name (i := 6) sc_order_index.nd rfl (.inl rfl)) (pgs_cons (pg_name (i := 7) sc_order_index.nd rfl (.inl rfl)) pgs_nil)))) (fun _ _ _ _ _ => pts_one (pt_cmpR op_lt_str (pv 6) (pv 4) (nomark _))) (fun _ _ _ _ _ => (pe_call Dcount_together.ok (hr.mono (by omega)) rfl Dcount_together.g Dcount_together.kp Dcount_together.b .nil pass0 (pa_cons (pv 7) pa_nil)))) pa_nil)) ip_add)
    (pss_one (ps_set (i := 3) sc_order_index.nd rfl (.inl rfl) (pe_ix ix_list (pv 8) pe_int (fun _ _ => rfl)))))))))
    (pss_one (ps_ret (pv 2))))))), ?_⟩
  have fe := ft_ne hn
  have g0 := ft_fg nd
  have wl := hva.len g0
  rw [hooks_ft, B.hooks_len] at wl
  refine ⟨_, rfl, _, _, _, _, true, rfl, .ty _, .base (.str (tx w)), kit_ty (by decide +kernel), _, rfl, iteF ?_⟩
  refine ⟨_, rfl, tx w, rfl, (by rw [tx_len]; exact small (by omega)), _, rfl, v, t, rfl, hv, by omega, rfl, _, rfl, iteNS (by rw [tx_len, wl]) ?_⟩
  refine ⟨_, rfl, (by show 1 ≤ sizeLine; decide), fun p0 np0 => ?_⟩
  have k0 := same_new np0 (.lst [v])
  have ep0 := upd_same (H := H) (a := p0) (o := .lst [v])
  generalize upd H p0 (.lst [v]) = H0 at k0 ep0 ⊢
  refine ⟨_, rfl, _, rfl, ?_⟩
  refine for_text (x := tx w) (fun j σ H' => ∃ (k : Nat) (pj : Addr) (us : List V) (ts : List B) (o4 o5 o6 o7 o8 : Option V), σ = [some v, some (.str (tx w)), some (vn k), some (.ref pj), o4, o5, o6, o7, o8] ∧ LamX.ExtN H H' ∧ LamX.Tabs T H' ∧ H' pj = some (.lst us) ∧ TsAt H' us ts ∧ FG ts ∧ (hooksL ts).length ≤ 15 ∧ Valid ts (w.drop j) ∧ ∀ k', Idx ts (w.drop j) k' → Idx (ft t) w (k + k'))
    ⟨0, p0, [v], [t], none, none, none, none, none, rfl, same_extN k0, hT.ext k0, ep0, .cons (hv.same k0) .nil, by rw [← fe]; exact g0, by rw [← fe, hooks_ft, B.hooks_len]; omega, by rw [← fe]; exact hva, fun k' h => by rw [Nat.zero_add, fe]; exact h⟩
    (fun j c σ H1 hc hp => ?_) (fun σ H1 hp => ?_)
  · obtain ⟨k, pj, us, ts, o4, o5, o6, o7, o8, rfl, x1, T1, e1, ta, fg, h15, va, ix⟩ := hp
    rw [tx_cps] at hc
    have hj := (List.getElem?_eq_some_iff.mp hc).1
    have hd : w.drop j = c :: w.drop (j + 1) := by
      rw [List.drop_eq_getElem_cons hj, (List.getElem?_eq_some_iff.mp hc).2]
    rw [hd] at va ix
    have flen := fg_len fg
    refine ⟨_, rfl, pj, us, ts, rfl, SqL.of e1, ta, fg.nn, by omega, T1, fun ps ws SS H2 x2 T2 ep sa pm so => ?_⟩
    obtain ⟨rest, hm, va'⟩ : ∃ rest, (c, rest) ∈ stepsL ts ∧ Valid rest (w.drop (j + 1)) := by
      cases va with
      | cons hs h => exact ⟨_, hs, h⟩
    refine ⟨_, rfl, ps, rfl, ⟨_, SqL.of ep⟩, fun D nD => ?_⟩
    have kD := same_new nD (.lst [])
    refine lc_it (walk_list (K := K) (a := ps) (xs := ws)) (fun i H' => Same H2 H' ∧ H' D = some (.lst (((ws.take i).filter fun x => decide (kzOf H2 x = ch c)).map (secOf H2)))) ⟨kD, upd_same⟩ (fun i H' _ hp => SqL.of (hp.1 _ _ ep)) (fun i x H3 H3' hi hp hy => ?_) (fun H3 hp => ?_)
    · obtain ⟨s3, e3⟩ := hp
      obtain ⟨rfl, hx⟩ := hy
      obtain ⟨b, qa, d, vs', r', rfl, hs, f1, f2, tr⟩ := sa.get hx
      refine ⟨b, _, rfl, SqT.of (s3 _ _ f1), rfl, _, _, rfl, _, _, rfl, rfl, rfl, ?_⟩
      refine ⟨_, rfl, _, rfl, rfl, _, rfl, ?_⟩
      have kz1 := kzOf_at f1
      have sc1 := secOf_at f1
      rw [take_nextG hx, List.filter_append, List.map_append]
      have fl : (((ws.take i).filter fun x => decide (kzOf H2 x = ch c)).map (secOf H2)).length ≤ 1000 := by
        rw [List.length_map]
        refine Nat.le_trans (List.length_filter_le _ _) ?_
        rw [List.length_take]
        have l1 := sa.len
        have l2 := pm.length_eq
        have l3 : (stepsL ts).length = ts.length := by unfold stepsL; rw [List.length_map, List.length_range]
        omega
      by_cases hdc : d = c
      · subst hdc
        refine iteS rfl ?_
        refine ⟨_, rfl, _, e3, small1000 fl, fun b' o e => ?_, ?_⟩
        · rw [upd_ne (ne_of_none e nD)]; exact s3 _ _ e
        · rw [upd_same, List.filter_cons, if_pos (decide_eq_true kz1), List.filter_nil, List.map_cons, List.map_nil, sc1]
      · refine iteR (fun z => hdc (ch_inj z)) ?_
        refine ⟨s3, ?_⟩
        rw [List.filter_cons, if_neg (by rw [kz1]; exact fun z => hdc (ch_inj (of_decide_eq_true z))), List.filter_nil, List.map_nil, List.append_nil]
        exact e3
    · obtain ⟨s3, e3⟩ := hp
      rw [List.take_length] at e3
      -- the taken list
      obtain ⟨q', vs', f2, tr, tail, ht⟩ : ∃ (q' : Addr) (vs' : List V), H2 q' = some (.lst vs') ∧ TsAt H2 vs' rest ∧ ∃ tail, (ws.filter fun x => decide (kzOf H2 x = ch c)).map (secOf H2) = .ref q' :: tail := by
        obtain ⟨n, hn⟩ := List.getElem?_of_mem (pm.mem_iff.mpr hm)
        have hn1 := (List.getElem?_eq_some_iff.mp hn).1
        obtain ⟨y, hw⟩ : ∃ y, ws[n]? = some y := ⟨_, List.getElem?_eq_getElem (by rw [sa.len]; exact hn1)⟩
        obtain ⟨b1, q1, d1, vs1, r1, eb, hs1, f1, _, _⟩ := sa.get hw
        rw [hn] at hs1
        cases hs1
        have mem : y ∈ ws.filter fun x => decide (kzOf H2 x = ch c) := List.mem_filter.mpr ⟨List.mem_of_getElem? hw, decide_eq_true (by rw [eb]; exact kzOf_at f1)⟩
        cases hL : ws.filter fun x => decide (kzOf H2 x = ch c) with
        | nil => rw [hL] at mem; cases mem
        | cons x0 L =>
          have hx0 : x0 ∈ ws.filter fun x => decide (kzOf H2 x = ch c) := by rw [hL]; exact List.mem_cons_self
          obtain ⟨m1, m2⟩ := List.mem_filter.mp hx0
          obtain ⟨m, hm1⟩ := List.getElem?_of_mem m1
          obtain ⟨b2, q2, d2, vs2, r2, eb2, hs2, g1, g2, g3⟩ := sa.get hm1
          rw [eb2] at m2
          have m3 := of_decide_eq_true m2
          rw [kzOf_at g1] at m3
          have m4 := ch_inj m3
          subst m4
          have := step_inj fg hm (pm.mem_iff.mp (List.mem_of_getElem? hs2))
          subst this
          exact ⟨q2, vs2, g2, g3, L.map (secOf H2), by rw [List.map_cons, eb2, secOf_at g1]⟩
      rw [ht] at e3
      refine ⟨_, rfl, _, .inl ⟨_, SqL.of e3, rfl⟩, iteF ?_⟩
      refine ⟨_, rfl, _, rfl, ps, rfl, ⟨_, SqL.of (s3 _ _ ep)⟩, fun D2 nD2 => ?_⟩
      have kD2 := same_new nD2 (.lst [])
      refine lc_it (walk_list (K := K) (a := ps) (xs := ws)) (fun i H' => Same H3 H' ∧ H' D2 = some (.lst ((((SS.take i).filter fun s => decide (s.1 < c)).map fun s => ((togR s.2 : Nat) : Int)).map V.int))) ⟨kD2, upd_same⟩ (fun i H' _ hp => SqL.of (hp.1 _ _ (s3 _ _ ep))) (fun i x H4 H4' hi hp hy => ?_) (fun H4 hp => ?_)
      · obtain ⟨s4, e4⟩ := hp
        obtain ⟨rfl, hx⟩ := hy
        obtain ⟨b, qa, d, vs2, r', rfl, hs, f1, g2, g3⟩ := sa.get hx
        have s24 := s3.trans s4
        have hh := step_hooks fg (pm.mem_iff.mp (List.mem_of_getElem? hs))
        refine ⟨b, _, rfl, SqT.of (s24 _ _ f1), rfl, _, _, rfl, _, _, rfl, rfl, rfl, ?_⟩
        refine ⟨_, rfl, _, rfl, _, _, rfl, rfl, _, rfl, ?_⟩
        rw [ch_lt, take_nextG hs, List.filter_append, List.map_append, List.map_append]
        by_cases hdc : d < c
        · rw [decide_eq_true hdc]
          refine iteT ⟨_, rfl, qa, vs2, r', rfl, SqL.of (s24 _ _ g2), g3.same s24, by omega, fun H5 s5 => ?_⟩
          refine ⟨_, s5 _ _ e4, ?_, fun b' o e => ?_, ?_⟩
          · rw [List.length_map, List.length_map]
            refine small1000 (Nat.le_trans (List.length_filter_le _ _) ?_)
            rw [List.length_take]
            have l2 := pm.length_eq
            have l3 : (stepsL ts).length = ts.length := by unfold stepsL; rw [List.length_map, List.length_range]
            omega
          · rw [upd_ne (ne_of_none e nD2)]; exact s5 _ _ (s4 _ _ e)
          · rw [upd_same, List.filter_cons, if_pos (decide_eq_true hdc), together_eq]
            rfl
        · rw [decide_eq_false hdc]
          refine iteF ⟨s4, ?_⟩
          rw [List.filter_cons, if_neg (fun z => hdc (of_decide_eq_true z)), List.filter_nil, List.map_nil, List.map_nil, List.append_nil]
          exact e4
      · obtain ⟨s4, e4⟩ := hp
        rw [sa.len, List.take_length] at e4
        have sm : (((SS.filter fun s => decide (s.1 < c)).map fun s => ((togR s.2 : Nat) : Int))).sum = (below ts c : Int) := by
          have h1 : ((SS.filter fun s => decide (s.1 < c)).map fun s => togR s.2).sum = below ts c := ((pm.filter _).map _).sum_nat
          rw [← h1]
          generalize SS.filter (fun s => decide (s.1 < c)) = L
          induction L with
          | nil => rfl
          | cons s L ih => rw [List.map_cons, List.map_cons, List.sum_cons, List.sum_cons, ih, Int.natCast_add]
        have s24 := s3.trans s4
        have x4 := (x1.trans x2).trans (same_extN s24)
        have hh := step_hooks fg hm
        refine ⟨D2, _, rfl, SqL.of e4, _, _, rfl, rfl, ?_⟩
        rw [sm]
        refine ⟨_, rfl, D, _, _, _, rfl, rfl, SqL.of (s4 _ _ e3), atI_nat (j := 0) (v := .ref q') rfl, ?_⟩
        refine ⟨k + below ts c, q', vs', rest, _, _, _, _, _, rfl, x4, T2.ext s24, s24 _ _ f2, tr.same s24, (fg.step hm).1, by omega, va', fun k' h => ?_⟩
        have := ix _ (.cons hm h)
        rw [Nat.add_assoc]
        exact this
  · obtain ⟨k, pj, us, ts, o4, o5, o6, o7, o8, rfl, x1, T1, e1, ta, fg, h15, va, ix⟩ := hp
    rw [tx_cps, List.drop_length] at va ix
    cases va
    exact ⟨_, rfl, q k H1 x1 T1 (ix 0 .nil)⟩
end
/-! ### _law_all -/
theorem flat_len (c n : Nat) : ∀ F : List (List Nat), (∀ o ∈ F, o.length = n) → (F.flatMap (insAll c)).length = F.length * (n + 1)
  | [], _ => (Nat.zero_mul _).symm
  | o :: F, h => by
    rw [List.flatMap_cons, List.length_append, flat_len c n F fun p hp => h p (List.mem_cons_of_mem _ hp), List.length_cons, Nat.add_mul, Nat.one_mul]
    unfold insAll
    rw [List.length_map, List.length_range, h o List.mem_cons_self]
    omega
theorem allP_len (zs : List Nat) : (allP zs).length = facN zs.length := by
  induction zs using snoc_ind with
  | h0 => rfl
  | hs zs c ih =>
    rw [allP_snoc, flat_len c zs.length _ fun o ho => (allP_perm zs o ho).length_eq, ih, List.length_append]
    rfl
def spAll : Sp := fun vs H Q _ => ∃ zs : List Nat, vs = [vt zs] ∧ zs.length ≤ 5 ∧ ∀ (p : Addr) (ys : List (List Nat)) (H' : Hp), Same H H' → H' p = some (.lst (ys.map vt)) → ys.Perm (allP zs) → sortedS (ys.map tx) = true → Q (.ref p) H'
theorem perm_tx {ys : List Str} {P : List (List Nat)} (h : ys.Perm (P.map tx)) : ∃ Z : List (List Nat), ys = Z.map tx ∧ Z.Perm P := by
  refine ⟨ys.map fun s => s.cps.toList, ?_, ?_⟩
  · rw [List.map_map]
    have : (tx ∘ fun s : Str => s.cps.toList) = id := by
      funext s
      show (⟨s.cps.toList.toArray⟩ : Str) = s
      rw [Array.toArray_toList]
    rw [this, List.map_id]
  · have := h.map fun s : Str => s.cps.toList
    rw [List.map_map] at this
    have e : ((fun s : Str => s.cps.toList) ∘ tx) = id := rfl
    rw [e, List.map_id] at this
    exact this
section
variable {P : Program} {w : World} {K : PySem.W.Frag} {mg : Str → Option Value} {base : Heap} {f : Addr} {fd : FuncData}
theorem ok_all {k : Nat} (F : Fun K "_law_all" "_law_all" s__law_all f fd) (M : Mgs mg) : FnOk P w K mg base CX0 (k + 1) f fd ["_law_letters"] spAll := by
  refine F.ok sc__law_all (fun vs H Q E h => ?_) (fun cdv A outer s H vs Q E hr h => ?_)
  · obtain ⟨zs, rfl, _⟩ := h
    rfl
  obtain ⟨zs, rfl, h5, q⟩ := h
  refine ⟨_, (pss_cons (ps_set (i := 1) sc__law_all.nd rfl (.inl rfl) (pe_lst (pa_cons pe_str pa_nil)))
    (pss_cons (ps_for PassesOwn.never rfl (pi_str (pv 0)) (pg_name (i := 2) sc__law_all.nd rfl (.inr rfl))
      (pss_cons (ps_set (i := 3) sc__law_all.nd rfl (.inl rfl) (pe_lst pa_nil))
    (pss_cons (ps_for PassesOwn.never rfl (pi_list (pv 1)) (pg_name (i := 4) sc__law_all.nd rfl (.inr rfl))
      (pss_one (ps_expr (pe_bm PySem.F.plainAttrs_list PySem.F.slot_list_extend PySem.F.type_list_extend mt_extend (pv 3) (pa_cons (pe_lc (own := [("_law_k", 5)]) (g := gName 5) (tt := tYes) rfl sc__law_all.nd (pi_range1 rfl M.range (pa_cons (pe_op op_add (pe_callB call_len_str rfl M.len PySem.boot_len (pa_cons (pv 4) pa_nil)) pe_int) pa_nil)) (blkOk_by (N := ["_law_letters", "_law_found", "_law_letter", "_law_longer", "_law_order_here", "_law_k"]) (sc := defScope s__law_all) (by decide +kernel)) (fun _ _ _ _ _ => (pg_name (i := 5) sc__law_all.nd rfl (.inl rfl))) (fun _ _ _ _ _ => pts_nil) (fun _ _ _ _ _ => (pe_op op_add_str (pe_op op_add_str (pe_slice sl_str (pv 4) po_none (po_some (pv 5))) (pv 2)) (pe_slice sl_str (pv 4) (po_some (pv 5)) po_none)))) pa_nil)))))
    (pss_one (ps_set (i := 1) sc__law_all.nd rfl (.inl rfl) (pv 3))))))
    (pss_one (ps_ret (pe_callB cr_sortedSA rfl M.sorted (by decide +kernel) (pa_cons (pv 1) pa_nil)))))), ?_⟩
  refine ⟨(by show 1 ≤ sizeLine; decide), fun p0 np0 => ?_⟩
  rw [str_0]
  have k0 := same_new np0 (.lst [vt []])
  have e0 : (upd H p0 (.lst [vt []])) p0 = some (.lst ((allP (zs.take 0)).map vt)) := by rw [upd_same, List.take_zero]; rfl
  generalize upd H p0 (.lst [vt []]) = H0 at k0 e0 ⊢
  refine ⟨_, rfl, _, rfl, ?_⟩
  refine for_text (x := tx zs) (fun i σ H' => ∃ (pf : Addr) (o2 o3 o4 : Option V), σ = [some (vt zs), some (.ref pf), o2, o3, o4, none] ∧ Same H H' ∧ H' pf = some (.lst ((allP (zs.take i)).map vt))) ⟨p0, none, none, none, rfl, k0, e0⟩ (fun i c σ H1 hc hp => ?_) (fun σ H1 hp => ?_)
  · obtain ⟨pf, o2, o3, o4, rfl, s1, ef⟩ := hp
    rw [tx_cps] at hc
    have hi := (List.getElem?_eq_some_iff.mp hc).1
    have tl : (zs.take i).length = i := by rw [List.length_take]; omega
    have fl := allP_len (zs.take i)
    have fl1 := allP_len (zs.take (i + 1))
    have tl1 : (zs.take (i + 1)).length = i + 1 := by rw [List.length_take]; omega
    rw [tl] at fl
    rw [tl1] at fl1
    have f120 : facN (i + 1) ≤ 120 := Nat.le_trans (facN_mono (show i + 1 ≤ 5 by omega)) (by decide)
    have tk := take_nextG hc
    refine ⟨(by show 0 ≤ sizeLine; decide), fun pl npl => ?_⟩
    have k2 := same_new npl (.lst [])
    have el := upd_same (H := H1) (a := pl) (o := .lst [])
    have ef2 := k2 _ _ ef
    have s2 := s1.trans k2
    have nlf : pf ≠ pl := ne_of_none ef npl
    have nplH := s1.free npl
    generalize upd H1 pl (.lst []) = H2 at el ef2 s2 ⊢
    refine ⟨_, rfl, pf, rfl, ⟨_, SqL.of ef2⟩, ?_⟩
    refine for_list (K := K) (a := pf) (xs := (allP (zs.take i)).map vt) (fun j σ H' => ∃ (o4 : Option V), σ = [some (vt zs), some (.ref pf), some (.str (ch c)), some (.ref pl), o4, none] ∧ (∀ b o, b ≠ pl → H2 b = some o → H' b = some o) ∧ H' pl = some (.lst ((((allP (zs.take i)).take j).flatMap (insAll c)).map vt))) ⟨_, rfl, (fun b o _ e => e), el⟩ (fun j σ H' _ hp => by obtain ⟨_, _, sm, _⟩ := hp; exact SqL.of (sm _ _ nlf ef2)) (fun j x σ H3 hx hp => ?_) (fun σ H3 hp => ?_)
    · obtain ⟨o4, rfl, s3, el3⟩ := hp
      rw [List.getElem?_map] at hx
      obtain ⟨o, ho, rfl⟩ := Option.map_eq_some_iff.mp hx
      have hj := (List.getElem?_eq_some_iff.mp ho).1
      have ol : o.length = i := by rw [(allP_perm _ o (List.mem_of_getElem? ho)).length_eq, tl]
      have lz : (tx o).length ≤ sizeLine := small (by rw [tx_len]; omega)
      refine ⟨_, rfl, .inl ⟨rfl, _, SqL.of el3⟩, ?_⟩
      refine ⟨_, rfl, _, rfl, lz, _, _, rfl, rfl, ((o.length + 1 : Nat) : Int), ?_, by omega, by omega, fun D nD => ?_⟩
      · rw [tx_len]; rfl
      rw [Int.toNat_natCast]
      have kD := same_new nD (.lst [])
      have nlD : pl ≠ D := ne_of_none el3 nD
      refine lc_range (lo := 0) (n := o.length + 1) (fun t H' => Same H3 H' ∧ H' D = some (.lst (((insAll c o).take t).map vt))) ⟨kD, upd_same⟩ (fun t H4 ht hp => ?_) (fun H4 hp => ?_)
      · obtain ⟨s4, eD⟩ := hp
        have hg : (insAll c o)[t]? = some (o.take t ++ [c] ++ o.drop t) := by
          unfold insAll
          rw [List.getElem?_map, List.getElem?_range ht]
          rfl
        refine ⟨rfl, kept ?_⟩
        refine ⟨_, rfl, _, rfl, _, rfl, _, rfl, lz, _, rfl, _, _, rfl, rfl, ?_, _, rfl, _, rfl, _, rfl, _, rfl, lz, _, _, rfl, rfl, ?_, ?_⟩
        · rw [Int.zero_add, tx_to, tx_len, List.length_take]; exact small (by show _ + 1 ≤ 1000; omega)
        · rw [Int.zero_add, tx_to, tx_from, show tx (o.take t) ++ ch c = tx (o.take t ++ [c]) from tx_app _ [c], tx_len, tx_len, List.length_append, List.length_take, List.length_drop]; exact small (by show _ + 1 + _ ≤ 1000; omega)
        rw [Int.zero_add, tx_to, tx_from, show tx (o.take t) ++ ch c = tx (o.take t ++ [c]) from tx_app _ [c], tx_app]
        refine ⟨_, eD, ?_, fun b o' e => ?_, ?_⟩
        · rw [List.length_map, List.length_take]; exact small1000 (by omega)
        · rw [upd_ne (ne_of_none e nD)]; exact s4 _ _ e
        · rw [upd_same, take_nextG hg, List.map_append]; rfl
      obtain ⟨s4, eD⟩ := hp
      have il : (insAll c o).length = o.length + 1 := by unfold insAll; rw [List.length_map, List.length_range]
      rw [List.take_of_length_le (Nat.le_of_eq il)] at eD
      have fj : (((allP (zs.take i)).take j).flatMap (insAll c)).length ≤ 120 := by
        rw [flat_len c i _ fun o' ho' => by rw [(allP_perm _ o' (List.mem_of_mem_take ho')).length_eq, tl], List.length_take]
        refine Nat.le_trans (Nat.mul_le_mul_right _ (Nat.min_le_right _ _)) ?_
        rw [fl]
        exact f120
      refine ⟨pl, D, _, _, rfl, rfl, s4 _ _ el3, eD, ?_, some (vt o), rfl, fun b o' nb e => ?_, ?_⟩
      · rw [List.length_map, List.length_map, il]; exact small (by omega)
      · rw [upd_ne nb]; exact s4 _ _ (s3 _ _ nb e)
      · rw [upd_same, take_nextG ho, List.flatMap_append, List.map_append]
        show _ = some (HO.lst (_ ++ List.map vt (insAll c o ++ [])))
        rw [List.append_nil]
    · obtain ⟨o4, rfl, s3, el3⟩ := hp
      rw [List.length_map, List.take_length, ← allP_snoc, ← tk] at el3
      refine ⟨_, rfl, pl, some (.str (ch c)), some (.ref pl), o4, rfl, fun b o e => ?_, el3⟩
      exact s3 _ _ (ne_of_none e nplH) (s2 _ _ e)
  · obtain ⟨pf, o2, o3, o4, rfl, s1, ef⟩ := hp
    rw [tx_cps, List.take_length] at ef
    refine ⟨_, rfl, pf, (allP zs).map tx, rfl, by rw [List.map_map]; exact SqL.of ef, fun ys p perm so np => ?_⟩
    obtain ⟨Z, rfl, pz⟩ := perm_tx perm
    refine q p Z _ (s1.trans (same_new np _)) ?_ pz so
    rw [upd_same, List.map_map]
    rfl
def spNumber (N : Nat) : Sp := fun vs H Q _ => ∃ (v : V) (t : B), vs = [v] ∧ BAt H v t ∧ t.size < N ∧ t.size ≤ 15 ∧ ∀ (p : Addr) (H' : Hp), Same H H' → H' p = some (.lst [vn t.size, vn t.num]) → Q (.ref p) H'
end
/-! ### all orders, in their order; groups by tree -/
theorem risingS_tx : ∀ (p : List Nat) (l : List (List Nat)), risingS (tx p) (l.map tx) = true → (p :: l).Pairwise (fun a b => ¬ b < a)
  | p, [], _ => List.pairwise_singleton _ _
  | p, c :: l, h => by
    have h : (!ltCps c p && risingS (tx c) (l.map tx)) = true := h
    rw [Bool.and_eq_true] at h
    have h2 := risingS_tx c l h.2
    have h1 : ¬ c < p := by
      have := h.1
      rw [ltCps_eq] at this
      simpa using this
    refine List.pairwise_cons.mpr ⟨fun d hd => ?_, h2⟩
    rcases List.mem_cons.mp hd with rfl | hd
    · exact h1
    · have h3 := (List.pairwise_cons.mp h2).1 d hd
      exact List.not_lt.mpr (List.le_trans (List.not_lt.mp h1) (List.not_lt.mp h3))
theorem sortedS_tx : ∀ {l : List (List Nat)}, sortedS (l.map tx) = true → l.Pairwise (fun a b => ¬ b < a)
  | [], _ => .nil
  | p :: l, h => risingS_tx p l h
theorem lt_of_ndL {l : List (List Nat)} (h : l.Pairwise (fun a b => ¬ b < a)) (nd : l.Nodup) : l.Pairwise (· < ·) := by
  refine List.Pairwise.imp₂ ?_ h nd
  intro a b h1 h2
  by_cases h : a < b
  · exact h
  · exact absurd (List.le_antisymm (List.not_lt.mp h1) (List.not_lt.mp h)) h2
theorem eq_of_permL : ∀ {l z : List (List Nat)}, l.Pairwise (· < ·) → z.Pairwise (· < ·) → l.Perm z → l = z
  | [], _, _, _, p => (List.nil_perm.mp p).symm
  | _ :: _, [], _, _, p => absurd p.length_eq (by simp)
  | a :: l, b :: z, hl, hz, p => by
    obtain ⟨l1, l2⟩ := List.pairwise_cons.mp hl
    obtain ⟨z1, z2⟩ := List.pairwise_cons.mp hz
    have e : a = b := by
      rcases List.mem_cons.mp (p.mem_iff.mp List.mem_cons_self) with e | e
      · exact e
      · rcases List.mem_cons.mp (p.mem_iff.mpr (List.mem_cons_self (a := b) (l := z))) with e' | e'
        · exact e'.symm
        · exact absurd (List.lt_trans (l1 b e') (z1 a e)) (List.lt_irrefl _)
    subst e
    rw [eq_of_permL l2 z2 ((List.perm_cons a).mp p)]
/-! all orders are different -/
theorem insAll_nodup {c : Nat} {o : List Nat} (hc : c ∉ o) : (insAll c o).Nodup := by
  unfold insAll
  rw [List.nodup_iff_pairwise_ne, List.pairwise_map]
  refine List.Pairwise.imp_of_mem (fun {a b} ha hb (h : a ≠ b) e => h ?_) (List.nodup_iff_pairwise_ne.mp List.nodup_range)
  have ha := List.mem_range.mp ha
  have hb := List.mem_range.mp hb
  have tw : ∀ k : Nat, (o.take k ++ [c] ++ o.drop k).takeWhile (fun d => decide (d ≠ c)) = o.take k := fun k => by
    rw [List.append_assoc, List.takeWhile_append_of_pos (fun d hd => by
      rw [decide_eq_true_eq]
      intro z
      exact hc (z ▸ List.mem_of_mem_take hd))]
    rw [List.singleton_append, List.takeWhile_cons_of_neg (by simp), List.append_nil]
  have e2 := congrArg (fun l => (List.takeWhile (fun d => decide (d ≠ c)) l).length) e
  simp only [tw, List.length_take] at e2
  omega
theorem insAll_erase {c : Nat} {o p : List Nat} (hc : c ∉ o) (h : p ∈ insAll c o) : p.filter (fun d => decide (d ≠ c)) = o := by
  obtain ⟨k, _, rfl⟩ := List.mem_map.mp h
  have hk : ∀ l : List Nat, (∀ d ∈ l, d ∈ o) → l.filter (fun d => decide (d ≠ c)) = l := fun l hl => List.filter_eq_self.mpr fun d hd => by
    rw [decide_eq_true_eq]
    intro z
    exact hc (z ▸ hl d hd)
  rw [List.filter_append, List.filter_append, hk _ fun d => List.mem_of_mem_take, hk _ fun d => List.mem_of_mem_drop]
  rw [List.filter_cons_of_neg (by simp), List.filter_nil, List.append_nil, List.take_append_drop]
theorem allP_nodup (zs : List Nat) : zs.Nodup → (allP zs).Nodup := by
  induction zs using snoc_ind with
  | h0 => intro _; exact List.nodup_cons.mpr ⟨(fun z => by cases z), List.nodup_nil⟩
  | hs zs c ih =>
    intro nd
    have nd1 : zs.Nodup := nd.sublist (List.sublist_append_left _ _)
    have hc : c ∉ zs := fun z => (List.nodup_append.mp nd).2.2 c z c (List.mem_singleton.mpr rfl) rfl
    have hco : ∀ o ∈ allP zs, c ∉ o := fun o ho z => hc ((allP_perm zs o ho).mem_iff.mp z)
    rw [allP_snoc, List.nodup_iff_pairwise_ne, List.pairwise_flatMap]
    refine ⟨fun o ho => List.nodup_iff_pairwise_ne.mp (insAll_nodup (hco o ho)), ?_⟩
    refine List.Pairwise.imp_of_mem (fun {a b} ha hb (h : a ≠ b) x hx y hy e => h ?_) (List.nodup_iff_pairwise_ne.mp (ih nd1))
    rw [← insAll_erase (hco a ha) hx, ← insAll_erase (hco b hb) hy, e]
theorem perm_of_mem {α : Type} [DecidableEq α] {l m : List α} (h1 : l.Nodup) (h2 : m.Nodup) (h : ∀ x, x ∈ l ↔ x ∈ m) : l.Perm m :=
  perm_of_le h1 (fun x hx => (h x).mp hx) (nodup_le h2 fun x hx => (h x).mpr hx)
/-! orders without a barrier -/
theorem free_iff {zs : List Nat} (nd : zs.Nodup) : (gr zs).pre = zs ↔ ¬ Bar3 zs :=
  ⟨fun h b => bst_noBar (bst_gr nd) (by rw [h]; exact b), pre_of_noBar zs.length zs (Nat.le_refl _) nd⟩
def isFree (zs : List Nat) : Bool := decide ((gr zs).pre = zs)
theorem bars_free {zs : List Nat} (nd : zs.Nodup) : bars0 zs zs.length = [] ↔ isFree zs = true := by
  unfold isFree
  rw [decide_eq_true_eq, free_iff nd]
  constructor
  · intro h b
    obtain ⟨l, i, j, k⟩ := barr_of b
    have := bars_mem.mpr k
    rw [h] at this
    cases this
  · intro h
    cases e : bars0 zs zs.length with
    | nil => rfl
    | cons x r =>
      obtain ⟨l, i, j⟩ := x
      have : (l, i, j) ∈ bars0 zs zs.length := by rw [e]; exact List.mem_cons_self
      exact absurd (bars_mem.mp this).bar h
theorem lbars_free {zs : List Nat} (nd : zs.Nodup) : lb0 zs zs.length = [] ↔ isFree zs = true := by
  unfold isFree
  rw [decide_eq_true_eq, free_iff nd]
  constructor
  · intro h b
    obtain ⟨l, i, j, k⟩ := barr_of b
    have := lb_mem.mpr k
    rw [h] at this
    cases this
  · intro h
    cases e : lb0 zs zs.length with
    | nil => rfl
    | cons x r =>
      obtain ⟨l, i, j⟩ := x
      have : (l, i, j) ∈ lb0 zs zs.length := by rw [e]; exact List.mem_cons_self
      exact absurd (lb_mem.mp this).bar h
theorem relab {zs : List Nat} (nd : zs.Nodup) : ∃ g : Nat → Nat, (∀ c ∈ zs, ∀ d ∈ zs, (c < d ↔ g c < g d)) ∧ (∀ c ∈ zs, ∀ d ∈ zs, g c = g d → c = d) ∧ (zs.map g).Perm (List.range zs.length) := by
  let g : Nat → Nat := fun c => (zs.filter fun d => decide (d < c)).length
  have gle : ∀ c ∈ zs, ∀ d ∈ zs, c < d → g c < g d := fun c hc d hd hlt => by
    have n1 : (c :: zs.filter fun e => decide (e < c)).Nodup := List.nodup_cons.mpr ⟨fun z => by have := of_decide_eq_true (List.mem_filter.mp z).2; omega, nd.sublist List.filter_sublist⟩
    have := nodup_le n1 (m := zs.filter fun e => decide (e < d)) fun e he => by
      rcases List.mem_cons.mp he with rfl | he
      · exact List.mem_filter.mpr ⟨hc, decide_eq_true hlt⟩
      · obtain ⟨a, b⟩ := List.mem_filter.mp he
        have := of_decide_eq_true b
        exact List.mem_filter.mpr ⟨a, decide_eq_true (by omega)⟩
    exact this
  have mono : ∀ c ∈ zs, ∀ d ∈ zs, (c < d ↔ g c < g d) := fun c hc d hd => by
    constructor
    · exact gle c hc d hd
    · intro h
      rcases Nat.lt_trichotomy c d with e | e | e
      · exact e
      · rw [e] at h; omega
      · have := gle d hd c hc e; omega
  have inj : ∀ c ∈ zs, ∀ d ∈ zs, g c = g d → c = d := fun c hc d hd e => by
    rcases Nat.lt_trichotomy c d with h | h | h
    · have := gle c hc d hd h; omega
    · exact h
    · have := gle d hd c hc h; omega
  have glt : ∀ c ∈ zs, g c < zs.length := fun c hc => by
    have n1 : (c :: zs.filter fun e => decide (e < c)).Nodup := List.nodup_cons.mpr ⟨fun z => by have := of_decide_eq_true (List.mem_filter.mp z).2; omega, nd.sublist List.filter_sublist⟩
    have := nodup_le n1 (m := zs) fun e he => by
      rcases List.mem_cons.mp he with rfl | he
      · exact hc
      · exact (List.mem_filter.mp he).1
    exact this
  refine ⟨g, mono, inj, perm_of_le ?_ ?_ ?_⟩
  · rw [List.nodup_iff_pairwise_ne, List.pairwise_map]
    exact List.Pairwise.imp_of_mem (fun {a b} ha hb (h : a ≠ b) e => h (inj a ha b hb e)) nd
  · intro x hx
    obtain ⟨c, hc, rfl⟩ := List.mem_map.mp hx
    exact List.mem_range.mpr (glt c hc)
  · rw [List.length_map, List.length_range]; exact Nat.le_refl _
theorem B.mapT_pre (g : Nat → Nat) : ∀ t : B, (t.mapT g).pre = t.pre.map g
  | .nil => rfl
  | .node l x r => by
    show g x :: ((l.mapT g).pre ++ (r.mapT g).pre) = (x :: (l.pre ++ r.pre)).map g
    rw [l.mapT_pre g, r.mapT_pre g, List.map_cons, List.map_append]
theorem map_injL {g : Nat → Nat} {S : List Nat} (inj : ∀ c ∈ S, ∀ d ∈ S, g c = g d → c = d) : ∀ {l m : List Nat}, (∀ c ∈ l, c ∈ S) → (∀ c ∈ m, c ∈ S) → l.map g = m.map g → l = m
  | [], [], _, _, _ => rfl
  | [], _ :: _, _, _, h => by cases h
  | _ :: _, [], _, _, h => by cases h
  | a :: l, b :: m, h1, h2, h => by
    rw [List.map_cons, List.map_cons] at h
    obtain ⟨e1, e2⟩ := List.cons.inj h
    rw [inj a (h1 a List.mem_cons_self) b (h2 b List.mem_cons_self) e1, map_injL inj (fun c hc => h1 c (List.mem_cons_of_mem _ hc)) (fun c hc => h2 c (List.mem_cons_of_mem _ hc)) e2]
def cat : Nat → Nat
  | 0 => 1 | 1 => 1 | 2 => 2 | 3 => 5 | 4 => 14 | _ => 42
theorem allP_permP {zs ws : List Nat} (p : zs.Perm ws) (nd : zs.Nodup) : (allP zs).Perm (allP ws) :=
  perm_of_mem (allP_nodup _ nd) (allP_nodup _ (p.nodup_iff.mp nd)) fun x => ⟨fun h => allP_all _ _ ((allP_perm _ x h).trans p), fun h => allP_all _ _ ((allP_perm _ x h).trans p.symm)⟩
def isFreeB (zs : List Nat) : Bool := (gr zs).pre.beq zs
theorem few_free : ((List.range 6).all fun n => Nat.beq ((allP (List.range n)).filter isFreeB).length (cat n)) = true := by decide +kernel
theorem isFreeB_eq (zs : List Nat) : isFreeB zs = isFree zs := by
  unfold isFreeB isFree
  by_cases h : (gr zs).pre = zs
  · rw [decide_eq_true h]
    exact beq_iff_eq.mpr h
  · rw [decide_eq_false h]
    exact beq_eq_false_iff_ne.mpr h
theorem free_count {zs : List Nat} (nd : zs.Nodup) (h5 : zs.length ≤ 5) : ((allP zs).filter isFree).length = cat zs.length := by
  obtain ⟨g, mono, inj, pr⟩ := relab nd
  have h1 := List.all_eq_true.mp few_free zs.length (List.mem_range.mpr (by omega))
  have h2 := Nat.eq_of_beq_eq_true h1
  rw [← h2]
  have ndr : (zs.map g).Nodup := pr.nodup_iff.mpr List.nodup_range
  have pp := (allP_permP pr ndr).filter isFreeB
  rw [← pp.length_eq, allP_map, List.filter_map, List.length_map]
  refine congrArg List.length (List.filter_congr fun p hp => ?_)
  have hpz : ∀ c ∈ p, c ∈ zs := fun c hc => (allP_perm zs p hp).mem_iff.mp hc
  show isFree p = isFreeB (p.map g)
  rw [isFreeB_eq]
  unfold isFree
  rw [gr_map g zs mono p hpz, B.mapT_pre]
  by_cases e : (gr p).pre = p
  · rw [decide_eq_true e, decide_eq_true (by rw [e])]
  · rw [decide_eq_false e, decide_eq_false fun z => e (map_injL inj (fun c hc => hpz c ((gr_mem' p c).mp hc)) hpz z)]
/-! the numbers of a group's orders -/
theorem mrg_filter (x : Nat) : ∀ w : List Nat, Mrg (w.filter fun c => decide (c < x)) (w.filter fun c => !decide (c < x)) w
  | [] => .nil
  | c :: w => by
    by_cases h : c < x
    · rw [List.filter_cons_of_pos (by simpa using h), List.filter_cons_of_neg (by simpa using h)]
      exact .left c (mrg_filter x w)
    · rw [List.filter_cons_of_neg (by simpa using h), List.filter_cons_of_pos (by simpa using h)]
      exact .right c (mrg_filter x w)
theorem gr_valid : ∀ (n : Nat) (w : List Nat), w.length ≤ n → w.Nodup → Valid (ft (gr w)) w
  | _, [], _, _ => .nil
  | 0, _ :: _, h, _ => absurd h (Nat.not_succ_le_zero _)
  | n + 1, x :: w, h, nd => by
    obtain ⟨nx, nw⟩ := List.nodup_cons.mp nd
    have hl : w.length ≤ n := Nat.le_of_succ_le_succ h
    have s1 : (w.filter fun c => decide (c < x)).Sublist w := List.filter_sublist
    have s2 : (w.filter fun c => !decide (c < x)).Sublist w := List.filter_sublist
    have n1 := nw.sublist s1
    have n2 := nw.sublist s2
    have v1 := gr_valid n _ (Nat.le_trans s1.length_le hl) n1
    have v2 := gr_valid n _ (Nat.le_trans s2.length_le hl) n2
    rw [gr_cons, ft_node]
    refine .cons (c := x) (rest := kids (gr (w.filter fun c => decide (c < x))) (gr (w.filter fun c => !decide (c < x)))) ?_ ?_
    · rw [steps_one]
      exact List.mem_singleton.mpr rfl
    · rw [kids_ft]
      exact mrg_valid (mrg_filter x w) (ft_fg ((gr_perm _).nodup_iff.mpr n1)) (ft_fg ((gr_perm _).nodup_iff.mpr n2)) v1 v2
theorem idx_mono {ts : List B} {a : List Nat} {k : Nat} (h : Idx ts a k) : ∀ {b : List Nat} {j : Nat}, FG ts → Idx ts b j → a < b → k < j := by
  induction h with
  | nil =>
    intro b j _ hb lt
    cases hb with
    | nil => exact absurd lt (List.lt_irrefl _)
    | cons hm _ => cases hm
  | @cons ts c rest w k hm hi ih =>
    intro b j g hb lt
    cases hb with
    | nil => cases hm
    | @cons _ c' rest' w' k' hm' hi' =>
      rcases List.cons_lt_cons_iff.mp lt with h | ⟨h, lt'⟩
      · have h1 := below_lt hm h
        have h2 := idx_lt hi (g.step hm).1
        omega
      · subst h
        have e := step_inj g hm hm'
        subst e
        have := ih (g.step hm).1 hi' lt'
        omega
theorem asc_range : ∀ (l : List Nat), l.Pairwise (· < ·) → (∀ x ∈ l, x < l.length) → l = List.range l.length := by
  intro l hl hb
  have nd : l.Nodup := hl.imp fun h => Nat.ne_of_lt h
  have p : l.Perm (List.range l.length) := perm_of_le nd (fun x hx => List.mem_range.mpr (hb x hx)) (by rw [List.length_range]; exact Nat.le_refl _)
  have hr : (List.range l.length).Pairwise (· < ·) := List.pairwise_lt_range
  have key : ∀ {l z : List Nat}, l.Pairwise (· < ·) → z.Pairwise (· < ·) → l.Perm z → l = z := by
    intro l
    induction l with
    | nil => intro z _ _ p; exact (List.nil_perm.mp p).symm
    | cons a l ih =>
      intro z hl hz p
      cases z with
      | nil => exact absurd p.length_eq (by simp)
      | cons b z =>
        obtain ⟨l1, l2⟩ := List.pairwise_cons.mp hl
        obtain ⟨z1, z2⟩ := List.pairwise_cons.mp hz
        have e : a = b := by
          rcases List.mem_cons.mp (p.mem_iff.mp List.mem_cons_self) with e | e
          · exact e
          · rcases List.mem_cons.mp (p.mem_iff.mpr (List.mem_cons_self (a := b) (l := z))) with e' | e'
            · exact e'.symm
            · have := l1 b e'
              have := z1 a e
              omega
        subst e
        rw [ih l2 z2 ((List.perm_cons a).mp p)]
  exact key hl hr p
theorem group_numbers {zs : List Nat} {ys : List (List Nat)} {t : B} {G : List (List Nat)} {ks : List Nat} (nd : zs.Nodup) (h5 : zs.length ≤ 5) (p : ys.Perm (allP zs)) (so : ys.Pairwise (· < ·)) {o : List Nat} (ho : o ∈ ys) (et : gr o = t)
    (eG : G = ys.filter fun q => decide (gr q = t)) (hk : Paired (fun q k => Idx (ft t) q k) G ks) : G.length = t.num ∧ ks = List.range G.length := by
  have po : o.Perm zs := allP_perm zs o (p.mem_iff.mp ho)
  have ndo : o.Nodup := po.nodup_iff.mpr nd
  have fg : FG (ft t) := ft_fg (by rw [← et]; exact (gr_perm o).nodup_iff.mpr ndo)
  have len : G.length = t.num := by
    have h1 := many_num ndo (by rw [po.length_eq]; exact h5)
    rw [et] at h1
    rw [← h1, eG]
    unfold many
    rw [((p.trans (allP_permP po ndo).symm).filter _).length_eq]
    refine congrArg List.length (List.filter_congr fun q _ => ?_)
    rw [B.beq_eq, et]
  refine ⟨len, ?_⟩
  have lk : G.length = ks.length := Paired.length hk
  have soG : G.Pairwise (· < ·) := by rw [eG]; exact so.sublist List.filter_sublist
  have key : ∀ {G : List (List Nat)} {ks : List Nat}, Paired (fun q k => Idx (ft t) q k) G ks → G.Pairwise (· < ·) → ks.Pairwise (· < ·) ∧ (∀ k ∈ ks, k < t.num) ∧ ∀ q j, Idx (ft t) q j → (∀ r ∈ G, q < r) → ∀ k ∈ ks, j < k := by
    intro G ks h
    induction h with
    | nil => intro _; exact ⟨.nil, fun _ h => (by cases h), fun _ _ _ _ _ h => (by cases h)⟩
    | @cons q k G ks r _ ih =>
      intro hp
      obtain ⟨p1, p2⟩ := List.pairwise_cons.mp hp
      obtain ⟨i1, i2, i3⟩ := ih p2
      refine ⟨List.pairwise_cons.mpr ⟨fun j hj => i3 q k r p1 j hj, i1⟩, fun j hj => ?_, fun q' j' hi hlt j hj => ?_⟩
      · rcases List.mem_cons.mp hj with rfl | hj
        · rw [← togR_ft]; exact idx_lt r fg
        · exact i2 j hj
      · rcases List.mem_cons.mp hj with rfl | hj
        · exact idx_mono hi fg r (hlt q List.mem_cons_self)
        · exact i3 q' j' hi (fun r' hr' => hlt r' (List.mem_cons_of_mem _ hr')) j hj
  obtain ⟨k1, k2, _⟩ := key hk soG
  have := asc_range ks k1 fun x hx => by rw [← lk, len]; exact k2 x hx
  rw [this, lk, ← this]
/-! the groups -/
abbrev GT : Type := List (B × List (List Nat))
def addG (G : GT) (t : B) (o : List Nat) : GT := if (G.any fun p => decide (p.1 = t)) = true then G.map (fun p => if p.1 = t then (p.1, p.2 ++ [o]) else p) else G ++ [(t, [o])]
def grp (ys : List (List Nat)) : GT := ys.foldl (fun G o => addG G (gr o) o) []
theorem grp_snoc (ys : List (List Nat)) (o : List Nat) : grp (ys ++ [o]) = addG (grp ys) (gr o) o := by
  unfold grp
  rw [List.foldl_append]
  rfl
structure GOk (ys : List (List Nat)) (G : GT) : Prop where
  nd : (G.map (·.1)).Nodup
  has : ∀ o ∈ ys, gr o ∈ G.map (·.1)
  ones : ∀ p ∈ G, (∃ o ∈ ys, gr o = p.1) ∧ p.2 = ys.filter fun o => decide (gr o = p.1)
theorem grp_ok (ys : List (List Nat)) : GOk ys (grp ys) := by
  have ind : ∀ {P : List (List Nat) → Prop}, P [] → (∀ l c, P l → P (l ++ [c])) → ∀ l, P l := by
    intro P h0 hs l
    have : ∀ m : List (List Nat), P m.reverse := by
      intro m
      induction m with
      | nil => exact h0
      | cons c m ih => rw [List.reverse_cons]; exact hs _ c ih
    have := this l.reverse
    rwa [List.reverse_reverse] at this
  refine ind (P := fun ys => GOk ys (grp ys)) ⟨List.nodup_nil, (fun _ h => by cases h), (fun _ h => by cases h)⟩ (fun ys o ih => ?_) ys
  rw [grp_snoc]
  unfold addG
  by_cases h : ((grp ys).any fun p => decide (p.1 = gr o)) = true
  · rw [if_pos h]
    have ek : ((grp ys).map fun p => if p.1 = gr o then (p.1, p.2 ++ [o]) else p).map (·.1) = (grp ys).map (·.1) := by
      rw [List.map_map]
      refine List.map_congr_left fun p _ => ?_
      show (if p.1 = gr o then (p.1, p.2 ++ [o]) else p).1 = p.1
      split <;> rfl
    obtain ⟨p0, hp0, e0⟩ := List.any_eq_true.mp h
    have e0 := of_decide_eq_true e0
    refine ⟨by rw [ek]; exact ih.nd, fun q hq => ?_, fun p hp => ?_⟩
    · rw [ek]
      rcases List.mem_append.mp hq with hq | hq
      · exact ih.has q hq
      · rw [List.mem_singleton.mp hq, ← e0]
        exact List.mem_map.mpr ⟨p0, hp0, rfl⟩
    · obtain ⟨p1, hp1, rfl⟩ := List.mem_map.mp hp
      obtain ⟨⟨q, hq, eq⟩, e2⟩ := ih.ones p1 hp1
      by_cases e : p1.1 = gr o
      · rw [if_pos e]
        refine ⟨⟨q, List.mem_append_left _ hq, eq⟩, ?_⟩
        show p1.2 ++ [o] = _
        rw [List.filter_append, e2, List.filter_cons_of_pos (by simpa using e.symm), List.filter_nil]
      · rw [if_neg e]
        refine ⟨⟨q, List.mem_append_left _ hq, eq⟩, ?_⟩
        rw [List.filter_append, List.filter_cons_of_neg (by simpa using fun z : gr o = p1.1 => e z.symm), List.filter_nil, List.append_nil]
        exact e2
  · rw [if_neg h]
    have hn : ∀ p ∈ grp ys, p.1 ≠ gr o := fun p hp z => h (List.any_eq_true.mpr ⟨p, hp, decide_eq_true z⟩)
    refine ⟨?_, fun q hq => ?_, fun p hp => ?_⟩
    · rw [List.map_append, List.nodup_append]
      refine ⟨ih.nd, List.nodup_cons.mpr ⟨(fun z => by cases z), List.nodup_nil⟩, fun a ha b hb => ?_⟩
      obtain ⟨p, hp, rfl⟩ := List.mem_map.mp ha
      rw [List.mem_singleton.mp hb]
      exact hn p hp
    · rw [List.map_append]
      rcases List.mem_append.mp hq with hq | hq
      · exact List.mem_append_left _ (ih.has q hq)
      · rw [List.mem_singleton.mp hq]
        exact List.mem_append_right _ (List.mem_singleton.mpr rfl)
    · rcases List.mem_append.mp hp with hp | hp
      · obtain ⟨⟨q, hq, eq⟩, e2⟩ := ih.ones p hp
        refine ⟨⟨q, List.mem_append_left _ hq, eq⟩, ?_⟩
        rw [List.filter_append, List.filter_cons_of_neg (by simpa using fun z : gr o = p.1 => hn p hp z.symm), List.filter_nil, List.append_nil]
        exact e2
      · rw [List.mem_singleton.mp hp]
        refine ⟨⟨o, List.mem_append_right _ (List.mem_singleton.mpr rfl), rfl⟩, ?_⟩
        show [o] = _
        have none : ys.filter (fun q => decide (gr q = gr o)) = [] := List.filter_eq_nil_iff.mpr fun q hq => by
          have := ih.has q hq
          obtain ⟨p, hp, e⟩ := List.mem_map.mp this
          have := hn p hp
          rw [decide_eq_true_eq]
          intro z
          exact this (e.trans z)
        rw [List.filter_append, none, List.filter_cons_of_pos (by simp), List.filter_nil]
        rfl
theorem keys_free {zs : List Nat} {ys : List (List Nat)} (nd : zs.Nodup) (p : ys.Perm (allP zs)) {G : GT} (ok : GOk ys G) : (G.map fun q => q.1.pre).Perm (ys.filter isFree) := by
  have ndo : ∀ o ∈ ys, o.Nodup := fun o ho => (allP_perm zs o (p.mem_iff.mp ho)).nodup_iff.mpr nd
  have ndy : ys.Nodup := p.nodup_iff.mpr (allP_nodup zs nd)
  have bst : ∀ q ∈ G, Bst q.1 := fun q hq => by
    obtain ⟨⟨o, ho, e⟩, _⟩ := ok.ones q hq
    rw [← e]
    exact bst_gr (ndo o ho)
  have e1 : G.map (fun q => q.1.pre) = (G.map (·.1)).map B.pre := by rw [List.map_map]; rfl
  refine perm_of_mem ?_ (ndy.sublist List.filter_sublist) fun x => ?_
  · rw [e1, List.nodup_iff_pairwise_ne, List.pairwise_map]
    refine List.Pairwise.imp_of_mem (fun {a b} ha hb (h : a ≠ b) e => h ?_) (List.nodup_iff_pairwise_ne.mp ok.nd)
    obtain ⟨q, hq, rfl⟩ := List.mem_map.mp ha
    obtain ⟨r, hr, rfl⟩ := List.mem_map.mp hb
    rw [← gr_pre (bst q hq), ← gr_pre (bst r hr), e]
  · constructor
    · intro hx
      obtain ⟨q, hq, rfl⟩ := List.mem_map.mp hx
      obtain ⟨⟨o, ho, e⟩, _⟩ := ok.ones q hq
      refine List.mem_filter.mpr ⟨p.mem_iff.mpr (allP_all _ _ ?_), ?_⟩
      · rw [← e]
        exact (gr_perm o).trans (allP_perm zs o (p.mem_iff.mp ho))
      · unfold isFree
        rw [decide_eq_true_eq, gr_pre (bst q hq)]
    · intro hx
      obtain ⟨hx, hf⟩ := List.mem_filter.mp hx
      unfold isFree at hf
      rw [decide_eq_true_eq] at hf
      rw [e1, ← hf]
      exact List.mem_map.mpr ⟨_, ok.has x hx, rfl⟩
/-! ### dicts whose keys are trees -/
def kB : B → NestedKey
  | .nil => .none
  | .node l x r => .tup [kB l, .text (ch x), kB r]
theorem chC_inj {a b : Nat} (h : ch a = ch b) : a = b := by
  have := congrArg (fun s : Str => s.cps.toList) h
  exact (List.cons.inj this).1
theorem kB_inj : ∀ {a b : B}, kB a = kB b → a = b
  | .nil, .nil, _ => rfl
  | .nil, .node _ _ _, h => by cases h
  | .node _ _ _, .nil, h => by cases h
  | .node l x r, .node l' x' r', h => by
    have h : NestedKey.tup [kB l, .text (ch x), kB r] = .tup [kB l', .text (ch x'), kB r'] := h
    injection h with h
    obtain ⟨h1, h⟩ := List.cons.inj h
    obtain ⟨h2, h⟩ := List.cons.inj h
    obtain ⟨h3, _⟩ := List.cons.inj h
    injection h2 with h2
    rw [kB_inj h1, kB_inj h3, chC_inj h2]
theorem kB_depth : ∀ t : B, (kB t).depth ≤ t.size
  | .nil => Nat.zero_le _
  | .node l x r => by
    have h1 := kB_depth l
    have h2 := kB_depth r
    show NestedKey.depth (.tup [kB l, .text (ch x), kB r]) ≤ l.size + 1 + r.size
    simp only [NestedKey.depth, NestedKey.depthAll]
    omega
theorem nested_of {P : Program} {w : World} {H : Hp} {h : Heap} (ok : HOk P w H h) {v : V} {t : B} (hv : BAt H v t) : ∀ {u : Value}, RelV v u → NestedIs h (kB t) u := by
  induction hv with
  | nil =>
    intro u r
    cases (show u = Value.none from r)
    exact .none
  | node e _ _ ih1 ih2 =>
    intro u r
    cases (show u = Value.ref _ from r)
    obtain ⟨_, its, rel, o, h1, h2, n, h3⟩ := ok _ _ e
    cases rel with
    | cons r1 t1 =>
      cases t1 with
      | cons r2 t2 =>
        cases t2 with
        | cons r3 t3 =>
          cases t3
          obtain ⟨tk, e2⟩ := r2
          subst e2
          exact .tup h1 h2 h3 (.cons (ih1 r1) (.cons (.text _ _) (.cons (ih2 r3) .nil)))
abbrev EN : Type := B × Addr × V
abbrev NT : List EN → List (NestedKey × Addr × Value) → Prop := Paired fun p q => q.1 = kB p.1 ∧ q.2.1 = p.2.1 ∧ RelV p.2.2 q.2.2
def DNf (P : Program) (w : World) (a : Addr) (kvs : List EN) (h : Heap) : Prop := kvs.length ≤ sizeLine ∧ (a == sysModules) = false ∧ ∃ xs : List (NestedKey × Addr × Value), NT kvs xs ∧
  ∃ o es ep, h.get? a = some o ∧ o.ExactDict ∧ o.data = .dict es ep ∧ es.toList = xs.map (entryOfKey (nestedKind P w)) ∧ (xs.map (·.1)).Nodup
/-- a dict whose keys are trees: the key, where its tuple stands, the value -/
def DN (P : Program) (w : World) (a : Addr) (kvs : List EN) : HO := .ext (DNf P w a kvs)
/-- the keys' tuples stand -/
def NKeys (H : Hp) (kvs : List EN) : Prop := ∀ p ∈ kvs, BAt H (.ref p.2.1) p.1 ∧ p.1.size ≤ 8
theorem NKeys.keep {H H' : Hp} {kvs : List EN} (k : KeepT H H') (h : NKeys H kvs) : NKeys H' kvs := fun p hp => ⟨(h p hp).1.keep k, (h p hp).2⟩
def valN (kvs : List EN) (t : B) : Option V := (kvs.find? fun p => decide (p.1 = t)).map (·.2.2)
def putN (kvs : List EN) (t : B) (b : Addr) (v : V) : List EN :=
  if (kvs.any fun p => decide (p.1 = t)) = true then kvs.map (fun p => if p.1 = t then (p.1, p.2.1, v) else p) else kvs ++ [(t, b, v)]
theorem valN_pos {p : EN} {r : List EN} {t : B} (e : p.1 = t) : valN (p :: r) t = some p.2.2 := by simp [valN, List.find?_cons, e]
theorem valN_neg {p : EN} {r : List EN} {t : B} (e : ¬ p.1 = t) : valN (p :: r) t = valN r t := by simp [valN, List.find?_cons, e]
theorem valN_any (t : B) : ∀ kvs : List EN, (kvs.any fun p => decide (p.1 = t)) = (valN kvs t).isSome
  | [] => rfl
  | p :: r => by
    rw [List.any_cons]
    by_cases e : p.1 = t
    · simp only [valN_pos e, decide_eq_true e, Bool.true_or, Option.isSome_some]
    · rw [valN_neg e, decide_eq_false e, Bool.false_or]; exact valN_any t r
theorem putN_len (kvs : List EN) (t : B) (b : Addr) (v : V) : (putN kvs t b v).length ≤ kvs.length + 1 := by
  unfold putN
  split
  · rw [List.length_map]; omega
  · rw [List.length_append, List.length_cons, List.length_nil]; omega
theorem NT.val {kvs : List EN} {xs : List (NestedKey × Addr × Value)} (r : NT kvs xs) (t : B) : RelO (valN kvs t) ((atKey xs (kB t)).map (·.2)) := by
  induction r with
  | nil => exact True.intro
  | @cons p q ps qs h _ ih =>
    obtain ⟨h1, _, h2⟩ := h
    by_cases e : p.1 = t
    · have e' : q.1 = kB t := by rw [h1, e]
      have b : atKey (q :: qs) (kB t) = some q.2 := by simp [atKey, List.find?_cons, e']
      rw [valN_pos e, b]; exact h2
    · have e' : ¬ q.1 = kB t := fun z => e (kB_inj (h1.symm.trans z))
      have b : atKey (q :: qs) (kB t) = atKey qs (kB t) := by simp [atKey, List.find?_cons, e']
      rw [valN_neg e, b]; exact ih
theorem NT.repl {kvs : List EN} {xs : List (NestedKey × Addr × Value)} (r : NT kvs xs) (t : B) {y : V} {u : Value} (ry : RelV y u) :
    NT (kvs.map fun p => if p.1 = t then (p.1, p.2.1, y) else p) (xs.map (putAt (kB t) u)) := by
  induction r with
  | nil => exact .nil
  | @cons p q ps qs h _ ih =>
    rw [List.map_cons, List.map_cons]
    refine .cons ?_ ih
    obtain ⟨h1, h2, h3⟩ := h
    unfold putAt
    by_cases e : p.1 = t
    · rw [if_pos e, if_pos (by rw [h1, e])]; exact ⟨h1, h2, ry⟩
    · rw [if_neg e, if_neg (fun z => e (kB_inj (h1.symm.trans z)))]; exact ⟨h1, h2, h3⟩
theorem NT.put {kvs : List EN} {xs : List (NestedKey × Addr × Value)} (r : NT kvs xs) (t : B) {b : Addr} {y : V} {u : Value} (ry : RelV y u) : NT (putN kvs t b y) (storedH xs (kB t) b u) := by
  have e : (kvs.any fun p => decide (p.1 = t)) = (atKey xs (kB t)).isSome := by
    rw [valN_any, (r.val t).isSome_eq, Option.isSome_map]
  unfold putN storedH
  rw [e]
  by_cases q : (atKey xs (kB t)).isSome = true
  · rw [if_pos q, if_pos q]; exact r.repl t ry
  · rw [if_neg q, if_neg q]; exact Paired.snoc r ⟨rfl, rfl, ry⟩
section
variable {P : Program} {w : World} {H : Hp} {h : Heap} {a : Addr} {kvs : List EN}
theorem nkey_of (ok : HOk P w H h) {b : Addr} {t : B} (hb : BAt H (.ref b) t) (h8 : t.size ≤ 8) : (nestedKind P w).is h (kB t) b := ⟨nested_of ok hb rfl, Nat.le_trans (kB_depth t) h8⟩
theorem dn_rd (ok : HOk P w H h) (e : Rd H a (DN P w a kvs)) (nk : NKeys H kvs) : kvs.length ≤ sizeLine ∧ (a == sysModules) = false ∧ ∃ xs, NT kvs xs ∧ h.DictOfH (nestedKind P w) a xs := by
  obtain ⟨⟨z, y, xs, r, o, es, ep, h1, h2, h3, h4, h5⟩, _⟩ := e.ok ok
  refine ⟨z, y, xs, r, o, es, ep, h1, h2, h3, h4, fun x hx => ?_, h5⟩
  have all : ∀ {l : List EN} {m : List (NestedKey × Addr × Value)}, NT l m → NKeys H l → ∀ x ∈ m, (nestedKind P w).is h x.1 x.2.1 := by
    intro l m q
    induction q with
    | nil => intro _ x hx; exact nomatch hx
    | @cons p q ps qs hq t ih =>
      intro nl x hx
      rcases List.mem_cons.mp hx with e | hx
      · subst e
        rw [hq.1, hq.2.1]
        exact nkey_of ok (nl p List.mem_cons_self).1 (nl p List.mem_cons_self).2
      · exact ih (fun p hp => nl p (List.mem_cons_of_mem _ hp)) x hx
  exact all r nk x hx
theorem dn_ok {H' : Hp} {h' : Heap} {xs : List (NestedKey × Addr × Value)} (z : kvs.length ≤ sizeLine) (hd : (a == sysModules) = false) (r : NT kvs xs) (dd : h'.DictOfH (nestedKind P w) a xs) : ObjOk P w H' h' a (DN P w a kvs) := by
  obtain ⟨o, es, ep, h1, h2, h3, h4, _, h5⟩ := dd
  refine ⟨⟨z, hd, xs, r, o, es, ep, h1, h2, h3, h4, h5⟩, ⟨o, h1⟩, fun g1 g2 q k => ?_⟩
  obtain ⟨z, y, xs, r, o, es, ep, h1, h2⟩ := q
  exact ⟨z, y, xs, r, o, es, ep, k o h1, h2⟩
end
section
variable {X : Cx} {pins : List (Addr × Obj)} {σ : L2.St} {H : Hp} {s : Shared} {a b : Addr} {kvs : List EN} {t : B} {v d : V} {u r : Value} {A : Around} {E : Value → Shared → Prop}
theorem dn_getItem {Q : Value → Shared → Prop} (hu : A.units + 9 < cLine) (I : Inv X pins σ H s) (e : Rd H a (DN X.prog X.w a kvs)) (nk : NKeys H kvs) (hb : BAt H (.ref b) t) (h8 : t.size ≤ 8) (hv : valN kvs t = some v)
    (h : ∀ w' s', Inv X pins σ H s' → RelV v w' → Q w' s') : wpAny (model X.prog X.w) A (getItem (.ref a) (.ref b)) Q E s := by
  obtain ⟨z, hd, xs, rel, dd⟩ := dn_rd I.hok e nk
  obtain ⟨w', hw, rw'⟩ := RelO.some_of (v := v) (o := (atKey xs (kB t)).map (·.2)) (by rw [← hv]; exact rel.val t)
  obtain ⟨p, hp, hp2⟩ := Option.map_eq_some_iff.mp hw
  refine wpAny_getItem_heap (show A.in1.units + 8 < cLine from hu) (nkey_of I.hok hb h8) dd hp ?_
  rw [hp2]
  exact h w' _ (I.tok _) rw'
theorem dn_setItem {Q : Unit → Shared → Prop} (hu : A.units + 9 < cLine) (I : Inv X pins σ H s) (e : H a = some (DN X.prog X.w a kvs)) (nk : NKeys H kvs) (hb : BAt H (.ref b) t) (h8 : t.size ≤ 8) (hl : kvs.length < sizeLine) (rv : RelV v r)
    (h : ∀ s', Inv X pins σ (upd H a (DN X.prog X.w a (putN kvs t b v))) s' → Q () s') : wpAny (model X.prog X.w) A (setItem (.ref a) (.ref b) r) Q E s := by
  obtain ⟨z, hd, xs, rel, dd⟩ := dn_rd I.hok (.inl e) nk
  have hz : xs.length ≤ sizeLine := by rw [← Paired.length rel]; exact z
  have hl2 : (putN kvs t b v).length ≤ sizeLine := by have := putN_len kvs t b v; omega
  refine wpAny_setItem_heap (hsz := hz) (show A.in1.units + 8 < cLine from hu) (nkey_of I.hok hb h8) dd fun h' dd' hs => h _ ?_
  have he : ∃ q, h'.get? a = some q := let ⟨q, _, _, hq, _⟩ := dd'; ⟨q, hq⟩
  exact d_write I (by rw [e]; exact True.intro) hs he (dn_ok hl2 hd (rel.put t rv) dd')
theorem dn_get2 {Q : Value → Shared → Prop} (hu : A.units + 9 < cLine) (I : Inv X pins σ H s) (e : Rd H a (DN X.prog X.w a kvs)) (nk : NKeys H kvs) (hb : BAt H (.ref b) t) (h8 : t.size ≤ 8) (rd : RelV d r)
    (h : ∀ w' s', Inv X pins σ H s' → RelV ((valN kvs t).getD d) w' → Q w' s') : wpAny (model X.prog X.w) A (call (.builtin "dict.get") [.ref a, .ref b, r]) Q E s := by
  obtain ⟨z, hd, xs, rel, dd⟩ := dn_rd I.hok e nk
  exact call_meetsIn PySem.F.slot_dict_get dd.typeIs PySem.F.entry_dict_get (PySem.F.args_dict_get_3 _ _ _) (meetsH_dict_get_default (nestedKind X.prog X.w) a b hd r) ⟨show A.in1.units + 8 < cLine from hu, kB t, xs, nkey_of I.hok hb h8, dd, h _ _ (I.tok _) ((rel.val t).getD rd)⟩
theorem dn_type (I : Inv X pins σ H s) (e : Rd H a (DN X.prog X.w a kvs)) : s.TypeIs (.ref a) "dict" ∧ (∀ b, Value.ref a = .ref b → ∃ ob, s.heap.get? b = some ob ∧ ob.dict = none) ∧ (a == sysModules) = false := by
  obtain ⟨⟨z, y, xs, r, o, es, ep, h1, h2, h3, h4, h5⟩, _⟩ := e.ok I.hok
  exact ⟨⟨o, h1, h2.1⟩, fun b q => by cases q; exact ⟨o, h1, h2.2.1⟩, y⟩
theorem dn_empty {P : Program} {w : World} {H : Hp} (h : Heap) (hb : sysModules < h.objs.size) : ObjOk P w H (h.push { cls := .type "dict", data := .dict #[] }) h.objs.size (DN P w h.objs.size []) :=
  dn_ok (Nat.zero_le _) (beq_eq_false_iff_ne.mpr (Ne.symm (Nat.ne_of_lt hb))) .nil ⟨_, #[], 0, Heap.get?_push_size _ rfl, ⟨rfl, rfl, rfl⟩, rfl, rfl, (fun _ h => by cases h), List.nodup_nil⟩
end
def tNNew (P : Program) (w : World) : TE := fun _ H Q => ∀ p, H p = none → Q (.ref p) (upd H p (DN P w p []))
def tNIx (P : Program) (w : World) (td ty : TE) : TE := fun σ H Q => td σ H fun x H1 => ty σ H1 fun y H2 => ∃ a b kvs t v, x = .ref a ∧ y = .ref b ∧ Rd H2 a (DN P w a kvs) ∧ NKeys H2 kvs ∧ BAt H2 (.ref b) t ∧ t.size ≤ 8 ∧ valN kvs t = some v ∧ Q v H2
def tNGet (P : Program) (w : World) (td ty tx : TE) : TE := fun σ H Q => td σ H fun x H1 => ∃ a kvs0, x = .ref a ∧ Rd H1 a (DN P w a kvs0) ∧ ty σ H1 fun y H2 => tx σ H2 fun z H3 => ∃ b kvs t, y = .ref b ∧ Rd H3 a (DN P w a kvs) ∧ NKeys H3 kvs ∧ BAt H3 (.ref b) t ∧ t.size ≤ 8 ∧ Q ((valN kvs t).getD z) H3
def sNPut (P : Program) (w : World) (td ty tv : TE) : TS := fun D σ H => tv σ H fun v H1 => td σ H1 fun x H2 => ty σ H2 fun y H3 => ∃ a b kvs t, x = .ref a ∧ y = .ref b ∧ H3 a = some (DN P w a kvs) ∧ NKeys H3 kvs ∧ BAt H3 (.ref b) t ∧ t.size ≤ 8 ∧ kvs.length < sizeLine ∧ D.nx σ (upd H3 a (DN P w a (putN kvs t b v)))
section
variable {X : Cx} {o i e f value : Expr} {pos pos' apos cpos : Pos} {td ty tx tv : TE}
theorem pe_nnew : PE X (.Dict [] [] pos) (tNNew X.prog X.w) := ⟨fun pins s σ H Q I h =>
  wpAny_Dict_empty ⟨.ref s.heap.objs.size, _, I.laid (a := s.heap.objs.size) (t' := s.toks) (fun _ _ q => Heap.get?_push_of_some _ q) (Nat.le_refl _) (dn_empty s.heap I.big), rfl, h _ (I.hok.fresh (Nat.le_refl _))⟩⟩
theorem pe_nix (hu : X.A.units + 9 < cLine) (ho : PE X o td) (hi : PE X i ty) (hs : NoSl i) : PE X (.Subscript o i pos) (tNIx X.prog X.w td ty) := by
  refine ⟨fun pins s σ H Q I h => ?_⟩
  refine subD_of PySem.F.slot_dict_getitem.lookup hs (thn (ho.run pins s σ H _ I h) fun u s1 ⟨x, H1, I1, rx, q1⟩ => thn (hi.run pins s1 σ H1 _ I1 q1) fun iv s2 ⟨y, H2, I2, ry, a, b, kvs, t, v, ex, ey, g, nk, hb, h8, hv, q2⟩ => ?_)
  subst ex ey
  obtain rfl : u = Value.ref a := rx
  obtain rfl : iv = Value.ref b := ry
  exact ⟨(dn_type I2 g).1, dn_getItem hu I2 g nk hb h8 hv fun w' s3 I3 rw' => ⟨v, H2, I3, rw', q2⟩⟩
theorem pe_nget (hu : X.A.units + 9 < cLine) (ho : PE X o td) (he : PE X e ty) (hf : PE X f tx) (m : M2 X o "get" apos e f cpos) : PE X (.Call (.Attribute o "get" apos) [e, f] [] cpos) (tNGet X.prog X.w td ty tx) := by
  refine ⟨fun pins s σ H Q I h => ?_⟩
  refine wpAny_Call_method m.base m.few m.line PySem.F.plainAttrs_dict PySem.F.slot_dict_get PySem.F.type_dict_get (thn (ho.run pins s σ H _ I h) fun u s1 ⟨x, H1, I1, rx, a, kvs0, ex, d, q1⟩ => ?_)
  subst ex
  obtain rfl : u = Value.ref a := rx
  obtain ⟨t1, t2, _⟩ := dn_type I1 d
  refine ⟨t1, t2, ?_⟩
  rw [m.trees]
  refine Calls.callWith_builtin rfl (Calls.evalArgs_plain (Calls.spliced_cons (thn (he.run pins s1 σ H1 _ I1 q1) fun iv s2 ⟨y, H2, I2, ry, q2⟩ =>
    Calls.spliced_cons (thn (hf.run pins s2 σ H2 _ I2 q2) fun fv s3 ⟨z, H3, I3, rz, b, kvs, t, ey, g, nk, hb, h8, q3⟩ => Calls.spliced_nil ?_))))
  subst ey
  obtain rfl : iv = Value.ref b := ry
  exact dn_get2 hu I3 g nk hb h8 rz fun w' s4 I4 rw' => ⟨_, H3, I4, rw', q3⟩
theorem ps_nput (hu : X.A.units + 9 < cLine) (ho : PE X o td) (hi : PE X i ty) (hv : PE X value tv) (hs : swapsWith value (some (.Subscript o i pos')) pos.line X.env = pure false) :
    PS X (.Assign [.Subscript o i pos'] value pos) (sNPut X.prog X.w td ty tv) := by
  refine ⟨fun pins s σ H D I h => ?_⟩
  refine wpAny_Assign_Subscript (thn (hv.run pins s σ H _ I h) fun r s1 ⟨v, H1, I1, rv, q1⟩ => thn (ho.run pins s1 σ H1 _ I1 q1) fun u s2 ⟨x, H2, I2, rx, q2⟩ => thn (hi.run pins s2 σ H2 _ I2 q2) fun iv s3 ⟨y, H3, I3, ry, a, b, kvs, t, ex, ey, g, nk, hb, h8, hl, q3⟩ => ?_) hs
  subst ex ey
  obtain rfl : u = Value.ref a := rx
  obtain rfl : iv = Value.ref b := ry
  exact dn_setItem hu I3 g nk hb h8 hl rv fun s4 I4 => ⟨σ, _, I4, q3⟩
/-- len(d) -/
theorem call_lenN : CallR X (.builtin "len") (fun xs H Q => ∃ (p : Addr) (kvs : List EN), xs = [.ref p] ∧ Rd H p (DN X.prog X.w p kvs) ∧ NKeys H kvs ∧ Q (.int ((kvs.length : Nat) : Int)) H) := by
  intro pins s σ H xs us Q I r h
  obtain ⟨p, kvs, rfl, hp, nk, q⟩ := h
  obtain ⟨u, rfl, rx⟩ := vals1 r
  obtain rfl : u = .ref p := rx
  obtain ⟨z, hd, ys, rel, dd⟩ := dn_rd I.hok hp nk
  have hl : kvs.length = ys.length := Paired.length rel
  refine call_len_dictH hd dd (by rw [← hl]; rw [sizeLine_eq] at z; omega) ?_
  rw [← hl]
  exact ⟨.int ((kvs.length : Nat) : Int), H, I.tok _, ⟨_, rfl⟩, q⟩
end
/-! ### for t in d -/
theorem frzN {X : Cx} {pins : List (Addr × Obj)} {σ : L2.St} {H : Hp} {s : Shared} {d : Addr} {o : Obj} {kvs : List EN} (I : Inv X pins σ H s) (h : H d = some (.frz o (DN X.prog X.w d kvs))) :
    (d == sysModules) = false ∧ s.heap.get? d = some o ∧ o.ExactDict ∧ ∃ (es : Array DictEntry) (ep : Nat), o.data = .dict es ep ∧ es.size = kvs.length ∧
      ∀ (i : Nat) (p : EN), kvs[i]? = some p → ∃ en : DictEntry, es[i]? = some en ∧ en.key = .ref p.2.1 := by
  obtain ⟨hd, ⟨z, hs, xs, pr, o', es, ep, ho, hx, hdt, he, _⟩, _⟩ := I.hok d _ h
  rw [hd] at ho
  cases ho
  refine ⟨hs, hd, hx, es, ep, hdt, ?_, fun i p e => ?_⟩
  · have l1 : es.size = xs.length := size_of_entries he
    have l2 : kvs.length = xs.length := Paired.length pr
    omega
  · obtain ⟨b, hb, e1, e2, _⟩ := paired_get pr e
    have q := entry_at he i
    rw [hb] at q
    exact ⟨_, q, by show Value.ref b.2.1 = _; rw [e2]⟩
def Itn (P : Program) (w : World) (d : Addr) (o : Obj) (kvs : List EN) : It :=
  ⟨fun i H => H d = some (.frz o (DN P w d kvs)) ∧ i < kvs.length, fun i H x H' => H' = H ∧ ∃ p, kvs[i]? = some p ∧ x = .ref p.2.1, fun i H => H d = some (.frz o (DN P w d kvs)) ∧ kvs.length ≤ i⟩
theorem turn_keysN {P : Program} {w : World} {K : PySem.W.Frag} {tg : Expr} {d : Addr} {o : Obj} {es : Array DictEntry} {ep : Nat} {kvs : List EN} (it : Addr) (hod : o.data = .dict es ep) : Turn P w K tg (Itn P w d o kvs) [it] it (fun i h => h.IsKeyIter it d i kvs.length ep) where
  mem := by simp
  obj := fun i h st b hb => by
    have e : b = it := by simpa using hb
    subst e
    obtain ⟨oi, e, c, dd⟩ := st
    exact ⟨oi, e, fun v z => by rw [dd] at z; cases z⟩
  keep := fun i h h' st k => st.at fun oi e => k it (by simp) oi e
  item := by
    intro X hP hw hK hc i pins s σ H E I hf st hg
    subst hP hw hK
    obtain ⟨hd, hi⟩ := hg
    obtain ⟨f0, f1, f2, f3, f4, f5⟩ := hf it (by simp)
    obtain ⟨hs, hgd, hx, es', ep', hdt, hsz, ent⟩ := frzN I hd
    obtain ⟨rfl, rfl⟩ := dict_ep hod hdt
    obtain ⟨p, hkv⟩ : ∃ p, kvs[i]? = some p := ⟨kvs[i], List.getElem?_eq_getElem hi⟩
    obtain ⟨en, hen, hkey⟩ := ent i p hkv
    refine next_key_item st hgd hdt hsz hen fun h' st' sb => ?_
    have I1 : Inv X pins σ H { s with heap := h' } := I.turned (t' := s.toks) (fun b ob hb e => (sb.2 b hb).trans e) f0 f1 f3 f4 f5
    obtain ⟨oi, e, c, dd⟩ := id st'
    exact ⟨en.key, rfl, go_of (s := { s with heap := h' }) e c dd (by decide) ⟨.ref p.2.1, H, I1, hkey, ⟨rfl, p, hkv, rfl⟩, st', fun b hb => (hf b hb).1⟩⟩
  done := by
    intro X hP hw hK hc i pins s σ H E I hf st hg
    subst hP hw hK
    obtain ⟨hd, hi⟩ := hg
    obtain ⟨f0, f1, f2, f3, f4, f5⟩ := hf it (by simp)
    obtain ⟨hs, hgd, hx, es', ep', hdt, hsz, ent⟩ := frzN I hd
    obtain ⟨rfl, rfl⟩ := dict_ep hod hdt
    exact next_key_end (I.ok.hd hc) st hgd hdt hsz hi fun h' eb => ⟨rfl, I.turned (t' := s.toks) (fun b ob hb e => eb b ob hb e) f0 f1 f3 f4 f5⟩
  self := fun A i s Q E st h => by
    refine wpAny_pyIter_slot st.typeIs F.slot_dict_keyiterator_iter (wpAny_call_entry F.slot_dict_keyiterator_iter st.typeIs F.entry_dict_keyiterator_iter ?_ (F.args_dict_keyiterator_iter_1 _))
    show wpAny _ _ (ret (.ref it)) _ _ s
    exact wpAny_pure ⟨_, rfl, "dict_keyiterator", _, st.typeIs, F.slot_dict_keyiterator_next.lookup, h⟩
def iKeysN (P : Program) (w : World) (td : TE) : TI := fun σ H R => td σ H fun x H1 => ∃ d o kvs, x = .ref d ∧ H1 d = some (.frz o (DN P w d kvs)) ∧ R (Itn P w d o kvs) H1
theorem pi_keysN {X : Cx} {tg e : Expr} {td : TE} (he : PE X e td) : PI X tg e (iKeysN X.prog X.w td) := by
  refine ⟨fun pins s σ H R I h => ?_⟩
  refine thn (he.run pins s σ H _ I h) fun u s1 ⟨x, H1, I1, rx, d, o, kvs, ex, hd, q⟩ => ?_
  subst ex
  obtain rfl : u = Value.ref d := rx
  obtain ⟨hs, hgd, hx, es, ep, hdt, hsz, ent⟩ := frzN I1 hd
  refine iter_keys hs hgd hx hdt (pi_one (tk := s1.toks) I1 _ (turn_keysN _ hdt) ⟨_, Heap.get?_push_size _ rfl, rfl, ?_⟩ q)
  rw [hsz] <;> rfl
/-! ### _law_grouped -/
def GAt (H : Hp) : List EN → GT → Prop := Paired fun p g => p.1 = g.1 ∧ ∃ q, p.2.2 = .ref q ∧ H q = some (.lst (g.2.map vt))
theorem GAt.keep {H H' : Hp} {kvs : List EN} {G : GT} (k : ∀ c ys, H c = some (.lst ys) → H' c = some (.lst ys)) (h : GAt H kvs G) : GAt H' kvs G := by
  unfold GAt at h ⊢
  exact Paired.mapP h fun p g ⟨e, q, e1, e2⟩ => ⟨e, q, e1, k _ _ e2⟩
theorem GAt.any {H : Hp} {kvs : List EN} {G : GT} (h : GAt H kvs G) (t : B) : (kvs.any fun p => decide (p.1 = t)) = G.any fun g => decide (g.1 = t) := by
  unfold GAt at h
  induction h with
  | nil => rfl
  | cons r _ ih => rw [List.any_cons, List.any_cons, ih, r.1]
theorem GAt.val {H : Hp} {kvs : List EN} {G : GT} (h : GAt H kvs G) (t : B) : (valN kvs t = none ∧ (G.any fun g => decide (g.1 = t)) = false) ∨ ∃ q l, valN kvs t = some (.ref q) ∧ H q = some (.lst (l.map vt)) ∧ (t, l) ∈ G := by
  unfold GAt at h
  induction h with
  | nil => exact .inl ⟨rfl, rfl⟩
  | @cons p g ps gs r _ ih =>
    obtain ⟨e, q, e1, e2⟩ := r
    by_cases ht : p.1 = t
    · refine .inr ⟨q, g.2, ?_, e2, ?_⟩
      · rw [valN_pos ht, e1]
      · have : (t, g.2) = g := Prod.ext (by rw [← ht, e]) rfl
        rw [this]
        exact List.mem_cons_self
    · rcases ih with ⟨i1, i2⟩ | ⟨q', l, i1, i2, i3⟩
      · refine .inl ⟨by rw [valN_neg ht]; exact i1, ?_⟩
        rw [List.any_cons, i2, decide_eq_false (fun z => ht (e.trans z))]
        rfl
      · exact .inr ⟨q', l, by rw [valN_neg ht]; exact i1, i2, List.mem_cons_of_mem _ i3⟩
theorem GAt.put {H H' : Hp} {kvs : List EN} {G : GT} {t : B} {b q : Addr} {o : List Nat} {l : List (List Nat)} (h : GAt H kvs G) (keep : ∀ c ys, H c = some (.lst ys) → H' c = some (.lst ys)) (hq : H' q = some (.lst ((l ++ [o]).map vt)))
    (un : ∀ g ∈ G, g.1 = t → g.2 = l) (hn : (G.any fun g => decide (g.1 = t)) = false → l = []) : GAt H' (putN kvs t b (.ref q)) (addG G t o) := by
  have h' := h.keep keep
  unfold putN addG
  rw [h.any t]
  by_cases ha : (G.any fun g => decide (g.1 = t)) = true
  · rw [if_pos ha, if_pos ha]
    unfold GAt at h' ⊢
    clear ha hn h
    induction h' with
    | nil => exact .nil
    | @cons p g ps gs r _ ih =>
      rw [List.map_cons, List.map_cons]
      refine .cons ?_ (ih fun g hg => un g (List.mem_cons_of_mem _ hg))
      obtain ⟨e, q', e1, e2⟩ := r
      by_cases ht : p.1 = t
      · rw [if_pos ht, if_pos (e.symm.trans ht)]
        refine ⟨e, q, rfl, ?_⟩
        show H' q = some (.lst ((g.2 ++ [o]).map vt))
        rw [un g List.mem_cons_self (e.symm.trans ht)]
        exact hq
      · rw [if_neg ht, if_neg (fun z => ht (e.trans z))]
        exact ⟨e, q', e1, e2⟩
  · rw [if_neg ha, if_neg ha]
    have hl := hn ((Bool.not_eq_true _).mp ha)
    subst hl
    exact Paired.snoc h' ⟨rfl, q, rfl, hq⟩
theorem GAt.len {H : Hp} {kvs : List EN} {G : GT} (h : GAt H kvs G) : kvs.length = G.length := Paired.length h
def spGrouped (P : Program) (w : World) (K : PySem.W.Frag) : Sp := fun vs H Q _ => ∃ (a : Addr) (ys : List (List Nat)), vs = [.ref a] ∧ H a = some (.lst (ys.map vt)) ∧ ys.length ≤ 120 ∧ (∀ o ∈ ys, o.Nodup ∧ o ≠ [] ∧ o.length ≤ 5) ∧
  ∀ (p : Addr) (kvs : List EN) (H' : Hp), H p = none → Same H H' → H' p = some (DN P w p kvs) → NKeys H' kvs → GAt H' kvs (grp ys) → Q (.ref p) H'
theorem bat_ref {H : Hp} {v : V} {t : B} (h : BAt H v t) (n : t ≠ .nil) : ∃ b, v = .ref b := by
  cases h with
  | nil => exact absurd rfl n
  | node _ _ _ => exact ⟨_, rfl⟩
theorem grp_len {ys : List (List Nat)} {G : GT} (ok : GOk ys G) : G.length ≤ ys.length := by
  have := nodup_le ok.nd (m := ys.map gr) fun x hx => by
    obtain ⟨g, hg, rfl⟩ := List.mem_map.mp hx
    obtain ⟨⟨o, ho, e⟩, _⟩ := ok.ones g hg
    rw [← e]
    exact List.mem_map.mpr ⟨o, ho, rfl⟩
  rwa [List.length_map, List.length_map] at this
theorem gr_ne {o : List Nat} (h : o ≠ []) : gr o ≠ .nil := fun z => h (by have := gr_size o; rw [z] at this; exact List.length_eq_zero_iff.mp this.symm)
section
variable {P : Program} {w : World} {K : PySem.W.Frag} {mg : Str → Option Value} {base : Heap} {f : Addr} {fd : FuncData}
theorem ok_grouped (F : Fun K "_law_grouped" "_law_grouped" s__law_grouped f fd) (Dtree_of : Df P w K mg base 64 "tree_of" ["order"] spTreeOf) : FnOk P w K mg base CX0 65 f fd ["_law_orders"] (spGrouped P w K) := by
  refine F.ok sc__law_grouped (fun vs H Q E h => ?_) (fun cdv A outer s H vs Q E hr h => ?_)
  · obtain ⟨a, ys, rfl, _⟩ := h
    rfl
  obtain ⟨a, ys, rfl, ha, h120, hy, q⟩ := h
  refine ⟨_, (pss_cons (ps_set (i := 1) sc__law_grouped.nd rfl (.inl rfl) pe_nnew)
    (pss_cons (ps_for PassesOwn.never rfl (pi_list (pv 0)) (pg_name (i := 2) sc__law_grouped.nd rfl (.inl rfl))
      (pss_one (ps_nput (Nat.lt_of_le_of_lt (Nat.add_le_add_left (by decide) _) hr.units) (pv 1) (pe_call Dtree_of.ok (hr.mono (by omega)) rfl Dtree_of.g Dtree_of.kp Dtree_of.b .nil pass0 (pa_cons (pv 2) pa_nil)) (pe_op op_cat (pe_nget (Nat.lt_of_le_of_lt (Nat.add_le_add_left (by decide) _) hr.units) (pv 1) (pe_call Dtree_of.ok (hr.mono (by omega)) rfl Dtree_of.g Dtree_of.kp Dtree_of.b .nil pass0 (pa_cons (pv 2) pa_nil)) (pe_lst pa_nil) ⟨rfl, rfl, rfl, rfl⟩) (pe_lst (pa_cons (pv 2) pa_nil))) rfl)))
    (pss_one (ps_ret (pv 1))))), ?_⟩
  intro p np
  show gName 1 (.ref p) _ (upd H p (DN P w p [])) _
  have k0 := same_new np (DN P w p [])
  have ep := upd_same (H := H) (a := p) (o := DN P w p [])
  have np' : H p = none := np
  generalize upd H p (DN P w p []) = H0 at k0 ep ⊢
  have gok := fun j => grp_ok (ys.take j)
  have ha0 := k0 _ _ ha
  have nap : a ≠ p := ne_of_none ha np'
  refine ⟨_, rfl, a, rfl, ⟨_, SqL.of ha0⟩, ?_⟩
  refine for_list (K := K) (a := a) (xs := ys.map vt) (fun j σ H' => ∃ (o2 : Option V) (kvs : List EN), σ = [some (.ref a), some (.ref p), o2] ∧ (∀ b o, b ≠ p → H0 b = some o → H' b = some o) ∧ H' p = some (DN P w p kvs) ∧ NKeys H' kvs ∧ GAt H' kvs (grp (ys.take j)))
    ⟨none, [], rfl, (fun b o _ e => e), ep, (fun _ h => by cases h), .nil⟩ (fun j σ H' _ hp => ?_) (fun j x σ H1 hx hp => ?_) (fun σ H1 hp => ?_)
  · obtain ⟨_, _, _, sm, _⟩ := hp
    exact SqL.of (sm _ _ nap ha0)
  · obtain ⟨o2, kvs, rfl, sm, epv, nk, ga⟩ := hp
    rw [List.getElem?_map] at hx
    obtain ⟨o, ho, rfl⟩ := Option.map_eq_some_iff.mp hx
    obtain ⟨o1, o2', o3⟩ := hy o (List.mem_of_getElem? ho)
    have sz : (gr o).size ≤ 8 := by rw [gr_size]; omega
    refine ⟨_, rfl, p, kvs, rfl, .of epv, _, rfl, o, rfl, o1, by omega, fun v H2 s2 hb => ?_⟩
    obtain ⟨b, rfl⟩ := bat_ref hb (gr_ne o2')
    refine ⟨(by show 0 ≤ sizeLine; decide), fun pe npe => ?_⟩
    have s3 := s2.trans (same_new npe (.lst []))
    have epe := upd_same (H := H2) (a := pe) (o := .lst [])
    have hb3 := hb.same (same_new npe (.lst []))
    generalize upd H2 pe (.lst []) = H3 at s3 epe hb3 ⊢
    refine ⟨b, kvs, gr o, rfl, .of (s3 _ _ epv), nk.keep (fun c xs e => s3 _ _ e), hb3, sz, ?_⟩
    have gl : kvs.length ≤ 120 := by
      have h1 := ga.len
      have h2 := grp_len (gok j)
      rw [List.length_take] at h2
      omega
    obtain ⟨e0, l, hv0, hl0, hm0⟩ : ∃ e0 l, (valN kvs (gr o)).getD (.ref pe) = .ref e0 ∧ H3 e0 = some (.lst (l.map vt)) ∧ ((valN kvs (gr o) = none ∧ ((grp (ys.take j)).any fun g => decide (g.1 = gr o)) = false ∧ l = []) ∨ (gr o, l) ∈ grp (ys.take j)) := by
      rcases ga.val (gr o) with ⟨e1, e2⟩ | ⟨q', l, e1, e2, e3⟩
      · exact ⟨pe, [], by rw [e1]; rfl, epe, .inl ⟨e1, e2, rfl⟩⟩
      · exact ⟨q', l, by rw [e1]; rfl, s3 _ _ e2, .inr e3⟩
    have ll : l.length ≤ 120 := by
      rcases hm0 with ⟨_, _, rfl⟩ | hm
      · exact Nat.zero_le _
      · have e1 : l = _ := ((gok j).ones _ hm).2
        rw [e1]
        exact Nat.le_trans List.filter_sublist.length_le (by rw [List.length_take]; omega)
    rw [hv0]
    refine ⟨_, rfl, (by show 1 ≤ sizeLine; decide), fun pl npl => ?_⟩
    have s4 := s3.trans (same_new npl (.lst [vt o]))
    have epl := upd_same (H := H3) (a := pl) (o := .lst [vt o])
    have hl1 := same_new npl (.lst [vt o]) _ _ hl0
    have hb4 := hb3.same (same_new npl (.lst [vt o]))
    generalize upd H3 pl (.lst [vt o]) = H4 at s4 epl hl1 hb4 ⊢
    refine ⟨e0, pl, l.map vt, [vt o], rfl, rfl, hl1, epl, ?_, fun pq npq => ?_⟩
    · rw [List.length_map]
      exact small1000 (by omega)
    have s5 := s4.trans (same_new npq (.lst (l.map vt ++ [vt o])))
    have epq := upd_same (H := H4) (a := pq) (o := .lst (l.map vt ++ [vt o]))
    generalize upd H4 pq (.lst (l.map vt ++ [vt o])) = H5 at s5 epq ⊢
    refine ⟨_, rfl, _, rfl, o, rfl, o1, by omega, fun v2 H6 s6 hb2 => ?_⟩
    obtain ⟨b2, rfl⟩ := bat_ref hb2 (gr_ne o2')
    have s7 := s5.trans s6
    have ep7 := s7 _ _ epv
    refine ⟨p, b2, kvs, gr o, rfl, rfl, ep7, nk.keep (fun c xs e => s7 _ _ e), hb2, sz, small1000 (by omega), ?_⟩
    have dif : ∀ c, c ≠ p → upd H6 p (DN P w p (putN kvs (gr o) b2 (.ref pq))) c = H6 c := fun c h => upd_ne h
    have kt : KeepT H6 (upd H6 p (DN P w p (putN kvs (gr o) b2 (.ref pq)))) := fun c xs e => by
      rw [dif c (ne_of e ep7 (fun z => nomatch z))]
      exact e
    have kl : ∀ c zs, H6 c = some (.lst zs) → upd H6 p (DN P w p (putN kvs (gr o) b2 (.ref pq))) c = some (.lst zs) := fun c zs e => by
      rw [dif c (ne_of e ep7 (fun z => nomatch z))]
      exact e
    refine ⟨_, _, rfl, fun c u nc e => ?_, upd_same, ?_, ?_⟩
    · exact (dif c nc).trans (s7 _ _ (sm c u nc e))
    · intro g hg
      have nk6 := nk.keep (fun c xs e => s7 _ _ e)
      have key : ∀ g ∈ putN kvs (gr o) b2 (.ref pq), BAt H6 (.ref g.2.1) g.1 ∧ g.1.size ≤ 8 := by
        unfold putN
        intro g hg
        split at hg
        · obtain ⟨g0, hg0, rfl⟩ := List.mem_map.mp hg
          have := nk6 g0 hg0
          split <;> exact this
        · rcases List.mem_append.mp hg with hg | hg
          · exact nk6 g hg
          · rw [List.mem_singleton.mp hg]
            exact ⟨hb2, sz⟩
      exact ⟨(key g hg).1.keep kt, (key g hg).2⟩
    · rw [take_nextG ho, grp_snoc]
      refine GAt.put (l := l) (ga.keep fun c ys e => s7 _ _ e) kl ?_ (fun g hg e => ?_) fun hn => ?_
      · rw [List.map_append]
        exact (dif pq (ne_of (s6 _ _ epq) ep7 (fun z => nomatch z))).trans (s6 _ _ epq)
      · rcases hm0 with ⟨_, hn, _⟩ | hm
        · exact absurd (List.any_eq_true.mpr ⟨g, hg, decide_eq_true e⟩) (by rw [hn]; exact Bool.false_ne_true)
        · have e1 : l = _ := ((gok j).ones _ hm).2
          rw [((gok j).ones _ hg).2, e1, e]
      · rcases hm0 with ⟨_, _, h⟩ | hm
        · exact h
        · exact absurd (List.any_eq_true.mpr ⟨_, hm, decide_eq_true rfl⟩) (by rw [hn]; exact Bool.false_ne_true)
  · obtain ⟨o2, kvs, rfl, sm, epv, nk, ga⟩ := hp
    rw [List.length_map, List.take_length] at ga
    exact ⟨_, rfl, q p kvs _ np' (fun b o e => sm b o (ne_of_none e np') (k0 _ _ e)) epv nk ga⟩
end
/-! ### the deck, tables and lambdas; _law_ways, _law_merged, _law_drawn_order, _law_count -/
theorem DeckOk.ext {H H' : Hp} {D : Deck} (d : DeckOk H D) (h : LamX.ExtN H H') : DeckOk H' D := by
  obtain ⟨gs, wh, n, h1, h2, h3⟩ := d.ex
  exact ⟨⟨gs, wh, n, h _ _ h1 (fun ps z => by cases z), h _ _ h2 (fun ps z => by cases z), h3⟩, d.ne⟩
/-- all stands still but the deck's lists and the tables -/
def ExtD (D : Deck) (H H' : Hp) : Prop := ∀ b o, b ≠ D.dk → b ≠ D.ga → H b = some o → (∀ ps, o ≠ .tbl ps) → H' b = some o
theorem ExtD.refl (D : Deck) (H : Hp) : ExtD D H H := fun _ _ _ _ e _ => e
theorem ExtD.trans {D : Deck} {H H1 H2 : Hp} (a : ExtD D H H1) (b : ExtD D H1 H2) : ExtD D H H2 := fun c o h1 h2 e n => b c o h1 h2 (a c o h1 h2 e n) n
theorem ExtD.of {D : Deck} {H H' : Hp} (h : LamX.ExtN H H') : ExtD D H H' := fun b o _ _ e n => h b o e n
theorem ExtD.ofD {D : Deck} {H H' : Hp} (h : SameD D H H') : ExtD D H H' := fun b o h1 h2 e _ => h b o h1 h2 e
theorem ExtD.ofS {D : Deck} {H H' : Hp} (h : Same H H') : ExtD D H H' := fun b o _ _ e _ => h b o e
theorem ExtD.keepT {D : Deck} {H H' : Hp} (h : ExtD D H H') (d : DeckOk H D) : KeepT H H' := fun b xs e => by
  obtain ⟨⟨x1, h1⟩, ⟨x2, h2⟩⟩ := d.lists
  exact h b _ (ne_of e h1 (by intro z; cases z)) (ne_of e h2 (by intro z; cases z)) e (fun ps z => by cases z)
theorem tabsD {T : List (Addr × Str)} {D : Deck} {H H' : Hp} (d : DeckOk H D) (s : SameD D H H') (h : LamX.Tabs T H) : LamX.Tabs T H' := fun p hp => by
  obtain ⟨⟨x1, l1⟩, ⟨x2, l2⟩⟩ := d.lists
  obtain ⟨ps, h1, h2, h3⟩ := h p hp
  refine ⟨ps, s _ _ (fun z => by rw [z, l1] at h1; cases h1) (fun z => by rw [z, l2] at h1; cases h1) h1, h2, fun pos cv hc => ?_⟩
  obtain ⟨c, e1, e2⟩ := h3 pos cv hc
  refine ⟨c, e1, s _ _ (fun z => ?_) (fun z => ?_) e2⟩
  · rw [z, l1] at e2; unfold LamX.CodeO at e2; cases e2
  · rw [z, l2] at e2; unfold LamX.CodeO at e2; cases e2
theorem cho_next (n k : Nat) : cho (n + (k + 1)) (k + 1) * (k + 1) = cho (n + k) k * (n + k + 1) := by
  have h1 := cho_fac _ (k + 1) n rfl
  have h2 := cho_fac _ k n rfl
  rw [show k + 1 + n = n + (k + 1) by omega] at h1
  rw [show k + n = n + k by omega] at h2
  have h3 : facN (n + (k + 1)) = facN (n + k) * (n + k + 1) := rfl
  have h4 : facN (k + 1) = facN k * (k + 1) := rfl
  rw [h3, ← h2, h4] at h1
  have pos : 0 < facN k * facN n := Nat.mul_pos (facN_pos k) (facN_pos n)
  refine Nat.eq_of_mul_eq_mul_right pos ?_
  calc cho (n + (k + 1)) (k + 1) * (k + 1) * (facN k * facN n) = cho (n + (k + 1)) (k + 1) * (facN k * (k + 1) * facN n) := by simp only [Nat.mul_assoc, Nat.mul_left_comm, Nat.mul_comm]
    _ = cho (n + k) k * (facN k * facN n) * (n + k + 1) := h1
    _ = cho (n + k) k * (n + k + 1) * (facN k * facN n) := by simp only [Nat.mul_assoc, Nat.mul_left_comm, Nat.mul_comm]
theorem cho_le (n k : Nat) : cho (n + k) k ≤ facN (n + k) := by
  have h2 := cho_fac _ k n rfl
  rw [show k + n = n + k by omega] at h2
  rw [← h2]
  exact Nat.le_mul_of_pos_right _ (Nat.mul_pos (facN_pos k) (facN_pos n))
theorem tx_nil {l : List Nat} (h : tx l = Str.ofString "") : l = [] := by rw [str_0] at h; exact tx_inj h
theorem num_lt {t : B} (h : t.size ≤ 12) : (t.num : Int) < 1073741824 := by
  have h1 := t.num_le
  have h2 : facN t.size ≤ facN 12 := facN_mono h
  have h3 : facN 12 = 479001600 := by decide
  omega
theorem num_pos (t : B) : 0 < t.num := by rw [← togR_ft]; exact togR_pos _
/-! ### law -/
def rEqNil (K : PySem.W.Frag) : V → V → Hp → VK → Prop := fun x y H Q => ∃ a b xs, x = .ref a ∧ y = .ref b ∧ SqL K H a xs ∧ SqL K H b [] ∧ Q (.bl xs.isEmpty) H
def dTx (zs : List (List Nat)) : PyData := .list (zs.map fun z => .str (tx z))
theorem dp_txs {K : PySem.W.Frag} {H : Hp} : ∀ zs : List (List Nat), DpAll K H (zs.map vt) (zs.map fun z => .str (tx z))
  | [] => .nil
  | _ :: r => .cons (.str _) (dp_txs r)
theorem shaped_dTx {zs : List (List Nat)} (h : ∀ z ∈ zs, ∀ c ∈ z, 97 ≤ c ∧ c ≤ 122) : SeqAt.shaped (dTx zs) = true := by
  unfold SeqAt.shaped dTx
  have h1 : ∀ zs : List (List Nat), (∀ z ∈ zs, ∀ c ∈ z, 97 ≤ c ∧ c ≤ 122) → PyData.canLayAll0 (zs.map fun z => .str (tx z)) = true := by
    intro zs
    induction zs with
    | nil => intro _; simp only [List.map_nil, PyData.canLayAll0]
    | cons z zs ih =>
      intro h
      simp only [List.map_cons, PyData.canLayAll0, PyData.canLay0, Bool.and_eq_true]
      refine ⟨?_, ih fun y hy => h y (List.mem_cons_of_mem _ hy)⟩
      unfold PyData.strOk tx
      rw [List.all_toArray, List.all_eq_true]
      intro c hc
      have := h z List.mem_cons_self c hc
      exact decide_eq_true (by omega)
  have h2 : ∀ zs : List (List Nat), PyData.depthAll (zs.map fun z => .str (tx z)) = 0 := by
    intro zs
    induction zs with
    | nil => simp only [List.map_nil, PyData.depthAll]
    | cons z zs ih => simp only [List.map_cons, PyData.depthAll, PyData.depth, ih]; rfl
  simp only [PyData.canLay0, h1 zs h, PyData.depth, h2 zs, Bool.true_and]
  exact decide_eq_true (by omega)
theorem DeckOk.lst {H H' : Hp} {D : Deck} (d : DeckOk H D) (h : ∀ b xs, H b = some (.lst xs) → H' b = some (.lst xs)) : DeckOk H' D := by
  obtain ⟨gs, wh, n, h1, h2, h3⟩ := d.ex
  exact ⟨⟨gs, wh, n, h _ _ h1, h _ _ h2, h3⟩, d.ne⟩
theorem tabs_frz {T : List (Addr × Str)} {H H' : Hp} {N : Addr} {ob : Obj} {u : HO} (e : H N = some (.frz ob u)) (k : ∀ b o, b ≠ N → H b = some o → H' b = some o) (h : LamX.Tabs T H) : LamX.Tabs T H' := fun p hp => by
  obtain ⟨ps, h1, h2, h3⟩ := h p hp
  refine ⟨ps, k _ _ (fun z => by rw [z, e] at h1; cases h1) h1, h2, fun pos cv hc => ?_⟩
  obtain ⟨c, e1, e2⟩ := h3 pos cv hc
  exact ⟨c, e1, k _ _ (fun z => by rw [z, e] at e2; unfold LamX.CodeO at e2; cases e2) e2⟩
theorem walk_keysN {P : Program} {w : World} {d : Addr} {o : Obj} {kvs : List EN} : Walk (Itn P w d o kvs) kvs.length (fun H => H d = some (.frz o (DN P w d kvs))) (fun i H x H' => H' = H ∧ ∃ p, kvs[i]? = some p ∧ x = .ref p.2.1) :=
  ⟨fun _ _ hi q => ⟨q, hi⟩, fun _ q => ⟨q, Nat.le_refl _⟩, fun _ _ _ _ _ _ y => y⟩
theorem GAt.keys {H : Hp} {kvs : List EN} {G : GT} (h : GAt H kvs G) : kvs.map (·.1) = G.map (·.1) := by
  unfold GAt at h
  induction h with
  | nil => rfl
  | cons r _ ih => rw [List.map_cons, List.map_cons, ih, r.1]
theorem GAt.get {H : Hp} {kvs : List EN} {G : GT} (h : GAt H kvs G) : ∀ {i : Nat} {p : EN}, kvs[i]? = some p → ∃ (q : Addr) (l : List (List Nat)), p.2.2 = .ref q ∧ H q = some (.lst (l.map vt)) ∧ (p.1, l) ∈ G := by
  intro i p hp
  obtain ⟨g, hg, e, q, e1, e2⟩ := paired_get (show Paired _ kvs G from h) hp
  exact ⟨q, g.2, e1, e2, by rw [e]; exact List.mem_of_getElem? hg⟩
theorem valN_mem {kvs : List EN} (nd : (kvs.map (·.1)).Nodup) {p : EN} (h : p ∈ kvs) : valN kvs p.1 = some p.2.2 := by
  induction kvs with
  | nil => cases h
  | cons q r ih =>
    rw [List.map_cons, List.nodup_cons] at nd
    rcases List.mem_cons.mp h with rfl | h
    · exact valN_pos rfl
    · rw [valN_neg (fun z => nd.1 (by rw [z]; exact List.mem_map.mpr ⟨p, h, rfl⟩))]
      exact ih nd.2 h
theorem dp_ns {K : PySem.W.Frag} {H : Hp} : ∀ l : List Nat, DpAll K H (l.map fun i : Nat => vn i) (l.map fun i : Nat => PyData.int (i : Int))
  | [] => .nil
  | _ :: r => .cons (.int _) (dp_ns r)
def spLaw (K : PySem.W.Frag) (T : List (Addr × Str)) : Sp := fun vs H Q _ => ∃ (a : Addr) (ns : List Int), vs = [.ref a] ∧ SqL K H a (ns.map V.int) ∧ ns.length ≤ 63 ∧ LamX.Tabs T H ∧ ∀ H', Q (.bl true) H'
section
variable {P : Program} {w : World} {K : PySem.W.Frag} {mg : Str → Option Value} {base : Heap} {f : Addr} {fd : FuncData}
theorem ok_law {T : List (Addr × Str)} (F : Fun K "law" "law" s_law f fd) (M : Mgs mg) (D_law_begin : Df P w K mg base 1 "_law_begin" ["_law_script"] (spBegin K)) (D_law_order : Df P w K mg base 32 "_law_order" ["_law_deck", "_law_low", "_law_high"] spOrder)
    (D_law_all : Df P w K mg base 1 "_law_all" ["_law_letters"] spAll) (Dsearch_certificate : Df P w K mg base 65 "search_certificate" ["order"] spCert) (D_law_barriers : Df P w K mg base 1 "_law_barriers" ["_law_order_here"] spLBars)
    (D_law_grouped : Df P w K mg base 65 "_law_grouped" ["_law_orders"] (spGrouped P w K)) (Dwalk : Df P w K mg base 62 "walk" ["tree", "kind"] spWalk) (Dorder_index : Df P w K mg base 61 "order_index" ["tree", "value"] (spOrderIdx T))
    (Dcount_orders : Df P w K mg base 22 "count_orders" ["tree"] spCountO) (D_law_same : Df P w K mg base 20 "_law_same" ["_law_found", "_law_due"] (spSame K 20)) : FnOk P w K mg base CX0 66 f fd ["_law_script"] (spLaw K T) := by
  refine F.ok sc_law (fun vs H Q E h => ?_) (fun cdv A outer s H vs Q E hr h => ?_)
  · obtain ⟨a, ns, rfl, _⟩ := h
    rfl
  obtain ⟨a, ns, rfl, hS, hn, hT, q⟩ := h
  refine ⟨_, (pss_cons (ps_set (i := 1) sc_law.nd rfl (.inl rfl) (pe_call D_law_begin.ok (hr.mono (by omega)) rfl D_law_begin.g D_law_begin.kp D_law_begin.b .nil pass0 (pa_cons (pv 0) pa_nil)))
    (pss_cons (ps_for PassesOwn.never rfl (RZ.pi_zipA rfl M.zip (pa_cons (pe_lst (pa_cons pe_int (pa_cons pe_int (pa_cons pe_int (pa_cons pe_int (pa_cons pe_int pa_nil)))))) (pa_cons (pe_lst (pa_cons pe_int (pa_cons pe_int (pa_cons pe_int (pa_cons pe_int (pa_cons pe_int pa_nil)))))) pa_nil))) (pg_tup rfl (pgs_cons (pg_name (i := 2) sc_law.nd rfl (.inl rfl)) (pgs_cons (pg_name (i := 3) sc_law.nd rfl (.inl rfl)) pgs_nil)))
      (pss_cons (ps_set (i := 4) sc_law.nd rfl (.inl rfl) (pe_call D_law_all.ok (hr.mono (by omega)) rfl D_law_all.g D_law_all.kp D_law_all.b .nil pass0 (pa_cons (pe_call D_law_order.ok (hr.mono (by omega)) rfl D_law_order.g D_law_order.kp D_law_order.b .nil pass0 (pa_cons (pv 1) (pa_cons (pv 2) (pa_cons (pv 2) pa_nil)))) pa_nil)))
    (pss_cons (ps_setLc (i := 6) (own := [("_law_order_here", 5)]) (g := gName 5) (by rfl) sc_law.nd rfl rfl (sw_true rfl rfl rfl (by decide +kernel)) (pi_list (pv 4)) (blkOk_by (N := ["_law_script", "_law_deck", "_law_size", "_law_due", "_law_orders", "_law_order_here", "_law_free_here", "_law_known", "_law_groups", "_law_tree", "_law_numbers", "_law_many"]) (sc := defScope s_law) (by decide +kernel)) (fun _ _ _ _ _ => (pg_name (i := 5) sc_law.nd rfl (.inl rfl))) (fun _ _ _ _ _ => pts_one (pt_cmpR op_eq (pe_ix (show IxR _ (rIxT K) from ix_tup) (pe_call Dsearch_certificate.ok (hr.mono (by omega)) rfl Dsearch_certificate.g Dsearch_certificate.kp Dsearch_certificate.b .nil pass0 (pa_cons (pv 5) pa_nil)) pe_int (fun _ _ => rfl)) pe_str (nomark _))) (fun _ _ _ _ _ => (pv 5)))
    (pss_cons (ps_setLc (i := 7) (own := [("_law_order_here", 5)]) (g := gName 5) (by rfl) sc_law.nd rfl rfl (sw_true rfl rfl rfl (by decide +kernel)) (pi_list (pv 4)) (blkOk_by (N := ["_law_script", "_law_deck", "_law_size", "_law_due", "_law_orders", "_law_order_here", "_law_free_here", "_law_known", "_law_groups", "_law_tree", "_law_numbers", "_law_many"]) (sc := defScope s_law) (by decide +kernel)) (fun _ _ _ _ _ => (pg_name (i := 5) sc_law.nd rfl (.inl rfl))) (fun _ _ _ _ _ => pts_one (pt_cmpR (show OpR _ (compareOp .Eq) (rEqNil K) from op_eqL hr.units0) (pe_call D_law_barriers.ok (hr.mono (by omega)) rfl D_law_barriers.g D_law_barriers.kp D_law_barriers.b .nil pass0 (pa_cons (pv 5) pa_nil)) (pe_lst pa_nil) (nomark _))) (fun _ _ _ _ _ => (pv 5)))
    (pss_cons (ps_if (PW.pt (pw_or (pt_cmpR (op_neD hr.units) (pv 6) (pv 7) (nomark _)) (pw_or1 (pt_cmpR op_ne (pe_callB call_len_seq rfl M.len PySem.boot_len (pa_cons (pv 6) pa_nil)) (pv 3) (nomark _)))))
      (pss_one (ps_ret pe_bl)) pss_nil)
    (pss_cons (ps_set (i := 8) sc_law.nd rfl (.inl rfl) (pe_call D_law_grouped.ok (hr.mono (by omega)) rfl D_law_grouped.g D_law_grouped.kp D_law_grouped.b .nil pass0 (pa_cons (pv 4) pa_nil)))
    (pss_cons (ps_if (PW.pt (pw_or (pt_cmpR op_ne (pe_callB call_lenN rfl M.len PySem.boot_len (pa_cons (pv 8) pa_nil)) (pv 3) (nomark _)) (pw_or1 (pt_cmpR (op_neD hr.units) (pe_callB cr_sortedSA rfl M.sorted (by decide +kernel) (pa_cons (pe_lock (pe_lc (own := [("_law_tree", 9)]) (g := gName 9) (tt := tYes) rfl sc_law.nd (pi_keysN (pv 8)) (blkOk_by (N := ["_law_script", "_law_deck", "_law_size", "_law_due", "_law_orders", "_law_order_here", "_law_free_here", "_law_known", "_law_groups", "_law_tree", "_law_numbers", "_law_many"]) (sc := defScope s_law) (by decide +kernel)) (fun _ _ _ _ _ => (pg_name (i := 9) sc_law.nd rfl (.inl rfl))) (fun _ _ _ _ _ => pts_nil) (fun _ _ _ _ _ => (pe_call Dwalk.ok (hr.mono (by omega)) rfl Dwalk.g Dwalk.kp Dwalk.b .nil pass0 (pa_cons (pv 9) (pa_cons pe_str pa_nil)))))) pa_nil)) (pv 6) (nomark _)))))
      (pss_one (ps_ret pe_bl)) pss_nil)
    (pss_one (ps_lock (ps_for PassesOwn.never rfl (pi_keysN (pv 8)) (pg_name (i := 9) sc_law.nd rfl (.inr rfl))
      (pss_cons (ps_setLc (i := 10) (own := [("_law_order_here", 5)]) (g := gName 5) (tt := tYes) (by rfl) sc_law.nd rfl rfl (sw_true rfl rfl rfl (by decide +kernel)) (pi_list (pe_nix (Nat.lt_of_le_of_lt (Nat.add_le_add_left (by decide) _) hr.units) (pv 8) (pv 9) (fun _ _ => rfl))) (blkOk_by (N := ["_law_script", "_law_deck", "_law_size", "_law_due", "_law_orders", "_law_order_here", "_law_free_here", "_law_known", "_law_groups", "_law_tree", "_law_numbers", "_law_many"]) (sc := defScope s_law) (by decide +kernel)) (fun _ _ _ _ _ => (pg_name (i := 5) sc_law.nd rfl (.inl rfl))) (fun _ _ _ _ _ => pts_nil) (fun _ _ _ _ _ => (pe_call Dorder_index.ok (hr.mono (by omega)) rfl Dorder_index.g Dorder_index.kp Dorder_index.b .nil pass0 (pa_cons (pv 9) (pa_cons (pv 5) pa_nil)))))
    (pss_cons (ps_set (i := 11) sc_law.nd rfl (.inl rfl) (pe_callB call_len_seq rfl M.len PySem.boot_len (pa_cons (pv 10) pa_nil)))
    (pss_one (ps_if (PW.pt (pw_or (pt_cmpR op_ne (pe_call Dcount_orders.ok (hr.mono (by omega)) rfl Dcount_orders.g Dcount_orders.kp Dcount_orders.b .nil pass0 (pa_cons (pv 9) pa_nil)) (pv 11) (nomark _)) (pw_or1 (pt_not (pt_val (pe_call D_law_same.ok (hr.mono (by omega)) rfl D_law_same.g D_law_same.kp D_law_same.b .nil pass0 (pa_cons (pv 10) (pa_cons (pe_listRg rfl rfl M.list (prg_1 rfl M.range (pv 11))) pa_nil))))))))
      (pss_one (ps_ret pe_bl)) pss_nil))))))))))))))
    (pss_one (ps_ret pe_bl)))), ?_⟩
  refine ⟨_, rfl, a, ns, rfl, hS, hn, fun D H1 d1 s1 => ?_⟩
  refine ⟨(by show 5 ≤ sizeLine; decide), fun p1 n1 => ⟨(by show 5 ≤ sizeLine; decide), fun p2 n2 => ?_⟩⟩
  have j1 := same_new n1 (.lst [.int 1, .int 2, .int 3, .int 4, .int 5])
  have j2 := same_new n2 (.lst [.int 1, .int 2, .int 5, .int 14, .int 42])
  have e1 := j2 _ _ (upd_same (H := H1) (a := p1) (o := .lst [.int 1, .int 2, .int 3, .int 4, .int 5]))
  have e2 := upd_same (H := upd H1 p1 (.lst [.int 1, .int 2, .int 3, .int 4, .int 5])) (a := p2) (o := .lst [.int 1, .int 2, .int 5, .int 14, .int 42])
  have d2 := (d1.same j1).same j2
  have o1 := d1.new n1
  have o2 := (d1.same j1).new n2
  have T2 := ((hT.ext s1).ext j1).ext j2
  generalize upd (upd H1 p1 (.lst [.int 1, .int 2, .int 3, .int 4, .int 5])) p2 (.lst [.int 1, .int 2, .int 5, .int 14, .int 42]) = H2 at e1 e2 d2 T2 ⊢
  refine ⟨p1, p2, _, _, rfl, .inl ⟨SqL.of e1, SqL.of e2, ?_⟩⟩
  refine RZ.for_zipL (K := K) (a := p1) (b := p2) (xs := [.int 1, .int 2, .int 3, .int 4, .int 5]) (ys := [.int 1, .int 2, .int 5, .int 14, .int 42]) rfl (fun i σ H' => ∃ z2 z3 z4 z5 z6 z7 z8 z9 z10 z11, σ = [some (.ref a), some (.ref D.dk), z2, z3, z4, z5, z6, z7, z8, z9, z10, z11] ∧ DeckOk H' D ∧ LamX.Tabs T H' ∧ H' p1 = some (.lst [.int 1, .int 2, .int 3, .int 4, .int 5]) ∧ H' p2 = some (.lst [.int 1, .int 2, .int 5, .int 14, .int 42])) ⟨_, _, _, _, _, _, _, _, _, _, rfl, d2, T2, e1, e2⟩ (fun i σ H' hp => by obtain ⟨_, _, _, _, _, _, _, _, _, _, _, _, _, g1, g2⟩ := hp; exact ⟨SqL.of g1, SqL.of g2⟩) (fun i x y tp σ H3 hx hy hp ntp => ?_) (fun σ H3 hp => ?_)
  · obtain ⟨z2, z3, z4, z5, z6, z7, z8, z9, z10, z11, rfl, d3, T3, g1, g2⟩ := hp
    obtain ⟨m, rfl, rfl, m1, m6⟩ : ∃ m : Nat, x = vn m ∧ y = vn (cat m) ∧ 1 ≤ m ∧ m ≤ 5 := by
      match i, hx, hy with
      | 0, hx, hy => cases hx; cases hy; exact ⟨1, rfl, rfl, by decide, by decide⟩
      | 1, hx, hy => cases hx; cases hy; exact ⟨2, rfl, rfl, by decide, by decide⟩
      | 2, hx, hy => cases hx; cases hy; exact ⟨3, rfl, rfl, by decide, by decide⟩
      | 3, hx, hy => cases hx; cases hy; exact ⟨4, rfl, rfl, by decide, by decide⟩
      | 4, hx, hy => cases hx; cases hy; exact ⟨5, rfl, rfl, by decide, by decide⟩
    have j4 := same_new ntp (.tup [vn m, vn (cat m)])
    have et := upd_same (H := H3) (a := tp) (o := .tup [vn m, vn (cat m)])
    have d4 := d3.same j4
    have T4 := T3.ext j4
    have g14 := j4 _ _ g1
    have g24 := j4 _ _ g2
    generalize upd H3 tp (.tup [vn m, vn (cat m)]) = H4 at et d4 T4 g14 g24 ⊢
    refine ⟨tp, _, rfl, SqT.of et, rfl, _, _, rfl, _, _, rfl, rfl, ?_⟩
    refine ⟨_, rfl, _, rfl, _, rfl, D, m, m, rfl, d4, Nat.le_refl m, by omega, fun zs H5 d5 s5 lz z1 z2' => ?_⟩
    have T5 := tabsD d4 s5 T4
    have g15 := s5.at o1 g14
    have g25 := s5.at o2 g24
    have lzm : zs.length = m := by omega
    refine ⟨zs, rfl, by omega, fun p ys H6 s6 ep py so => ?_⟩
    have d6 := d5.same s6
    have T6 := T5.ext s6
    have g16 := s6 _ _ g15
    have g26 := s6 _ _ g25
    have ndA := allP_nodup zs lz.1
    have ndy : ys.Nodup := py.nodup_iff.mpr ndA
    have soy := lt_of_ndL (sortedS_tx so) ndy
    have len_y : ys.length ≤ 120 := by
      rw [py.length_eq, allP_len]
      exact Nat.le_trans (facN_mono (show zs.length ≤ 5 by omega)) (by decide)
    have pz : ∀ o ∈ ys, o.Perm zs := fun o ho => allP_perm zs o (py.mem_iff.mp ho)
    have ndo : ∀ o ∈ ys, o.Nodup := fun o ho => (pz o ho).nodup_iff.mpr lz.1
    have leo : ∀ o ∈ ys, o.length = m := fun o ho => (pz o ho).length_eq.trans lzm
    refine ⟨_, rfl, p, rfl, ⟨_, SqL.of ep⟩, fun D1 nD1 => ?_⟩
    have j7 := same_new nD1 (.lst [])
    refine lc_list (K := K) (a := p) (xs := ys.map vt) (fun k H' => Same H6 H' ∧ H' D1 = some (.lst (((ys.take k).filter isFree).map vt))) ⟨j7, upd_same⟩ (fun k H' _ hp => SqL.of (hp.1 _ _ ep)) (fun k y H' hy hp => ?_) (fun H7 hp => ?_)
    · obtain ⟨s', e'⟩ := hp
      rw [List.getElem?_map] at hy
      obtain ⟨o, ho, rfl⟩ := Option.map_eq_some_iff.mp hy
      have hm := List.mem_of_getElem? ho
      have lo := leo o hm
      refine ⟨rfl, ?_⟩
      refine ⟨_, rfl, o, rfl, ndo o hm, by omega, fun pc ab l h b r H8 s8 ec eb eB => ?_, fun pc v H8 s8 ec hb eB => ?_⟩
      · have nf : isFree o = false := by
          cases hf : isFree o with
          | false => rfl
          | true => rw [(bars_free (ndo o hm)).mpr hf] at eB; cases eB
        refine ⟨pc, _, _, _, rfl, rfl, SqT.of ec, rfl, rfl, false, congrArg V.bl (by decide +kernel), iteF ⟨s'.trans s8, ?_⟩⟩
        rw [take_nextG ho, List.filter_append, List.filter_cons_of_neg (by rw [nf]; exact Bool.false_ne_true), List.filter_nil, List.append_nil]
        exact s8 _ _ e'
      · have hf := (bars_free (ndo o hm)).mp eB
        refine ⟨pc, _, _, _, rfl, rfl, SqT.of ec, rfl, rfl, true, congrArg V.bl (by decide +kernel), iteT ?_⟩
        refine ⟨_, rfl, _, s8 _ _ e', ?_, fun b u e => ?_, ?_⟩
        · rw [List.length_map]
          exact small1000 (by have := (List.filter_sublist (p := isFree) (l := ys.take k)).length_le; rw [List.length_take] at this; omega)
        · rw [upd_ne (ne_of_none e nD1)]; exact s8 _ _ (s' _ _ e)
        · rw [upd_same, take_nextG ho, List.filter_append, List.filter_cons_of_pos hf, List.filter_nil, List.map_append]
          rfl
    obtain ⟨s7, e7⟩ := hp
    rw [List.length_map, List.take_length] at e7
    have ep7 := s7 _ _ ep
    refine ⟨_, rfl, p, rfl, ⟨_, SqL.of ep7⟩, fun D2 nD2 => ?_⟩
    have j8 := same_new nD2 (.lst [])
    refine lc_list (K := K) (a := p) (xs := ys.map vt) (fun k H' => Same H7 H' ∧ H' D2 = some (.lst (((ys.take k).filter isFree).map vt))) ⟨j8, upd_same⟩ (fun k H' _ hp => SqL.of (hp.1 _ _ ep7)) (fun k y H' hy hp => ?_) (fun H8 hp => ?_)
    · obtain ⟨s', e'⟩ := hp
      rw [List.getElem?_map] at hy
      obtain ⟨o, ho, rfl⟩ := Option.map_eq_some_iff.mp hy
      have hm := List.mem_of_getElem? ho
      have lo := leo o hm
      refine ⟨rfl, ?_⟩
      refine ⟨_, rfl, o, rfl, by omega, fun pb ub H9 s9 eb tb lb => ?_⟩
      refine ⟨(by show 0 ≤ sizeLine; decide), fun pe npe => ?_⟩
      have j9 := same_new npe (.lst [])
      have lub := tb.len
      refine ⟨pb, pe, ub, rfl, rfl, SqL.of (j9 _ _ eb), SqL.of upd_same, ?_⟩
      have s10 := s9.trans j9
      generalize upd H9 pe (.lst []) = H10 at s10 ⊢
      by_cases hf : isFree o = true
      · have hu : ub.isEmpty = true := by
          rw [(lbars_free (ndo o hm)).mpr hf] at lub
          rw [List.length_eq_zero_iff.mp lub]
          rfl
        refine ⟨true, congrArg V.bl hu, iteT ?_⟩
        refine ⟨_, rfl, _, s10 _ _ e', ?_, fun b u e => ?_, ?_⟩
        · rw [List.length_map]
          exact small1000 (by have := (List.filter_sublist (p := isFree) (l := ys.take k)).length_le; rw [List.length_take] at this; omega)
        · rw [upd_ne (ne_of_none e nD2)]; exact s10 _ _ (s' _ _ e)
        · rw [upd_same, take_nextG ho, List.filter_append, List.filter_cons_of_pos hf, List.filter_nil, List.map_append]
          rfl
      · have hu : ub.isEmpty = false := by
          cases ub with
          | nil => exact absurd ((lbars_free (ndo o hm)).mp (List.length_eq_zero_iff.mp lub.symm)) hf
          | cons _ _ => rfl
        refine ⟨false, congrArg V.bl hu, iteF ⟨s'.trans s10, ?_⟩⟩
        rw [take_nextG ho, List.filter_append, List.filter_cons_of_neg hf, List.filter_nil, List.append_nil]
        exact s10 _ _ e'
    obtain ⟨s8, e8⟩ := hp
    rw [List.length_map, List.take_length] at e8
    have lowy : ∀ o ∈ ys, ∀ c ∈ o, 97 ≤ c ∧ c ≤ 122 := fun o ho c hc => lz.2 c ((pz o ho).mem_iff.mp hc)
    have shf : SeqAt.shaped (dTx (ys.filter isFree)) = true := shaped_dTx fun o ho => lowy o (List.mem_filter.mp ho).1
    have cnt : (ys.filter isFree).length = cat m := by rw [(py.filter isFree).length_eq, free_count lz.1 (by omega), lzm]
    have e78 := s8 _ _ e7
    refine ⟨_, rfl, ?_⟩
    refine ⟨_, rfl, dTx (ys.filter isFree), dTx (ys.filter isFree), .lst (SqL.of e78) (dp_txs _), .lst (SqL.of e8) (dp_txs _), shf, shf, ?_⟩
    rw [SeqAt.eqv_refl _ (SeqAt.canLay_of_shaped shf)]
    refine ⟨_, rfl, iteF ?_⟩
    refine ⟨_, rfl, D1, _, rfl, .inl (SqL.of e78), _, rfl, rfl, _, rfl, iteNS (by rw [List.length_map, cnt]) ?_⟩
    have s68 := s7.trans s8
    have ep8 := s68 _ _ ep
    have d8 := d6.same s68
    have T8 := T6.ext s68
    have g18 := s68 _ _ g16
    have g28 := s68 _ _ g26
    refine ⟨_, rfl, p, ys, rfl, ep8, len_y, fun o ho => ⟨ndo o ho, fun z => ?_, by rw [leo o ho]; omega⟩, fun pg kvs H9 npg s9 eg nk ga => ?_⟩
    · have := leo o ho
      rw [z] at this
      have : 0 = m := this
      omega
    have gok := grp_ok ys
    have kl := ga.len
    have ek := ga.keys
    have pf := keys_free lz.1 py gok
    have kn : kvs.length = cat m := by
      rw [kl, ← cnt, ← pf.length_eq, List.length_map]
    have k120 : kvs.length ≤ 120 := by rw [kl]; exact Nat.le_trans (grp_len gok) len_y
    have e79 := s9 _ _ e78
    refine ⟨_, rfl, pg, kvs, rfl, .of eg, nk, _, rfl, rfl, _, rfl, iteNS (by rw [kn]) ?_⟩
    refine ⟨pg, DN P w pg kvs, eg, trivial, fun od => ?_⟩
    have kf0 : ∀ b o, H8 b = some o → upd H9 pg (.frz od (DN P w pg kvs)) b = some o := fun b o e => by
      rw [upd_ne (ne_of_none e npg)]
      exact s9 _ _ e
    have kt0 : KeepT H9 (upd H9 pg (.frz od (DN P w pg kvs))) := fun b xs e => by
      rw [upd_ne (ne_of e eg (fun z => nomatch z))]
      exact e
    have kl0 : ∀ b xs, H9 b = some (.lst xs) → upd H9 pg (.frz od (DN P w pg kvs)) b = some (.lst xs) := fun b xs e => by
      rw [upd_ne (ne_of e eg (fun z => nomatch z))]
      exact e
    have ef := upd_same (H := H9) (a := pg) (o := .frz od (DN P w pg kvs))
    have nkf := nk.keep kt0
    have gaf := ga.keep kl0
    generalize upd H9 pg (.frz od (DN P w pg kvs)) = Hf at kf0 ef nkf gaf ⊢
    refine ⟨_, rfl, pg, od, kvs, rfl, ef, fun D3 nD3 => ?_⟩
    have j10 := same_new nD3 (.lst [])
    refine lc_it (walk_keysN (P := P) (w := w) (d := pg) (o := od) (kvs := kvs)) (fun j H' => Same Hf H' ∧ H' D3 = some (.lst ((((kvs.take j).map fun q => q.1.pre).map tx).map V.str))) ⟨j10, upd_same⟩ (fun j H' _ hp => hp.1 _ _ ef) (fun j y H' H'' hj hp hy => ?_) (fun H10 hp => ?_)
    · obtain ⟨s', e'⟩ := hp
      obtain ⟨rfl, pr, hpr, rfl⟩ := hy
      have hm := List.mem_of_getElem? hpr
      obtain ⟨b1, b2⟩ := nkf pr hm
      refine ⟨rfl, kept ?_⟩
      refine ⟨_, rfl, _, pr.1, .first, rfl, b1.same s', by omega, fun H11 s11 => ?_⟩
      refine ⟨_, s11 _ _ e', ?_, fun b o e => ?_, ?_⟩
      · rw [List.length_map, List.length_map, List.length_map, List.length_take]; exact small1000 (by omega)
      · rw [upd_ne (ne_of_none e nD3)]; exact s11 _ _ (s' _ _ e)
      · rw [upd_same, take_nextG hpr, List.map_append, List.map_append, List.map_append]; rfl
    obtain ⟨s10, e10⟩ := hp
    rw [List.take_length] at e10
    have ef10 := s10 _ _ ef
    refine ⟨ef10, ?_⟩
    have ku0 : ∀ b o, H8 b = some o → upd H10 pg (DN P w pg kvs) b = some o := fun b o e => by
      rw [upd_ne (ne_of_none e npg)]
      exact s10 _ _ (kf0 _ _ e)
    have ktu : KeepT Hf (upd H10 pg (DN P w pg kvs)) := fun b xs e => by
      rw [upd_ne (ne_of (s10 _ _ e) ef10 (fun z => nomatch z))]
      exact s10 _ _ e
    have klu : ∀ b xs, H10 b = some (.lst xs) → upd H10 pg (DN P w pg kvs) b = some (.lst xs) := fun b xs e => by
      rw [upd_ne (ne_of e ef10 (fun z => nomatch z))]
      exact e
    have eu := upd_same (H := H10) (a := pg) (o := DN P w pg kvs)
    have nku := nkf.keep ktu
    have gau := (gaf.keep fun b xs e => s10 _ _ e).keep klu
    have e10u := klu _ _ e10
    refine ⟨D3, _, rfl, SqL.of e10u, fun ys5 p5 perm so5 np5 => ?_⟩
    obtain ⟨Z, rfl, pZ⟩ := perm_tx perm
    have ek2 : kvs.map (fun q => q.1.pre) = (grp ys).map fun q => q.1.pre := by
      have := congrArg (List.map B.pre) ek
      rw [List.map_map, List.map_map] at this
      exact this
    rw [ek2] at pZ
    have pZf := pZ.trans pf
    have ndf : (ys.filter isFree).Nodup := ndy.sublist List.filter_sublist
    have eZ : Z = ys.filter isFree := eq_of_permL (lt_of_ndL (sortedS_tx so5) (pZf.nodup_iff.mpr ndf)) (soy.sublist List.filter_sublist) pZf
    subst eZ
    have np5 : upd H10 pg (DN P w pg kvs) p5 = none := np5
    have j5 := same_new np5 (.lst (((ys.filter isFree).map tx).map V.str))
    have e5 : upd (upd H10 pg (DN P w pg kvs)) p5 (.lst (((ys.filter isFree).map tx).map V.str)) p5 = some (.lst ((ys.filter isFree).map vt)) := by
      rw [upd_same, List.map_map]
      rfl
    have ku1 : ∀ b o, H8 b = some o → upd (upd H10 pg (DN P w pg kvs)) p5 (.lst (((ys.filter isFree).map tx).map V.str)) b = some o := fun b o e => j5 _ _ (ku0 _ _ e)
    have eu1 := j5 _ _ eu
    have nku1 := nku.keep (fun b xs e => j5 _ _ e)
    have gau1 := gau.keep (fun b xs e => j5 _ _ e)
    refine ⟨_, rfl, dTx (ys.filter isFree), dTx (ys.filter isFree), .lst (SqL.of e5) (dp_txs _), .lst (SqL.of (ku1 _ _ e78)) (dp_txs _), shf, shf, ?_⟩
    rw [SeqAt.eqv_refl _ (SeqAt.canLay_of_shaped shf)]
    refine ⟨_, rfl, iteF ?_⟩
    show tLock _ _ _ (upd (upd H10 pg (DN P w pg kvs)) p5 (.lst (((ys.filter isFree).map tx).map V.str)))
    generalize upd (upd H10 pg (DN P w pg kvs)) p5 (.lst (((ys.filter isFree).map tx).map V.str)) = Hv at e5 ku1 eu1 nku1 gau1 ⊢
    refine ⟨pg, DN P w pg kvs, eu1, trivial, fun od2 => ?_⟩
    have kg0 : ∀ b o, H8 b = some o → upd Hv pg (.frz od2 (DN P w pg kvs)) b = some o := fun b o e => by
      rw [upd_ne (ne_of_none e npg)]
      exact ku1 _ _ e
    have ktg : KeepT Hv (upd Hv pg (.frz od2 (DN P w pg kvs))) := fun b xs e => by
      rw [upd_ne (ne_of e eu1 (fun z => nomatch z))]
      exact e
    have klg : ∀ b xs, Hv b = some (.lst xs) → upd Hv pg (.frz od2 (DN P w pg kvs)) b = some (.lst xs) := fun b xs e => by
      rw [upd_ne (ne_of e eu1 (fun z => nomatch z))]
      exact e
    have eg2 := upd_same (H := Hv) (a := pg) (o := .frz od2 (DN P w pg kvs))
    have nkg := nku1.keep ktg
    have gag := gau1.keep klg
    generalize upd Hv pg (.frz od2 (DN P w pg kvs)) = Hg at kg0 eg2 nkg gag ⊢
    have Tg : LamX.Tabs T Hg := T8.ext kg0
    have ndk : (kvs.map (·.1)).Nodup := by rw [ek]; exact gok.nd
    have nt : ∀ {u : HO}, (∃ xs, u = .lst xs) → ∀ ps, u ≠ .tbl ps := fun ⟨_, e⟩ ps z => by rw [e] at z; cases z
    refine ⟨_, rfl, pg, od2, kvs, rfl, eg2, ?_⟩
    refine for_it (walk_keysN (P := P) (w := w) (d := pg) (o := od2) (kvs := kvs)) (fun j σ H' => ∃ y5 y9 y10 y11, σ = [some (.ref a), some (.ref D.dk), some (vn m), some (vn (cat m)), some (.ref p), y5, some (.ref D1), some (.ref D2), some (.ref pg), y9, y10, y11] ∧ LamX.ExtN Hg H' ∧ LamX.Tabs T H') ⟨_, _, _, _, rfl, fun b o e _ => e, Tg⟩ (fun j σ H' _ hp => by obtain ⟨_, _, _, _, _, x, _⟩ := hp; exact x _ _ eg2 (fun ps z => by cases z)) (fun j y σ Hi Hj hj hp hy => ?_) (fun σ H10 hp => ?_)
    · obtain ⟨y5, y9, y10, y11, rfl, xg, Tj⟩ := hp
      obtain ⟨rfl, pr, hpr, rfl⟩ := hy
      have hm := List.mem_of_getElem? hpr
      obtain ⟨gq, G, egq, elq, hG⟩ := gag.get hpr
      obtain ⟨⟨o0, ho0, eo0⟩, eG⟩ := gok.ones _ hG
      have eo0 : gr o0 = pr.1 := eo0
      have eG : G = ys.filter fun o => decide (gr o = pr.1) := eG
      obtain ⟨b1, b2⟩ := nkg pr hm
      have kt := extN_keepT xg
      have elq' := xg _ _ elq (fun ps z => by cases z)
      have lG : G.length ≤ 120 := by rw [eG]; exact Nat.le_trans List.filter_sublist.length_le len_y
      have inG : ∀ o ∈ G, o ∈ ys ∧ gr o = pr.1 := fun o ho => by
        rw [eG] at ho
        exact ⟨(List.mem_filter.mp ho).1, of_decide_eq_true (List.mem_filter.mp ho).2⟩
      have tne : pr.1 ≠ .nil := by
        rw [← eo0]
        refine gr_ne fun z => ?_
        have := leo o0 ho0
        rw [z] at this
        have : 0 = m := this
        omega
      have tnd : pr.1.pre.Nodup := by rw [← eo0]; exact (gr_perm o0).nodup_iff.mpr (ndo o0 ho0)
      refine ⟨_, rfl, _, rfl, pg, pr.2.1, kvs, pr.1, .ref gq, rfl, rfl, .inr ⟨od2, xg _ _ eg2 (fun ps z => by cases z)⟩, nkg.keep kt, b1.keep kt, b2, (valN_mem ndk hm).trans (by rw [egq]), gq, rfl, ⟨_, SqL.of elq'⟩, fun D4 nD4 => ?_⟩
      have jD := same_new nD4 (.lst [])
      refine lc_list (K := K) (a := gq) (xs := G.map vt) (fun k H3 => ∃ ks : List Nat, LamX.ExtN Hj H3 ∧ LamX.Tabs T H3 ∧ H3 D4 = some (.lst (ks.map fun i => vn i)) ∧ Paired (fun q k => Idx (ft pr.1) q k) (G.take k) ks) ⟨[], same_extN jD, Tj.ext jD, upd_same, .nil⟩ (fun k H' _ hp => by obtain ⟨_, x, _⟩ := hp; exact SqL.of (x _ _ elq' (fun ps z => by cases z))) (fun k y H3 hy hp => ?_) (fun H5 hp => ?_)
      · obtain ⟨ks, x', T', e', pk⟩ := hp
        rw [List.getElem?_map] at hy
        obtain ⟨o, ho, rfl⟩ := Option.map_eq_some_iff.mp hy
        have hk := (List.getElem?_eq_some_iff.mp ho).1
        obtain ⟨i1, i2⟩ := inG o (List.mem_of_getElem? ho)
        have va : Valid (ft pr.1) o := by rw [← i2]; exact gr_valid o.length o (Nat.le_refl _) (ndo o i1)
        have lks : ks.length = k := by rw [← Paired.length pk, List.length_take]; omega
        refine ⟨rfl, kept ?_⟩
        refine ⟨_, rfl, _, rfl, _, pr.1, o, rfl, b1.keep (kt.trans (extN_keepT x')), tne, tnd, by omega, va, T', fun k2 H4 x4 T4 id => ?_⟩
        refine ⟨_, x4 _ _ e' (fun ps z => by cases z), ?_, ks ++ [k2], fun b u e n => ?_, ?_, ?_, ?_⟩
        · rw [List.length_map, lks]; exact small1000 (by omega)
        · rw [upd_ne (ne_of_none e nD4)]; exact x4 _ _ (x' _ _ e n) n
        · exact tabs_but (x4 _ _ e' (fun ps z => by cases z)) (fun b o hb e => by rw [upd_ne hb]; exact e) T4
        · rw [upd_same, List.map_append]; rfl
        · rw [take_nextG ho]; exact Paired.snoc pk id
      obtain ⟨ks, x5, T5', e5', pk⟩ := hp
      rw [List.length_map, List.take_length] at pk
      obtain ⟨lenG, eks⟩ := group_numbers lz.1 (by omega) py soy ho0 eo0 eG pk
      have lks : ks.length = G.length := (Paired.length pk).symm
      have b5 := b1.keep (kt.trans (extN_keepT x5))
      refine ⟨_, rfl, D4, _, rfl, .inl (SqL.of e5'), ?_⟩
      refine ⟨_, rfl, _, pr.1, rfl, b5, by omega, fun H6 s6 => ?_⟩
      refine ⟨_, rfl, rfl, _, rfl, iteNS (by rw [List.length_map, lks, lenG]) ?_⟩
      refine ⟨_, rfl, _, rfl, _, rfl, RgOk.of_le (by decide) (by rw [List.length_map]; omega) (by decide) (by omega), fun pq npq => ?_⟩
      have e56 := s6 _ _ e5'
      have j7 := same_new npq (.lst (rgV 0 ((ks.map fun i => vn i).length : Nat)))
      have er : rgV 0 (((ks.map fun i => vn i).length : Nat) : Int) = ks.map fun i : Nat => vn i := by
        unfold rgV
        rw [List.length_map, Int.sub_zero, Int.toNat_natCast]
        conv => rhs; rw [eks, ← lks]
        exact List.map_congr_left fun i _ => congrArg V.int (Int.zero_add _)
      rw [er] at j7 ⊢
      have e7' := upd_same (H := H6) (a := pq) (o := .lst (ks.map fun i : Nat => vn i))
      have x7 := ((xg.trans x5).trans (same_extN s6)).trans (same_extN j7)
      have T7' := (T5'.ext s6).ext j7
      have e57 := j7 _ _ e56
      generalize upd H6 pq (.lst (ks.map fun i : Nat => vn i)) = H7' at e7' x7 T7' e57 ⊢
      have dk : ∀ l : List Nat, PyData.depthAll (l.map fun i : Nat => PyData.int (i : Int)) = 0 := fun l => by
        induction l with
        | nil => simp only [List.map_nil, PyData.depthAll]
        | cons z l ih => simp only [List.map_cons, PyData.depthAll, PyData.depth, ih]; rfl
      have nk2 : ∀ l : List Nat, narAll (l.map fun i : Nat => PyData.int (i : Int)) = true := fun l => by
        induction l with
        | nil => rfl
        | cons z l ih => exact ih
      refine ⟨_, _, .list (ks.map fun i : Nat => PyData.int (i : Int)), rfl, .lst (SqL.of e57) (dp_ns ks), .lst (SqL.of e7') (dp_ns ks), ?_, ?_, fun H8' s8' => ?_⟩
      · simp only [PyData.depth, dk]; decide
      · show (decide _ && narAll _) = true
        rw [nk2, decide_eq_true (by rw [List.length_map]; omega)]
        rfl
      refine ⟨true, rfl, iteF ?_⟩
      exact ⟨_, _, _, _, rfl, x7.trans (same_extN s8'), T7'.ext s8'⟩
    · obtain ⟨y5, y9, y10, y11, rfl, xg, Tj⟩ := hp
      have efj := xg _ _ eg2 (fun ps z => by cases z)
      have kle : ∀ b xs, H8 b = some (.lst xs) → upd H10 pg (DN P w pg kvs) b = some (.lst xs) := fun b xs e => by
        rw [upd_ne (ne_of_none e npg)]
        exact xg _ _ (kg0 _ _ e) (fun ps z => by cases z)
      exact ⟨efj, _, _, _, _, _, _, _, _, _, _, rfl, d8.lst kle, tabs_frz efj (fun b o hb e => (upd_ne hb).trans e) Tj, kle _ _ g18, kle _ _ g28⟩
  · obtain ⟨z2, z3, z4, z5, z6, z7, z8, z9, z10, z11, rfl, _⟩ := hp
    exact q H3
end
/-! ### what the top has left -/
theorem all_mk {l : PySem.W.OpenLaw} {w : World} {K : PySem.W.Frag} {h : Heap} {mg : Str → Option Value} {fa f1 f2 f3 f4 f5 f6 f7 f8 f9 f10 f11 f12 f13 f14 f15 f16 f17 f18 f19 f20 f21 f22 f23 f24 f25 f26 f27 f28 f29  : Addr} (X : K.In h) (G : h.Ns mainGlobals mg) (hfa : mg "law" = some (.ref fa))
    {od1 an1 od2 an2 od3 an3 od4 an4 od5 an5 od6 an6 od7 an7 od8 an8 od9 an9 od10 an10 od11 an11 od12 an12 od13 an13 od14 an14 od15 an15 od16 an16 od17 an17 od18 an18 od19 an19 od20 an20 od21 an21 od22 an22 od23 an23 od24 an24 od25 an25 od26 an26 od27 an27 od28 an28 od29 an29 : Option Addr} {sl1 sl2 sl3 sl4 sl5 sl6 sl7 sl8 sl9 sl10 sl11 sl12 sl13 sl14 sl15 sl16 sl17 sl18 sl19 sl20 sl21 sl22 sl23 sl24 sl25 sl26 sl27 sl28 sl29 : Array (Option Value)}
    {oc1 kV1 dc1 pm1 cd1 ct1 oc2 kV2 dc2 pm2 cd2 ct2 oc3 kV3 dc3 pm3 cd3 ct3 oc4 kV4 dc4 pm4 cd4 ct4 oc5 kV5 dc5 pm5 cd5 ct5 oc6 kV6 dc6 pm6 cd6 ct6 oc7 kV7 dc7 pm7 cd7 ct7 oc8 kV8 dc8 pm8 cd8 ct8 oc9 kV9 dc9 pm9 cd9 ct9 oc10 kV10 dc10 pm10 cd10 ct10 oc11 kV11 dc11 pm11 cd11 ct11 oc12 kV12 dc12 pm12 cd12 ct12 oc13 kV13 dc13 pm13 cd13 ct13 oc14 kV14 dc14 pm14 cd14 ct14 oc15 kV15 dc15 pm15 cd15 ct15 oc16 kV16 dc16 pm16 cd16 ct16 oc17 kV17 dc17 pm17 cd17 ct17 oc18 kV18 dc18 pm18 cd18 ct18 oc19 kV19 dc19 pm19 cd19 ct19 oc20 kV20 dc20 pm20 cd20 ct20 oc21 kV21 dc21 pm21 cd21 ct21 oc22 kV22 dc22 pm22 cd22 ct22 oc23 kV23 dc23 pm23 cd23 ct23 oc24 kV24 dc24 pm24 cd24 ct24 oc25 kV25 dc25 pm25 cd25 ct25 oc26 kV26 dc26 pm26 cd26 ct26 oc27 kV27 dc27 pm27 cd27 ct27 oc28 kV28 dc28 pm28 cd28 ct28 oc29 kV29 dc29 pm29 cd29 ct29 : Value} {t1 : Tok}
    {aK : Addr} {oK : Option Addr} {tK1 tK2 tK3 tK4 : Tok} {nK : Nat} {sK : Array (Option Value)} {cT PT : Addr} {ocT : Value} {odT : Option Addr} {vsT : Array Value} {slT : Array (Option Value)}
    (aKn : PySem.W.nsIn K mainGlobals "KINDS" = some (some (.ref aK)))
    (aKl : K.lookup aK = some ⟨.type "tuple", oK, .seq #[.str "first" tK1, .str "between" tK2, .str "last" tK3, .str "level" tK4] nK, sK⟩)
    (eCd : cd18 = .ref cT)
    (eLk : K.lookup cT = some ⟨ocT, odT, .fields vsT, slT⟩)
    (eP : vsT[11]? = some (.ref PT))
    (eHd : PySem.W.codeHdIn K cT PT = true)
    (eNo : K.lookup PT = none)
    (eNe : mainGlobals ≠ PT)
    (eTs : h.get? PT = some { cls := .none, data := .fields #[] })
    (a1 : PySem.W.nsIn K mainGlobals "is_whole_number" = some (some (.ref f1)))
    (l1 : K.lookup f1 = some ⟨oc1, od1, .func (PySem.W.fnOf "is_whole_number" "is_whole_number" (defArgs s_is_whole_number) (defBody s_is_whole_number) (defScope s_is_whole_number) .none kV1 dc1 pm1 an1 cd1 ct1), sl1⟩)
    (c1 : PySem.W.codeIn K cd1 "is_whole_number" = true)
    (k1 : PySem.W.keepIn K (.ref f1) = true)
    (a2 : PySem.W.nsIn K mainGlobals "is_index" = some (some (.ref f2)))
    (l2 : K.lookup f2 = some ⟨oc2, od2, .func (PySem.W.fnOf "is_index" "is_index" (defArgs s_is_index) (defBody s_is_index) (defScope s_is_index) .none kV2 dc2 pm2 an2 cd2 ct2), sl2⟩)
    (c2 : PySem.W.codeIn K cd2 "is_index" = true)
    (k2 : PySem.W.keepIn K (.ref f2) = true)
    (a3 : PySem.W.nsIn K mainGlobals "is_ascending" = some (some (.ref f3)))
    (l3 : K.lookup f3 = some ⟨oc3, od3, .func (PySem.W.fnOf "is_ascending" "is_ascending" (defArgs s_is_ascending) (defBody s_is_ascending) (defScope s_is_ascending) .none kV3 dc3 pm3 an3 cd3 ct3), sl3⟩)
    (c3 : PySem.W.codeIn K cd3 "is_ascending" = true)
    (k3 : PySem.W.keepIn K (.ref f3) = true)
    (a4 : PySem.W.nsIn K mainGlobals "size_of" = some (some (.ref f4)))
    (l4 : K.lookup f4 = some ⟨oc4, od4, .func (PySem.W.fnOf "size_of" "size_of" (defArgs s_size_of) (defBody s_size_of) (defScope s_size_of) .none kV4 dc4 pm4 an4 cd4 ct4), sl4⟩)
    (c4 : PySem.W.codeIn K cd4 "size_of" = true)
    (k4 : PySem.W.keepIn K (.ref f4) = true)
    (a5 : PySem.W.nsIn K mainGlobals "is_kind" = some (some (.ref f5)))
    (l5 : K.lookup f5 = some ⟨oc5, od5, .func (PySem.W.fnOf "is_kind" "is_kind" (defArgs s_is_kind) (defBody s_is_kind) (defScope s_is_kind) .none kV5 dc5 pm5 an5 cd5 ct5), sl5⟩)
    (c5 : PySem.W.codeIn K cd5 "is_kind" = true)
    (k5 : PySem.W.keepIn K (.ref f5) = true)
    (a6 : PySem.W.nsIn K mainGlobals "ordered_steps" = some (some (.ref f6)))
    (l6 : K.lookup f6 = some ⟨oc6, od6, .func (PySem.W.fnOf "ordered_steps" "ordered_steps" (defArgs s_ordered_steps) (defBody s_ordered_steps) (defScope s_ordered_steps) .none kV6 dc6 pm6 an6 cd6 ct6), sl6⟩)
    (c6 : PySem.W.codeIn K cd6 "ordered_steps" = true)
    (k6 : PySem.W.keepIn K (.ref f6) = true)
    (a7 : PySem.W.nsIn K mainGlobals "deep_steps" = some (some (.ref f7)))
    (l7 : K.lookup f7 = some ⟨oc7, od7, .func (PySem.W.fnOf "deep_steps" "deep_steps" (defArgs s_deep_steps) (defBody s_deep_steps) (defScope s_deep_steps) .none kV7 dc7 pm7 an7 cd7 ct7), sl7⟩)
    (c7 : PySem.W.codeIn K cd7 "deep_steps" = true)
    (k7 : PySem.W.keepIn K (.ref f7) = true)
    (a8 : PySem.W.nsIn K mainGlobals "walk" = some (some (.ref f8)))
    (l8 : K.lookup f8 = some ⟨oc8, od8, .func (PySem.W.fnOf "walk" "walk" (defArgs s_walk) (defBody s_walk) (defScope s_walk) .none kV8 dc8 pm8 an8 cd8 ct8), sl8⟩)
    (c8 : PySem.W.codeIn K cd8 "walk" = true)
    (k8 : PySem.W.keepIn K (.ref f8) = true)
    (a9 : PySem.W.nsIn K mainGlobals "is_barrier" = some (some (.ref f9)))
    (l9 : K.lookup f9 = some ⟨oc9, od9, .func (PySem.W.fnOf "is_barrier" "is_barrier" (defArgs s_is_barrier) (defBody s_is_barrier) (defScope s_is_barrier) .none kV9 dc9 pm9 an9 cd9 ct9), sl9⟩)
    (c9 : PySem.W.codeIn K cd9 "is_barrier" = true)
    (k9 : PySem.W.keepIn K (.ref f9) = true)
    (a10 : PySem.W.nsIn K mainGlobals "barriers_of" = some (some (.ref f10)))
    (l10 : K.lookup f10 = some ⟨oc10, od10, .func (PySem.W.fnOf "barriers_of" "barriers_of" (defArgs s_barriers_of) (defBody s_barriers_of) (defScope s_barriers_of) .none kV10 dc10 pm10 an10 cd10 ct10), sl10⟩)
    (c10 : PySem.W.codeIn K cd10 "barriers_of" = true)
    (k10 : PySem.W.keepIn K (.ref f10) = true)
    (a11 : PySem.W.nsIn K mainGlobals "search_certificate" = some (some (.ref f11)))
    (l11 : K.lookup f11 = some ⟨oc11, od11, .func (PySem.W.fnOf "search_certificate" "search_certificate" (defArgs s_search_certificate) (defBody s_search_certificate) (defScope s_search_certificate) .none kV11 dc11 pm11 an11 cd11 ct11), sl11⟩)
    (c11 : PySem.W.codeIn K cd11 "search_certificate" = true)
    (k11 : PySem.W.keepIn K (.ref f11) = true)
    (a12 : PySem.W.nsIn K mainGlobals "with_letter" = some (some (.ref f12)))
    (l12 : K.lookup f12 = some ⟨oc12, od12, .func (PySem.W.fnOf "with_letter" "with_letter" (defArgs s_with_letter) (defBody s_with_letter) (defScope s_with_letter) .none kV12 dc12 pm12 an12 cd12 ct12), sl12⟩)
    (c12 : PySem.W.codeIn K cd12 "with_letter" = true)
    (k12 : PySem.W.keepIn K (.ref f12) = true)
    (a13 : PySem.W.nsIn K mainGlobals "inserted" = some (some (.ref f13)))
    (l13 : K.lookup f13 = some ⟨oc13, od13, .func (PySem.W.fnOf "inserted" "inserted" (defArgs s_inserted) (defBody s_inserted) (defScope s_inserted) .none kV13 dc13 pm13 an13 cd13 ct13), sl13⟩)
    (c13 : PySem.W.codeIn K cd13 "inserted" = true)
    (k13 : PySem.W.keepIn K (.ref f13) = true)
    (a14 : PySem.W.nsIn K mainGlobals "tree_of" = some (some (.ref f14)))
    (l14 : K.lookup f14 = some ⟨oc14, od14, .func (PySem.W.fnOf "tree_of" "tree_of" (defArgs s_tree_of) (defBody s_tree_of) (defScope s_tree_of) .none kV14 dc14 pm14 an14 cd14 ct14), sl14⟩)
    (c14 : PySem.W.codeIn K cd14 "tree_of" = true)
    (k14 : PySem.W.keepIn K (.ref f14) = true)
    (a15 : PySem.W.nsIn K mainGlobals "sizes_in" = some (some (.ref f15)))
    (l15 : K.lookup f15 = some ⟨oc15, od15, .func (PySem.W.fnOf "sizes_in" "sizes_in" (defArgs s_sizes_in) (defBody s_sizes_in) (defScope s_sizes_in) .none kV15 dc15 pm15 an15 cd15 ct15), sl15⟩)
    (c15 : PySem.W.codeIn K cd15 "sizes_in" = true)
    (k15 : PySem.W.keepIn K (.ref f15) = true)
    (a16 : PySem.W.nsIn K mainGlobals "count_together" = some (some (.ref f16)))
    (l16 : K.lookup f16 = some ⟨oc16, od16, .func (PySem.W.fnOf "count_together" "count_together" (defArgs s_count_together) (defBody s_count_together) (defScope s_count_together) .none kV16 dc16 pm16 an16 cd16 ct16), sl16⟩)
    (c16 : PySem.W.codeIn K cd16 "count_together" = true)
    (k16 : PySem.W.keepIn K (.ref f16) = true)
    (a17 : PySem.W.nsIn K mainGlobals "count_orders" = some (some (.ref f17)))
    (l17 : K.lookup f17 = some ⟨oc17, od17, .func (PySem.W.fnOf "count_orders" "count_orders" (defArgs s_count_orders) (defBody s_count_orders) (defScope s_count_orders) .none kV17 dc17 pm17 an17 cd17 ct17), sl17⟩)
    (c17 : PySem.W.codeIn K cd17 "count_orders" = true)
    (k17 : PySem.W.keepIn K (.ref f17) = true)
    (a18 : PySem.W.nsIn K mainGlobals "next_steps" = some (some (.ref f18)))
    (l18 : K.lookup f18 = some ⟨oc18, od18, .func (PySem.W.fnOf "next_steps" "next_steps" (defArgs s_next_steps) (defBody s_next_steps) (defScope s_next_steps) .none kV18 dc18 pm18 an18 cd18 ct18), sl18⟩)
    (c18 : PySem.W.codeIn K cd18 "next_steps" = true)
    (k18 : PySem.W.keepIn K (.ref f18) = true)
    (a19 : PySem.W.nsIn K mainGlobals "order_index" = some (some (.ref f19)))
    (l19 : K.lookup f19 = some ⟨oc19, od19, .func (PySem.W.fnOf "order_index" "order_index" (defArgs s_order_index) (defBody s_order_index) (defScope s_order_index) .none kV19 dc19 pm19 an19 cd19 ct19), sl19⟩)
    (c19 : PySem.W.codeIn K cd19 "order_index" = true)
    (k19 : PySem.W.keepIn K (.ref f19) = true)
    (a20 : PySem.W.nsIn K mainGlobals "_law_begin" = some (some (.ref f20)))
    (l20 : K.lookup f20 = some ⟨oc20, od20, .func (PySem.W.fnOf "_law_begin" "_law_begin" (defArgs s__law_begin) (defBody s__law_begin) (defScope s__law_begin) .none kV20 dc20 pm20 an20 cd20 ct20), sl20⟩)
    (c20 : PySem.W.codeIn K cd20 "_law_begin" = true)
    (k20 : PySem.W.keepIn K (.ref f20) = true)
    (a21 : PySem.W.nsIn K mainGlobals "_law_next" = some (some (.ref f21)))
    (l21 : K.lookup f21 = some ⟨oc21, od21, .func (PySem.W.fnOf "_law_next" "_law_next" (defArgs s__law_next) (defBody s__law_next) (defScope s__law_next) .none kV21 dc21 pm21 an21 cd21 ct21), sl21⟩)
    (c21 : PySem.W.codeIn K cd21 "_law_next" = true)
    (k21 : PySem.W.keepIn K (.ref f21) = true)
    (a22 : PySem.W.nsIn K mainGlobals "_law_same" = some (some (.ref f22)))
    (l22 : K.lookup f22 = some ⟨oc22, od22, .func (PySem.W.fnOf "_law_same" "_law_same" (defArgs s__law_same) (defBody s__law_same) (defScope s__law_same) .none kV22 dc22 pm22 an22 cd22 ct22), sl22⟩)
    (c22 : PySem.W.codeIn K cd22 "_law_same" = true)
    (k22 : PySem.W.keepIn K (.ref f22) = true)
    (a23 : PySem.W.nsIn K mainGlobals "_law_mixed" = some (some (.ref f23)))
    (l23 : K.lookup f23 = some ⟨oc23, od23, .func (PySem.W.fnOf "_law_mixed" "_law_mixed" (defArgs s__law_mixed) (defBody s__law_mixed) (defScope s__law_mixed) .none kV23 dc23 pm23 an23 cd23 ct23), sl23⟩)
    (c23 : PySem.W.codeIn K cd23 "_law_mixed" = true)
    (k23 : PySem.W.keepIn K (.ref f23) = true)
    (a24 : PySem.W.nsIn K mainGlobals "_law_free" = some (some (.ref f24)))
    (l24 : K.lookup f24 = some ⟨oc24, od24, .func (PySem.W.fnOf "_law_free" "_law_free" (defArgs s__law_free) (defBody s__law_free) (defScope s__law_free) .none kV24 dc24 pm24 an24 cd24 ct24), sl24⟩)
    (c24 : PySem.W.codeIn K cd24 "_law_free" = true)
    (k24 : PySem.W.keepIn K (.ref f24) = true)
    (a25 : PySem.W.nsIn K mainGlobals "_law_order" = some (some (.ref f25)))
    (l25 : K.lookup f25 = some ⟨oc25, od25, .func (PySem.W.fnOf "_law_order" "_law_order" (defArgs s__law_order) (defBody s__law_order) (defScope s__law_order) .none kV25 dc25 pm25 an25 cd25 ct25), sl25⟩)
    (c25 : PySem.W.codeIn K cd25 "_law_order" = true)
    (k25 : PySem.W.keepIn K (.ref f25) = true)
    (a26 : PySem.W.nsIn K mainGlobals "_law_barriers" = some (some (.ref f26)))
    (l26 : K.lookup f26 = some ⟨oc26, od26, .func (PySem.W.fnOf "_law_barriers" "_law_barriers" (defArgs s__law_barriers) (defBody s__law_barriers) (defScope s__law_barriers) .none kV26 dc26 pm26 an26 cd26 ct26), sl26⟩)
    (c26 : PySem.W.codeIn K cd26 "_law_barriers" = true)
    (k26 : PySem.W.keepIn K (.ref f26) = true)
    (a27 : PySem.W.nsIn K mainGlobals "_law_all" = some (some (.ref f27)))
    (l27 : K.lookup f27 = some ⟨oc27, od27, .func (PySem.W.fnOf "_law_all" "_law_all" (defArgs s__law_all) (defBody s__law_all) (defScope s__law_all) .none kV27 dc27 pm27 an27 cd27 ct27), sl27⟩)
    (c27 : PySem.W.codeIn K cd27 "_law_all" = true)
    (k27 : PySem.W.keepIn K (.ref f27) = true)
    (a28 : PySem.W.nsIn K mainGlobals "_law_grouped" = some (some (.ref f28)))
    (l28 : K.lookup f28 = some ⟨oc28, od28, .func (PySem.W.fnOf "_law_grouped" "_law_grouped" (defArgs s__law_grouped) (defBody s__law_grouped) (defScope s__law_grouped) .none kV28 dc28 pm28 an28 cd28 ct28), sl28⟩)
    (c28 : PySem.W.codeIn K cd28 "_law_grouped" = true)
    (k28 : PySem.W.keepIn K (.ref f28) = true)
    (a29 : PySem.W.nsIn K mainGlobals "law" = some (some (.ref f29)))
    (l29 : K.lookup f29 = some ⟨oc29, od29, .func (PySem.W.fnOf "law" "law" (defArgs s_law) (defBody s_law) (defScope s_law) .none kV29 dc29 pm29 an29 cd29 ct29), sl29⟩)
    (c29 : PySem.W.codeIn K cd29 "law" = true)
    (k29 : PySem.W.keepIn K (.ref f29) = true)
    (z1 : PySem.W.nsIn K mainGlobals "zip" = some none)
    (z2 : PySem.W.nsIn K mainGlobals "all" = some none)
    (z3 : PySem.W.nsIn K mainGlobals "repr" = some none)
    (z4 : PySem.W.nsIn K mainGlobals "len" = some none)
    (z5 : PySem.W.nsIn K mainGlobals "isinstance" = some none)
    (z6 : PySem.W.nsIn K mainGlobals "list" = some none)
    (z7 : PySem.W.nsIn K mainGlobals "tuple" = some none)
    (z8 : PySem.W.nsIn K mainGlobals "str" = some none)
    (z9 : PySem.W.nsIn K mainGlobals "int" = some none)
    (z10 : PySem.W.nsIn K mainGlobals "bool" = some none)
    (z11 : PySem.W.nsIn K mainGlobals "dict" = some none)
    (z12 : PySem.W.nsIn K mainGlobals "range" = some none)
    (z13 : PySem.W.nsIn K mainGlobals "enumerate" = some none)
    (z14 : PySem.W.nsIn K mainGlobals "sum" = some none)
    (z15 : PySem.W.nsIn K mainGlobals "sorted" = some none)
    (z16 : PySem.W.nsIn K mainGlobals "abs" = some none)
    (z17 : PySem.W.nsIn K mainGlobals "min" = some none)
    (z18 : PySem.W.nsIn K mainGlobals "max" = some none)
    (v1 : PySem.W.nsIn K mainGlobals "MAX_NODES" = some (some (.int 12 t1)))
    : LamX.LawAtS l w K CX0 66 63 "_law_script" mg fa h := by
  have e := hfa.symm.trans (PySem.W.mg_of X G a29)
  cases e
  refine ⟨PySem.W.fnOf "law" "law" (defArgs s_law) (defBody s_law) (defScope s_law) .none kV29 dc29 pm29 an29 cd29 ct29, [(cT, PT)], spLaw K [(PT, ("next_steps.<locals>.<lambda>" : Str))], fun p hp => ?_, fun p hp => ?_, fun p hp => ?_, fun s u => .of_eq rfl, fun H a ns hn _ hT hS => ⟨a, ns, rfl, hS, hn, fun p hp => ?_, fun _ => rfl⟩, fun base inB gl TB0 => ?_⟩
  · rw [List.mem_singleton.mp hp]; exact eTs
  · rw [List.mem_singleton.mp hp]; exact eNo
  · rw [List.mem_singleton.mp hp]; exact PySem.W.codeHd_of_K X eHd
  · rw [List.mem_singleton.mp hp]; exact LamX.TabS.nil (hT (cT, PT) (List.mem_singleton.mpr rfl))
  have TB := TB0 (cT, PT) (List.mem_singleton.mpr rfl)
  have F1 := fun_mk (st := s_is_whole_number) l1 c1 k1
  have g1 := PySem.W.mg_of X G a1
  have F2 := fun_mk (st := s_is_index) l2 c2 k2
  have g2 := PySem.W.mg_of X G a2
  have F3 := fun_mk (st := s_is_ascending) l3 c3 k3
  have g3 := PySem.W.mg_of X G a3
  have F4 := fun_mk (st := s_size_of) l4 c4 k4
  have g4 := PySem.W.mg_of X G a4
  have F5 := fun_mk (st := s_is_kind) l5 c5 k5
  have g5 := PySem.W.mg_of X G a5
  have F6 := fun_mk (st := s_ordered_steps) l6 c6 k6
  have g6 := PySem.W.mg_of X G a6
  have F7 := fun_mk (st := s_deep_steps) l7 c7 k7
  have g7 := PySem.W.mg_of X G a7
  have F8 := fun_mk (st := s_walk) l8 c8 k8
  have g8 := PySem.W.mg_of X G a8
  have F9 := fun_mk (st := s_is_barrier) l9 c9 k9
  have g9 := PySem.W.mg_of X G a9
  have F10 := fun_mk (st := s_barriers_of) l10 c10 k10
  have g10 := PySem.W.mg_of X G a10
  have F11 := fun_mk (st := s_search_certificate) l11 c11 k11
  have g11 := PySem.W.mg_of X G a11
  have F12 := fun_mk (st := s_with_letter) l12 c12 k12
  have g12 := PySem.W.mg_of X G a12
  have F13 := fun_mk (st := s_inserted) l13 c13 k13
  have g13 := PySem.W.mg_of X G a13
  have F14 := fun_mk (st := s_tree_of) l14 c14 k14
  have g14 := PySem.W.mg_of X G a14
  have F15 := fun_mk (st := s_sizes_in) l15 c15 k15
  have g15 := PySem.W.mg_of X G a15
  have F16 := fun_mk (st := s_count_together) l16 c16 k16
  have g16 := PySem.W.mg_of X G a16
  have F17 := fun_mk (st := s_count_orders) l17 c17 k17
  have g17 := PySem.W.mg_of X G a17
  have F18 := fun_mk (st := s_next_steps) l18 c18 k18
  have g18 := PySem.W.mg_of X G a18
  have F19 := fun_mk (st := s_order_index) l19 c19 k19
  have g19 := PySem.W.mg_of X G a19
  have F20 := fun_mk (st := s__law_begin) l20 c20 k20
  have g20 := PySem.W.mg_of X G a20
  have F21 := fun_mk (st := s__law_next) l21 c21 k21
  have g21 := PySem.W.mg_of X G a21
  have F22 := fun_mk (st := s__law_same) l22 c22 k22
  have g22 := PySem.W.mg_of X G a22
  have F23 := fun_mk (st := s__law_mixed) l23 c23 k23
  have g23 := PySem.W.mg_of X G a23
  have F24 := fun_mk (st := s__law_free) l24 c24 k24
  have g24 := PySem.W.mg_of X G a24
  have F25 := fun_mk (st := s__law_order) l25 c25 k25
  have g25 := PySem.W.mg_of X G a25
  have F26 := fun_mk (st := s__law_barriers) l26 c26 k26
  have g26 := PySem.W.mg_of X G a26
  have F27 := fun_mk (st := s__law_all) l27 c27 k27
  have g27 := PySem.W.mg_of X G a27
  have F28 := fun_mk (st := s__law_grouped) l28 c28 k28
  have g28 := PySem.W.mg_of X G a28
  have F29 := fun_mk (st := s_law) l29 c29 k29
  have m_zip := PySem.W.mg_none_of X G z1
  have m_all := PySem.W.mg_none_of X G z2
  have m_repr := PySem.W.mg_none_of X G z3
  have m_len := PySem.W.mg_none_of X G z4
  have m_isinstance := PySem.W.mg_none_of X G z5
  have m_list := PySem.W.mg_none_of X G z6
  have m_tuple := PySem.W.mg_none_of X G z7
  have m_str := PySem.W.mg_none_of X G z8
  have m_int := PySem.W.mg_none_of X G z9
  have m_bool := PySem.W.mg_none_of X G z10
  have m_dict := PySem.W.mg_none_of X G z11
  have m_range := PySem.W.mg_none_of X G z12
  have m_enumerate := PySem.W.mg_none_of X G z13
  have m_sum := PySem.W.mg_none_of X G z14
  have m_sorted := PySem.W.mg_none_of X G z15
  have m_abs := PySem.W.mg_none_of X G z16
  have m_min := PySem.W.mg_none_of X G z17
  have m_max := PySem.W.mg_none_of X G z18
  have m1 := PySem.W.mg_of X G v1
  have b1 := F1.binds (ps := ["value"]) fun _ _ _ _ _ _ us hl => match us, hl with | [_], _ => rfl
  have b2 := F2.binds (ps := ["value", "many"]) fun _ _ _ _ _ _ us hl => match us, hl with | [_, _], _ => rfl
  have b3 := F3.binds (ps := ["items"]) fun _ _ _ _ _ _ us hl => match us, hl with | [_], _ => rfl
  have b4 := F4.binds (ps := ["tree"]) fun _ _ _ _ _ _ us hl => match us, hl with | [_], _ => rfl
  have b5 := F5.binds (ps := ["value"]) fun _ _ _ _ _ _ us hl => match us, hl with | [_], _ => rfl
  have b6 := F6.binds (ps := ["tree", "kind"]) fun _ _ _ _ _ _ us hl => match us, hl with | [_, _], _ => rfl
  have b7 := F7.binds (ps := ["tree", "kind", "path"]) fun _ _ _ _ _ _ us hl => match us, hl with | [_, _, _], _ => rfl
  have b8 := F8.binds (ps := ["tree", "kind"]) fun _ _ _ _ _ _ us hl => match us, hl with | [_, _], _ => rfl
  have b9 := F9.binds (ps := ["order", "value"]) fun _ _ _ _ _ _ us hl => match us, hl with | [_, _], _ => rfl
  have b10 := F10.binds (ps := ["order"]) fun _ _ _ _ _ _ us hl => match us, hl with | [_], _ => rfl
  have b11 := F11.binds (ps := ["order"]) fun _ _ _ _ _ _ us hl => match us, hl with | [_], _ => rfl
  have b12 := F12.binds (ps := ["tree", "letter"]) fun _ _ _ _ _ _ us hl => match us, hl with | [_, _], _ => rfl
  have b13 := F13.binds (ps := ["tree", "letter"]) fun _ _ _ _ _ _ us hl => match us, hl with | [_, _], _ => rfl
  have b14 := F14.binds (ps := ["order"]) fun _ _ _ _ _ _ us hl => match us, hl with | [_], _ => rfl
  have b15 := F15.binds (ps := ["tree"]) fun _ _ _ _ _ _ us hl => match us, hl with | [_], _ => rfl
  have b16 := F16.binds (ps := ["parts"]) fun _ _ _ _ _ _ us hl => match us, hl with | [_], _ => rfl
  have b17 := F17.binds (ps := ["tree"]) fun _ _ _ _ _ _ us hl => match us, hl with | [_], _ => rfl
  have b18 := F18.binds (ps := ["parts"]) fun _ _ _ _ _ _ us hl => match us, hl with | [_], _ => rfl
  have b19 := F19.binds (ps := ["tree", "value"]) fun _ _ _ _ _ _ us hl => match us, hl with | [_, _], _ => rfl
  have b20 := F20.binds (ps := ["_law_script"]) fun _ _ _ _ _ _ us hl => match us, hl with | [_], _ => rfl
  have b21 := F21.binds (ps := ["_law_deck", "_law_many"]) fun _ _ _ _ _ _ us hl => match us, hl with | [_, _], _ => rfl
  have b22 := F22.binds (ps := ["_law_found", "_law_due"]) fun _ _ _ _ _ _ us hl => match us, hl with | [_, _], _ => rfl
  have b23 := F23.binds (ps := ["_law_deck", "_law_items"]) fun _ _ _ _ _ _ us hl => match us, hl with | [_, _], _ => rfl
  have b24 := F24.binds (ps := ["_law_deck", "_law_letters"]) fun _ _ _ _ _ _ us hl => match us, hl with | [_, _], _ => rfl
  have b25 := F25.binds (ps := ["_law_deck", "_law_low", "_law_high"]) fun _ _ _ _ _ _ us hl => match us, hl with | [_, _, _], _ => rfl
  have b26 := F26.binds (ps := ["_law_order_here"]) fun _ _ _ _ _ _ us hl => match us, hl with | [_], _ => rfl
  have b27 := F27.binds (ps := ["_law_letters"]) fun _ _ _ _ _ _ us hl => match us, hl with | [_], _ => rfl
  have b28 := F28.binds (ps := ["_law_orders"]) fun _ _ _ _ _ _ us hl => match us, hl with | [_], _ => rfl
  have M : Mgs mg := ⟨m_zip, m_all, m_repr, m_len, m_isinstance, m_list, m_tuple, m_str, m_int, m_bool, m_dict, m_range, m_enumerate, m_sum, m_sorted, m_abs, m_min, m_max⟩
  have Kk : KindsT K mg aK := ⟨PySem.W.mg_of X G aKn, fun H => .inr ⟨_, _, _, aKl, rfl, rfl, (by show 4 ≤ sizeLine; decide), .cons ⟨_, rfl⟩ (.cons ⟨_, rfl⟩ (.cons ⟨_, rfl⟩ (.cons ⟨_, rfl⟩ .nil)))⟩⟩
  have Dis_whole_number : Df l.prog w K mg base 1 "is_whole_number" ["value"] spWhole := ⟨f1, _, ok_whole (k := 0) F1 M, b1, k1, g1⟩
  have Dis_index : Df l.prog w K mg base 2 "is_index" ["value", "many"] spIndex := ⟨f2, _, ok_index (k := 0) F2 Dis_whole_number, b2, k2, g2⟩
  have Dis_ascending : Df l.prog w K mg base 1 "is_ascending" ["items"] (spAsc K) := ⟨f3, _, ok_asc (k := 0) F3 M, b3, k3, g3⟩
  have Dsize_of : Df l.prog w K mg base 60 "size_of" ["tree"] (fun vs H Q _ => ∃ (v : V) (t : B), vs = [v] ∧ BAt H v t ∧ t.size < 60 ∧ Q (.int (t.size : Int)) H) := ⟨f4, _, ok_size F4 b4 g4 60, b4, k4, g4⟩
  have Dis_kind : Df l.prog w K mg base 1 "is_kind" ["value"] spKind := ⟨f5, _, ok_kind (k := 0) F5 M Kk, b5, k5, g5⟩
  have Ddeep_steps : Df l.prog w K mg base 60 "deep_steps" ["tree", "kind", "path"] (spDeep 60) := ⟨f7, _, ok_deep F7 b7 g7 60, b7, k7, g7⟩
  have Dordered_steps : Df l.prog w K mg base 61 "ordered_steps" ["tree", "kind"] spSteps := ⟨f6, _, ok_steps F6 Dis_kind Ddeep_steps, b6, k6, g6⟩
  have Dwalk : Df l.prog w K mg base 62 "walk" ["tree", "kind"] spWalk := ⟨f8, _, ok_walk F8 Dordered_steps, b8, k8, g8⟩
  have Dwith_letter : Df l.prog w K mg base 60 "with_letter" ["tree", "letter"] (spPut 60) := ⟨f12, _, ok_with F12 b12 g12 60, b12, k12, g12⟩
  have Dinserted : Df l.prog w K mg base 63 "inserted" ["tree", "letter"] spIns := ⟨f13, _, ok_inserted F13 m1 Dwalk Dsize_of Dwith_letter, b13, k13, g13⟩
  have Dtree_of : Df l.prog w K mg base 64 "tree_of" ["order"] spTreeOf := ⟨f14, _, ok_tree_of F14 Dinserted, b14, k14, g14⟩
  have Dis_barrier : Df l.prog w K mg base 3 "is_barrier" ["order", "value"] (spBarr K) := ⟨f9, _, ok_barrier F9 M Dis_index Dis_ascending, b9, k9, g9⟩
  have Dbarriers_of : Df l.prog w K mg base 4 "barriers_of" ["order"] spBars := ⟨f10, _, ok_bars F10 M Dis_barrier, b10, k10, g10⟩
  have Dsearch_certificate : Df l.prog w K mg base 65 "search_certificate" ["order"] spCert := ⟨f11, _, ok_cert F11 Dbarriers_of Dtree_of, b11, k11, g11⟩
  have Dsizes_in : Df l.prog w K mg base 20 "sizes_in" ["tree"] (spSizesIn 20) := ⟨f15, _, ok_sizesIn F15 M b15 g15 20, b15, k15, g15⟩
  have Dcount_together : Df l.prog w K mg base 21 "count_together" ["parts"] (spTogether K) := ⟨f16, _, ok_together F16 M Dsizes_in, b16, k16, g16⟩
  have Dcount_orders : Df l.prog w K mg base 22 "count_orders" ["tree"] spCountO := ⟨f17, _, ok_countO F17 Dcount_together, b17, k17, g17⟩
  have Dnext_steps : Df l.prog w K mg base 3 "next_steps" ["parts"] (spNextSteps K [(PT, ("next_steps.<locals>.<lambda>" : Str))]) := ⟨f18, _, ok_nextSteps F18 eCd M TB (List.mem_singleton.mpr rfl) (fun p hp _ => by rw [List.mem_singleton.mp hp]), b18, k18, g18⟩
  have Dorder_index : Df l.prog w K mg base 61 "order_index" ["tree", "value"] (spOrderIdx [(PT, ("next_steps.<locals>.<lambda>" : Str))]) := ⟨f19, _, ok_orderIdx F19 M Dnext_steps Dcount_together Dsize_of, b19, k19, g19⟩
  have D_law_begin : Df l.prog w K mg base 1 "_law_begin" ["_law_script"] (spBegin K) := ⟨f20, _, ok_begin (k := 0) F20 M, b20, k20, g20⟩
  have D_law_next : Df l.prog w K mg base 1 "_law_next" ["_law_deck", "_law_many"] spNext := ⟨f21, _, ok_next (k := 0) F21, b21, k21, g21⟩
  have D_law_same : Df l.prog w K mg base 20 "_law_same" ["_law_found", "_law_due"] (spSame K 20) := ⟨f22, _, ok_same F22 b22 g22 M 20, b22, k22, g22⟩
  have D_law_mixed : Df l.prog w K mg base 2 "_law_mixed" ["_law_deck", "_law_items"] spMixed := ⟨f23, _, ok_mixed F23 M D_law_next, b23, k23, g23⟩
  have D_law_free : Df l.prog w K mg base 31 "_law_free" ["_law_deck", "_law_letters"] (spFree 30) := ⟨f24, _, ok_free F24 b24 g24 M D_law_next 30, b24, k24, g24⟩
  have D_law_order : Df l.prog w K mg base 32 "_law_order" ["_law_deck", "_law_low", "_law_high"] spOrder := ⟨f25, _, ok_order F25 M D_law_next D_law_mixed D_law_free, b25, k25, g25⟩
  have D_law_barriers : Df l.prog w K mg base 1 "_law_barriers" ["_law_order_here"] spLBars := ⟨f26, _, ok_lbars (k := 0) F26 M, b26, k26, g26⟩
  have D_law_all : Df l.prog w K mg base 1 "_law_all" ["_law_letters"] spAll := ⟨f27, _, ok_all (k := 0) F27 M, b27, k27, g27⟩
  have D_law_grouped : Df l.prog w K mg base 65 "_law_grouped" ["_law_orders"] (spGrouped l.prog w K) := ⟨f28, _, ok_grouped F28 Dtree_of, b28, k28, g28⟩
  exact ok_law F29 M D_law_begin D_law_order D_law_all Dsearch_certificate D_law_barriers D_law_grouped Dwalk Dorder_index Dcount_orders D_law_same
end Tw
open PySem PySem.W PyProof.Rows
set_option maxRecDepth 100000 in
set_option maxHeartbeats 0 in
theorem PySem.Challenge.cw_treewalks_k35_whole_all_orders_holds : PySem.Challenge.rw_treewalks_k35_whole_all_orders.Holds := by
  w_on; o_law; k_head; (case hw => w_witness2)
  k_fill
  refine LamX.walk_ofTs (l := PySem.Challenge.rw_treewalks_k35_whole_all_orders) (n := 63) (k := 66) (CX := fun _ => L2.CX0) (x := "_law_script") rfl (by decide) rfl ⟨rfl, by decide, by decide⟩ (fun w h Y => PySem.W.km_in_of Y) ?F (fun _ _ _ _ _ z => z)
  case F =>
    intro w mg fa h Y KX G hmg
    refine' Tw.all_mk KX G hmg ?aKn ?aKl ?eCd ?eLk ?eP ?eHd ?eNo ?eNe ?eTs ?a1 ?l1 ?c1 ?k1 ?a2 ?l2 ?c2 ?k2 ?a3 ?l3 ?c3 ?k3 ?a4 ?l4 ?c4 ?k4 ?a5 ?l5 ?c5 ?k5 ?a6 ?l6 ?c6 ?k6 ?a7 ?l7 ?c7 ?k7 ?a8 ?l8 ?c8 ?k8 ?a9 ?l9 ?c9 ?k9 ?a10 ?l10 ?c10 ?k10 ?a11 ?l11 ?c11 ?k11 ?a12 ?l12 ?c12 ?k12 ?a13 ?l13 ?c13 ?k13 ?a14 ?l14 ?c14 ?k14 ?a15 ?l15 ?c15 ?k15 ?a16 ?l16 ?c16 ?k16 ?a17 ?l17 ?c17 ?k17 ?a18 ?l18 ?c18 ?k18 ?a19 ?l19 ?c19 ?k19 ?a20 ?l20 ?c20 ?k20 ?a21 ?l21 ?c21 ?k21 ?a22 ?l22 ?c22 ?k22 ?a23 ?l23 ?c23 ?k23 ?a24 ?l24 ?c24 ?k24 ?a25 ?l25 ?c25 ?k25 ?a26 ?l26 ?c26 ?k26 ?a27 ?l27 ?c27 ?k27 ?a28 ?l28 ?c28 ?k28 ?a29 ?l29 ?c29 ?k29 ?z1 ?z2 ?z3 ?z4 ?z5 ?z6 ?z7 ?z8 ?z9 ?z10 ?z11 ?z12 ?z13 ?z14 ?z15 ?z16 ?z17 ?z18 ?v1
    (case aKn => first | k_is | rfl | decide +kernel)
    (case aKl => first | k_is | rfl | decide +kernel)
    (case a1 => k_is)
    (case l1 => k_is)
    (case c1 => k_is)
    (case k1 => k_is)
    (case a2 => k_is)
    (case l2 => k_is)
    (case c2 => k_is)
    (case k2 => k_is)
    (case a3 => k_is)
    (case l3 => k_is)
    (case c3 => k_is)
    (case k3 => k_is)
    (case a4 => k_is)
    (case l4 => k_is)
    (case c4 => k_is)
    (case k4 => k_is)
    (case a5 => k_is)
    (case l5 => k_is)
    (case c5 => k_is)
    (case k5 => k_is)
    (case a6 => k_is)
    (case l6 => k_is)
    (case c6 => k_is)
    (case k6 => k_is)
    (case a7 => k_is)
    (case l7 => k_is)
    (case c7 => k_is)
    (case k7 => k_is)
    (case a8 => k_is)
    (case l8 => k_is)
    (case c8 => k_is)
    (case k8 => k_is)
    (case a9 => k_is)
    (case l9 => k_is)
    (case c9 => k_is)
    (case k9 => k_is)
    (case a10 => k_is)
    (case l10 => k_is)
    (case c10 => k_is)
    (case k10 => k_is)
    (case a11 => k_is)
    (case l11 => k_is)
    (case c11 => k_is)
    (case k11 => k_is)
    (case a12 => k_is)
    (case l12 => k_is)
    (case c12 => k_is)
    (case k12 => k_is)
    (case a13 => k_is)
    (case l13 => k_is)
    (case c13 => k_is)
    (case k13 => k_is)
    (case a14 => k_is)
    (case l14 => k_is)
    (case c14 => k_is)
    (case k14 => k_is)
    (case a15 => k_is)
    (case l15 => k_is)
    (case c15 => k_is)
    (case k15 => k_is)
    (case a16 => k_is)
    (case l16 => k_is)
    (case c16 => k_is)
    (case k16 => k_is)
    (case a17 => k_is)
    (case l17 => k_is)
    (case c17 => k_is)
    (case k17 => k_is)
    (case a18 => k_is)
    (case l18 => k_is)
    (case c18 => k_is)
    (case k18 => k_is)
    (case a19 => k_is)
    (case l19 => k_is)
    (case c19 => k_is)
    (case k19 => k_is)
    (case a20 => k_is)
    (case l20 => k_is)
    (case c20 => k_is)
    (case k20 => k_is)
    (case a21 => k_is)
    (case l21 => k_is)
    (case c21 => k_is)
    (case k21 => k_is)
    (case a22 => k_is)
    (case l22 => k_is)
    (case c22 => k_is)
    (case k22 => k_is)
    (case a23 => k_is)
    (case l23 => k_is)
    (case c23 => k_is)
    (case k23 => k_is)
    (case a24 => k_is)
    (case l24 => k_is)
    (case c24 => k_is)
    (case k24 => k_is)
    (case a25 => k_is)
    (case l25 => k_is)
    (case c25 => k_is)
    (case k25 => k_is)
    (case a26 => k_is)
    (case l26 => k_is)
    (case c26 => k_is)
    (case k26 => k_is)
    (case a27 => k_is)
    (case l27 => k_is)
    (case c27 => k_is)
    (case k27 => k_is)
    (case a28 => k_is)
    (case l28 => k_is)
    (case c28 => k_is)
    (case k28 => k_is)
    (case a29 => k_is)
    (case l29 => k_is)
    (case c29 => k_is)
    (case k29 => k_is)
    (case z1 => k_is)
    (case z2 => k_is)
    (case z3 => k_is)
    (case z4 => k_is)
    (case z5 => k_is)
    (case z6 => k_is)
    (case z7 => k_is)
    (case z8 => k_is)
    (case z9 => k_is)
    (case z10 => k_is)
    (case z11 => k_is)
    (case z12 => k_is)
    (case z13 => k_is)
    (case z14 => k_is)
    (case z15 => k_is)
    (case z16 => k_is)
    (case z17 => k_is)
    (case z18 => k_is)
    (case v1 => k_is)
    (case eCd => rfl)
    (case eLk => k_is)
    (case eP => rfl)
    (case eHd => first | kernel_rfl | decide +kernel | rfl)
    (case eNo => first | kernel_rfl | decide +kernel | rfl | k_is)
    (case eNe => first | decide +kernel | decide)
    (case eTs => exact PySem.W.km_tabs_of Y _ (by first | k_mem | simp | decide))
