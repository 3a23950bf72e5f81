import PyProof.Rows.All
import Wide.All
import OpenK.AllK
import Wide.FinOn
import HandS.ForMost
import HandS.ForExc
import HandS.Wide
import HandS.IsInst
import HandS.Flow
import HandS.FStrTup
import HandS.NoneIn
import HandS.TupAny
import HandS.Style
import HandS.TryMany
import HandS.ExcIs
import HandS.ExcField
import HandS.ExcOwn
import KE.KExcInit
import KE.KExcIs
import HandS.Walk
import HandS.Zip
import HandS.Star
import HandS.Style
import PyProof.Rows.SortShellAny
import KE.GoesZip
import KE.GoesMore
import PySem.Challenge.RW_treewalks_k32_orders_counted
set_option Elab.async false
set_option maxRecDepth 100000
set_option maxHeartbeats 4000000
namespace Tw
open PySem PySem.Spec PyProof.Rows L2
/-! ### trees over signs -/
abbrev ch (c : Nat) : Str := ⟨#[c]⟩
def tx (l : List Nat) : Str := ⟨l.toArray⟩
theorem tx_cps (l : List Nat) : (tx l).cps.toList = l := rfl
theorem tx_size (l : List Nat) : (tx l).cps.size = l.length := rfl
theorem tx_len (l : List Nat) : (tx l).length = l.length := rfl
theorem tx_one (c : Nat) : tx [c] = ch c := rfl
theorem tx_app (a b : List Nat) : tx a ++ tx b = tx (a ++ b) := by
  show (⟨(tx a).cps ++ (tx b).cps⟩ : Str) = _
  simp [tx]
theorem ch_app (c : Nat) (b : List Nat) : ch c ++ tx b = tx (c :: b) := tx_app [c] b
theorem tx_inj {a b : List Nat} (h : tx a = tx b) : a = b := congrArg (fun z : Str => z.cps.toList) h
theorem ch_inj {a b : Nat} (h : ch a = ch b) : a = b := by have := tx_inj (a := [a]) (b := [b]) h; simpa using this
theorem ch_lt (a b : Nat) : decide ((ch a).cps.toList < (ch b).cps.toList) = decide (a < b) := by
  have : ((ch a).cps.toList < (ch b).cps.toList) ↔ a < b := by
    show [a] < [b] ↔ _
    simp [List.cons_lt_cons_iff]
  simp only [this]
theorem tx_to (l : List Nat) (k : Nat) : cutS (tx l) none (some (k : Int)) = tx (l.take k) := by
  unfold cutS tx
  show (⟨_⟩ : Str) = ⟨_⟩
  rw [HT.sIx_nat, HT.sIx_none]
  show (⟨((l.drop 0).take (min k l.length - 0)).toArray⟩ : Str) = ⟨(l.take k).toArray⟩
  rw [List.drop_zero, Nat.sub_zero, Nat.min_def]
  split
  · rfl
  · rw [List.take_of_length_le (Nat.le_refl _), List.take_of_length_le (by omega)]
theorem tx_from (l : List Nat) (k : Nat) : cutS (tx l) (some (k : Int)) none = tx (l.drop k) := by
  unfold cutS tx
  show (⟨_⟩ : Str) = ⟨_⟩
  rw [HT.sIx_nat, HT.sIx_none]
  show (⟨((l.drop (min k l.length)).take (l.length - min k l.length)).toArray⟩ : Str) = ⟨(l.drop k).toArray⟩
  by_cases h : k ≤ l.length
  · rw [Nat.min_eq_left h, List.take_of_length_le (by rw [List.length_drop]; omega)]
  · rw [Nat.min_eq_right (by omega), List.drop_eq_nil_of_le (Nat.le_refl _), List.drop_eq_nil_of_le (by omega), List.take_nil]
theorem joinL_ones : ∀ l : List Nat, TL.joinL [] (l.map fun c => [c]) = l
  | [] => rfl
  | [c] => rfl
  | c :: d :: r => by
    have := joinL_ones (d :: r)
    show [c] ++ ([] ++ TL.joinL [] ((d :: r).map fun c => [c])) = _
    rw [this]; rfl
theorem tx_join (l : List Nat) : Txt.join (Str.ofString "") (l.map ch) = tx l := by
  rw [TL.join_eq]
  have e := TL.tl_join (Str.ofString "") (l.map ch)
  refine TL.ext_tl (e.trans ?_)
  rw [List.map_map]
  exact joinL_ones l
theorem tx_joinOk (l : List Nat) (h : l.length ≤ 1000) : ((l.map ch).map (·.length)).sum + (l.map ch).length * (Str.ofString "").length ≤ 16777216 := by
  have e0 : (Str.ofString "").length = 0 := by decide +kernel
  have e1 : ∀ l : List Nat, ((l.map ch).map (·.length)).sum = l.length := by
    intro l
    induction l with
    | nil => rfl
    | cons c r ih =>
      rw [List.map_cons, List.map_cons, List.sum_cons, ih, List.length_cons]
      show 1 + r.length = _
      omega
  rw [e0, e1]
  omega
inductive B where
  | nil
  | node (l : B) (x : Nat) (r : B)
  deriving DecidableEq
def B.size : B → Nat
  | .nil => 0
  | .node l _ r => l.size + 1 + r.size
def B.deep : B → Nat
  | .nil => 0
  | .node l _ r => 1 + max l.deep r.deep
def B.data : B → PyData
  | .nil => .none
  | .node l x r => .tuple [l.data, .str (ch x), r.data]
def B.pre : B → List Nat
  | .nil => []
  | .node l x r => x :: (l.pre ++ r.pre)
def B.mid : B → List Nat
  | .nil => []
  | .node l x r => l.mid ++ x :: r.mid
theorem B.deep_le : ∀ t : B, t.deep ≤ t.size
  | .nil => Nat.le_refl _
  | .node l _ r => by
    have h1 := l.deep_le
    have h2 := r.deep_le
    show 1 + max l.deep r.deep ≤ l.size + 1 + r.size
    omega
theorem B.pre_len : ∀ t : B, t.pre.length = t.size
  | .nil => rfl
  | .node l x r => by
    have h1 := l.pre_len
    have h2 := r.pre_len
    show (x :: (l.pre ++ r.pre)).length = l.size + 1 + r.size
    rw [List.length_cons, List.length_append]
    omega
theorem B.mid_len : ∀ t : B, t.mid.length = t.size
  | .nil => rfl
  | .node l x r => by
    have h1 := l.mid_len
    have h2 := r.mid_len
    show (l.mid ++ x :: r.mid).length = l.size + 1 + r.size
    rw [List.length_append, List.length_cons]
    omega
theorem B.mid_mem (t : B) (c : Nat) : c ∈ t.mid ↔ c ∈ t.pre := by
  induction t with
  | nil => exact Iff.rfl
  | node l x r h1 h2 =>
    show c ∈ l.mid ++ x :: r.mid ↔ c ∈ x :: (l.pre ++ r.pre)
    rw [List.mem_append, List.mem_cons, List.mem_cons, List.mem_append, h1, h2]
    constructor
    · rintro (h | h | h)
      · exact .inr (.inl h)
      · exact .inl h
      · exact .inr (.inr h)
    · rintro (h | h | h)
      · exact .inr (.inl h)
      · exact .inl h
      · exact .inr (.inr h)
/-- the tree t lies at v -/
inductive BAt (H : Hp) : V → B → Prop
  | nil : BAt H .non .nil
  | node {a : Addr} {l r : V} {x : Nat} {tl tr : B} : H a = some (.tup [l, .str (ch x), r]) → BAt H l tl → BAt H r tr → BAt H (.ref a) (.node tl x tr)
/-- tuples stand still -/
def KeepT (H H' : Hp) : Prop := ∀ b xs, H b = some (.tup xs) → H' b = some (.tup xs)
theorem KeepT.refl (H : Hp) : KeepT H H := fun _ _ h => h
theorem KeepT.trans {H H1 H2 : Hp} (a : KeepT H H1) (b : KeepT H1 H2) : KeepT H H2 := fun c xs h => b c xs (a c xs h)
theorem Same.keepT {H H' : Hp} (h : Same H H') : KeepT H H' := fun b xs e => h b _ e
theorem BAt.keep {H H' : Hp} (k : KeepT H H') {v : V} {t : B} (h : BAt H v t) : BAt H' v t := by
  induction h with
  | nil => exact .nil
  | node e _ _ h1 h2 => exact .node (k _ _ e) h1 h2
theorem BAt.same {H H' : Hp} (k : Same H H') {v : V} {t : B} (h : BAt H v t) : BAt H' v t := h.keep (Tw.Same.keepT k)
theorem BAt.dp {K : PySem.W.Frag} {H : Hp} {v : V} {t : B} (h : BAt H v t) : Dp K H v t.data := by
  induction h with
  | nil => exact .non
  | node e _ _ h1 h2 => exact .tup (SqT.of e) (.cons h1 (.cons (.str _) (.cons h2 .nil)))
theorem BAt.inv {H : Hp} {v : V} {t : B} (h : BAt H v t) : (v = .non ∧ t = .nil) ∨ ∃ a l r x tl tr, v = .ref a ∧ t = .node tl x tr ∧ H a = some (.tup [l, .str (ch x), r]) ∧ BAt H l tl ∧ BAt H r tr := by
  cases h with
  | nil => exact .inl ⟨rfl, rfl⟩
  | node e h1 h2 => exact .inr ⟨_, _, _, _, _, _, rfl, rfl, e, h1, h2⟩
theorem same_new {H : Hp} {p : Addr} (h : H p = none) (o : HO) : Same H (upd H p o) := fun b u q => by rw [upd_ne (ne_of_none q h)]; exact q
theorem small {n : Nat} (h : n ≤ 1000) : n ≤ sizeLine := Nat.le_of_lt (small1000 h)
theorem at_map {α : Type} {f : α → V} {ns : List α} {i : Int} {v : α} (h0 : 0 ≤ i) (h : ns[i.toNat]? = some v) : atI (ns.map f) i = some (f v) := by
  have e : i = ((i.toNat : Nat) : Int) := by omega
  rw [e]
  exact atI_nat (by rw [List.getElem?_map, h]; rfl)
theorem ixN_nat {n : Nat} {i : Int} (h0 : 0 ≤ i) (h : i < n) : ixN n i = some i.toNat := by
  unfold ixN
  first
    | rw [if_pos h0, if_pos h]
    | (rw [if_pos h0]; rw [if_pos (by omega)])
    | simp [h0, h]
theorem cut_to (xs : List V) (k : Nat) : cutV xs none (some (k : Int)) = xs.take k := by
  unfold cutV
  rw [HT.sIx_nat, HT.sIx_none, List.drop_zero, Nat.sub_zero]
  rw [Nat.min_def]
  split
  · rfl
  · rw [List.take_of_length_le (Nat.le_refl _), List.take_of_length_le (by omega)]
theorem cut_from (xs : List V) (k : Nat) : cutV xs (some (k : Int)) none = xs.drop k := by
  unfold cutV
  rw [HT.sIx_nat, HT.sIx_none]
  by_cases h : k ≤ xs.length
  · rw [Nat.min_eq_left h, List.take_of_length_le (by rw [List.length_drop]; omega)]
  · rw [Nat.min_eq_right (by omega), List.drop_eq_nil_of_le (Nat.le_refl _), List.drop_eq_nil_of_le (by omega), List.take_nil]
theorem kept {σ : L2.St} {H : Hp} {A B : Hp → Prop} (h : A H) : tYes σ H (fun b H3 => if b = true then A H3 else B H3) := by
  show if true = true then A H else B H
  exact iteT h
theorem erase_map {α β : Type} (f : α → β) : ∀ (l : List α) (i : Nat), (l.map f).eraseIdx i = (l.eraseIdx i).map f
  | [], _ => rfl
  | _ :: _, 0 => rfl
  | x :: l, i + 1 => congrArg (f x :: ·) (erase_map f l i)
/-- a def that stands at a name, with its promise -/
structure Df (P : Program) (w : World) (K : PySem.W.Frag) (mg : Str → Option Value) (base : Heap) (k : Nat) (nm : Str) (ps : List Str) (sp : Sp) where
  f : Addr
  fd : FuncData
  ok : FnOk P w K mg base CX0 k f fd ps sp
  b : Binds K fd ps []
  kp : PySem.W.keepIn K (.ref f) = true
  g : mg nm = some (.ref f)
structure Mgs (mg : Str → Option Value) : Prop where
  zip : mg "zip" = none
  all : mg "all" = none
  repr : mg "repr" = none
  len : mg "len" = none
  isinstance : mg "isinstance" = none
  list : mg "list" = none
  tuple : mg "tuple" = none
  str : mg "str" = none
  int : mg "int" = none
  bool : mg "bool" = none
  dict : mg "dict" = none
  range : mg "range" = none
  sorted : mg "sorted" = none
  abs : mg "abs" = none
  min : mg "min" = none
  max : mg "max" = none
theorem vals_signs : ∀ (l : List Nat) (vs : List Value), vs.length = l.length → (∀ (j : Nat) (v : Value), vs[j]? = some v → ∃ c u, l[j]? = some c ∧ v = .str ⟨#[c]⟩ u) → Vals (l.map fun c => V.str ⟨#[c]⟩) vs
  | [], [], _, _ => .nil
  | [], _ :: _, h, _ => by simp at h
  | _ :: _, [], h, _ => by simp at h
  | c :: l, v :: vs, h, k => by
    obtain ⟨c', u, e, rfl⟩ := k 0 v rfl
    cases e
    exact .cons ⟨u, rfl⟩ (vals_signs l vs (by simpa using h) fun j v e => k (j + 1) v e)
theorem call_signs {X : Cx} (hc : X.calm = true) : CallR X (.type "list") (fun xs H Q => ∃ x : Str, xs = [.str x] ∧ x.cps.size ≤ 1000 ∧ ∀ p, H p = none → Q (.ref p) (upd H p (.lst (x.cps.toList.map fun c => V.str ⟨#[c]⟩)))) := by
  intro pins s σ H xs us Q I r h
  obtain ⟨x, rfl, hz, q⟩ := h
  obtain ⟨u, rfl, t, rfl⟩ := vals1 r
  have hz' : x.cps.size ≤ sizeLine := small hz
  refine call_list_str (I.ok.hd hc) x t (fun h' tk acc' c' hk hS hacc => ?_) hz'
  have hv : Vals (x.cps.toList.map fun c => V.str ⟨#[c]⟩) acc'.toList := vals_signs _ _ (by rw [Array.length_toList, Array.length_toList]; exact hacc.1) fun j v e => by
    obtain ⟨c, u, h1, h2⟩ := hacc.2 j v (by rw [← Array.getElem?_toList]; exact e)
    exact ⟨c, u, by rw [Array.getElem?_toList]; exact h1, h2⟩
  exact ⟨.ref s.heap.objs.size, _, I.laid (t' := tk) hk (Nat.le_refl _) (show ObjOk X.prog X.w _ h' _ (.lst _) from ⟨by rw [List.length_map, Array.length_toList]; exact hz', acc'.toList, c', hv, by rw [Array.toArray_toList]; exact hS⟩), rfl, q _ (I.hok.fresh (Nat.le_refl _))⟩
/-- for c in text -/
theorem for_text {x : Str} {g : TG} {tb : TS} {D : Ends} {σ : L2.St} {H : Hp} (Pv : Nat → L2.St → Hp → Prop) (h0 : Pv 0 σ H)
    (hs : ∀ i c σ H, x.cps.toList[i]? = some c → Pv i σ H → g (.str ⟨#[c]⟩) σ H fun σ2 H2 => tb { D with nx := Pv (i + 1), ct := Pv (i + 1), bk := D.nx } σ2 H2)
    (hd : ∀ σ H, Pv x.cps.toList.length σ H → D.nx σ H) :
    ∃ W : Nat → Nat → L2.St → Hp → Prop, (∃ m, W 0 m σ H) ∧ ∀ i m σ H, W i m σ H →
      ((Its x).stop i H ∧ D.nx σ H) ∨ ((Its x).go i H ∧ ∃ N : L2.St → Hp → Prop, (∀ σ' H', N σ' H' → ∃ m', m' < m ∧ W (i + 1) m' σ' H') ∧ ∀ v H', (Its x).yld i H v H' → g v σ H' fun σ2 H2 => tb { D with nx := N, ct := N, bk := D.nx } σ2 H2) := by
  refine for_it walk_str Pv h0 (fun _ _ _ _ _ => trivial) (fun i v σ H H' hi hp hy => ?_) (fun σ H hp => hd σ H (by rw [Array.length_toList]; exact hp))
  obtain ⟨rfl, c, hc, rfl⟩ := hy
  exact hs i c σ H' (by rw [Array.getElem?_toList]; exact hc) hp
theorem lc_text {x : Str} {g : TG} {tt : TT} {te : TE} {vs : List Nat} {σ : L2.St} {H1 : Hp} {D : Addr} {Qd : Hp → Prop} (Pv : Nat → Hp → Prop) (h0 : Pv 0 (upd H1 D (.lst [])))
    (hs : ∀ i c H, x.cps.toList[i]? = some c → Pv i H → g (.str ⟨#[c]⟩) (wipe σ vs) H fun σ2 H2 => wipe σ2 vs = wipe σ vs ∧ tt σ2 H2 fun b H3 =>
      if b = true then te σ2 H3 fun y H4 => ∃ acc, H4 D = some (.lst acc) ∧ acc.length < sizeLine ∧ Pv (i + 1) (upd H4 D (.lst (acc ++ [y]))) else Pv (i + 1) H3) (hd : ∀ H, Pv x.cps.toList.length H → Qd H) :
    ∃ W : Nat → Nat → Hp → Prop, (∃ m, W 0 m (upd H1 D (.lst []))) ∧ ∀ i m H, W i m H →
      ((Its x).stop i H ∧ Qd H) ∨ ((Its x).go i H ∧ ∃ Nx : Hp → Prop, (∀ H', Nx H' → ∃ m', m' < m ∧ W (i + 1) m' H') ∧ ∀ v H', (Its x).yld i H v H' → g v (wipe σ vs) H' fun σ2 H2 => wipe σ2 vs = wipe σ vs ∧ tt σ2 H2 fun b H3 =>
        if b = true then te σ2 H3 fun y H4 => ∃ acc, H4 D = some (.lst acc) ∧ acc.length < sizeLine ∧ Nx (upd H4 D (.lst (acc ++ [y]))) else Nx H3) := by
  refine lc_it walk_str Pv h0 (fun _ _ _ _ => trivial) (fun i v H H' hi hp hy => ?_) (fun H hp => hd H (by rw [Array.length_toList]; exact hp))
  obtain ⟨rfl, c, hc, rfl⟩ := hy
  exact hs i c H' (by rw [Array.getElem?_toList]; exact hc) hp
/-! ### the text by places -/
def top (i : Nat) : Stmt := PySem.Challenge.pw_treewalks_k32_orders_counted.main.body.getD i (.Pass ⟨0, 0, 0, 0⟩)
abbrev s_sizes_in : Stmt := top 1
abbrev s_count_together : Stmt := top 2
abbrev s_count_orders : Stmt := top 3
abbrev s__law_begin : Stmt := top 5
abbrev s__law_next : Stmt := top 6
abbrev s__law_same : Stmt := top 7
abbrev s__law_mixed : Stmt := top 8
abbrev s__law_free : Stmt := top 9
abbrev s__law_order : Stmt := top 10
abbrev s__law_put : Stmt := top 11
abbrev s__law_grown : Stmt := top 12
abbrev s__law_ahead : Stmt := top 13
abbrev s__law_all : Stmt := top 14
abbrev s__law_number : Stmt := top 15
abbrev s_law : Stmt := top 16
theorem sc_sizes_in : FnScope ["tree", "left", "label", "right", "below"] ["tree"] (defScope s_sizes_in) := ⟨rfl, rfl, rfl, by decide +kernel, rfl, by decide +kernel, by decide +kernel⟩
theorem sc_count_together : FnScope ["parts", "part", "size", "sizes", "orders", "at"] ["parts"] (defScope s_count_together) := ⟨rfl, rfl, rfl, by decide +kernel, rfl, by decide +kernel, by decide +kernel⟩
theorem sc_count_orders : FnScope ["tree"] ["tree"] (defScope s_count_orders) := ⟨rfl, rfl, rfl, by decide +kernel, rfl, by decide +kernel, by decide +kernel⟩
theorem sc__law_begin : FnScope ["_law_script", "_law_cell", "_law_greats", "_law_whole"] ["_law_script"] (defScope s__law_begin) := ⟨rfl, rfl, rfl, by decide +kernel, rfl, by decide +kernel, by decide +kernel⟩
theorem sc__law_next : FnScope ["_law_deck", "_law_many", "_law_rest", "_law_mixed_here"] ["_law_deck", "_law_many"] (defScope s__law_next) := ⟨rfl, rfl, rfl, by decide +kernel, rfl, by decide +kernel, by decide +kernel⟩
theorem sc__law_same : FnScope ["_law_found", "_law_due", "_law_k"] ["_law_found", "_law_due"] (defScope s__law_same) := ⟨rfl, rfl, rfl, by decide +kernel, rfl, by decide +kernel, by decide +kernel⟩
theorem sc__law_mixed : FnScope ["_law_deck", "_law_items", "_law_rest", "_law_found"] ["_law_deck", "_law_items"] (defScope s__law_mixed) := ⟨rfl, rfl, rfl, by decide +kernel, rfl, by decide +kernel, by decide +kernel⟩
theorem sc__law_free : FnScope ["_law_deck", "_law_letters", "_law_spot"] ["_law_deck", "_law_letters"] (defScope s__law_free) := ⟨rfl, rfl, rfl, by decide +kernel, rfl, by decide +kernel, by decide +kernel⟩
theorem sc__law_order : FnScope ["_law_deck", "_law_low", "_law_high", "_law_size", "_law_way", "_law_letters"] ["_law_deck", "_law_low", "_law_high"] (defScope s__law_order) := ⟨rfl, rfl, rfl, by decide +kernel, rfl, by decide +kernel, by decide +kernel⟩
theorem sc__law_put : FnScope ["_law_tree", "_law_letter", "_law_left", "_law_own", "_law_right"] ["_law_tree", "_law_letter"] (defScope s__law_put) := ⟨rfl, rfl, rfl, by decide +kernel, rfl, by decide +kernel, by decide +kernel⟩
theorem sc__law_grown : FnScope ["_law_order_here", "_law_tree", "_law_letter"] ["_law_order_here"] (defScope s__law_grown) := ⟨rfl, rfl, rfl, by decide +kernel, rfl, by decide +kernel, by decide +kernel⟩
theorem sc__law_ahead : FnScope ["_law_tree", "_law_left", "_law_own", "_law_right"] ["_law_tree"] (defScope s__law_ahead) := ⟨rfl, rfl, rfl, by decide +kernel, rfl, by decide +kernel, by decide +kernel⟩
theorem sc__law_all : FnScope ["_law_letters", "_law_found", "_law_letter", "_law_longer", "_law_order_here", "_law_k"] ["_law_letters"] (defScope s__law_all) := ⟨rfl, rfl, rfl, by decide +kernel, rfl, by decide +kernel, by decide +kernel⟩
theorem sc__law_number : FnScope ["_law_tree", "_law_left", "_law_right", "_law_size", "_law_found", "_law_k"] ["_law_tree"] (defScope s__law_number) := ⟨rfl, rfl, rfl, by decide +kernel, rfl, by decide +kernel, by decide +kernel⟩
theorem sc_law : FnScope ["_law_script", "_law_deck", "_law_turn", "_law_order_here", "_law_tree", "_law_other", "_law_due", "_law_kept"] ["_law_script"] (defScope s_law) := ⟨rfl, rfl, rfl, by decide +kernel, rfl, by decide +kernel, by decide +kernel⟩
/-! ### xs != [], xs == [] -/
section
variable {X : Cx}
theorem op_neL (hu : X.A.units < cLine) : OpR X (compareOp .NotEq) (fun x y H Q => ∃ a b xs, x = .ref a ∧ y = .ref b ∧ SqL X.K H a xs ∧ SqL X.K H b [] ∧ Q (.bl (!xs.isEmpty)) H) := by
  intro pins s σ H x y v u Q I rx ry h
  obtain ⟨a, b, xs, rfl, rfl, hx, hy, q⟩ := h
  cases rx
  cases ry
  obtain ⟨its, r1, t1, _⟩ := I.list hx
  obtain ⟨its2, r2, t2, _⟩ := I.list hy
  cases r2
  cases r1 with
  | nil =>
    have rc := SeqAt.RcNeAt.lists (A := X.A) (s := s) (items := ([] : List Value).toArray) (items2 := ([] : List Value).toArray) (e := fun _ => true) t1.isList t2.isList rfl hu (fun j h1 _ => absurd h1 (by simp))
    exact rc X.prog X.w X.xe _ ⟨.bl _, H, I, rfl, q⟩
  | cons _ _ =>
    have rc := SeqAt.RcNeAt.lists_lengths (A := X.A) (s := s) t1.isList t2.isList (by simp) hu
    exact rc X.prog X.w X.xe _ ⟨.bl _, H, I, rfl, q⟩
theorem cmpOf_ltS {prog : Program} {w : World} {A : Around} (x y : Str) (t u : Tok) :
    CmpOf prog w A .Lt (fun i v => (#[Value.str x t, Value.str y u])[i]? = some v) (fun i j => decide (([x, y].getD i x).cps.toList < ([x, y].getD j x).cps.toList)) := fun i j vi vj s Q E hi hj h => by
  have one : ∀ (i : Nat) (v : Value), (#[Value.str x t, Value.str y u])[i]? = some v → ∃ tk, v = .str ([x, y].getD i x) tk := fun i v e => by
    match i with
    | 0 => exact ⟨t, by simpa using e.symm⟩
    | 1 => exact ⟨u, by simpa using e.symm⟩
    | n + 2 => simp at e
  obtain ⟨t1, rfl⟩ := one i vi hi
  obtain ⟨t2, rfl⟩ := one j vj hj
  exact lt_str h
theorem cmpOf_gtS {prog : Program} {w : World} {A : Around} (x y : Str) (t u : Tok) :
    CmpOf prog w A .Gt (fun i v => (#[Value.str x t, Value.str y u])[i]? = some v) (fun i j => decide (([x, y].getD j x).cps.toList < ([x, y].getD i x).cps.toList)) := fun i j vi vj s Q E hi hj h => by
  have one : ∀ (i : Nat) (v : Value), (#[Value.str x t, Value.str y u])[i]? = some v → ∃ tk, v = .str ([x, y].getD i x) tk := fun i v e => by
    match i with
    | 0 => exact ⟨t, by simpa using e.symm⟩
    | 1 => exact ⟨u, by simpa using e.symm⟩
    | n + 2 => simp at e
  obtain ⟨t1, rfl⟩ := one i vi hi
  obtain ⟨t2, rfl⟩ := one j vj hj
  exact PySem.P.gt_str h
theorem argBest1 (bt : Nat → Nat → Bool) : argBest bt 1 = if bt 1 0 = true then 1 else 0 := rfl
theorem max_two_str {prog : Program} {w : World} {A : Around} {E : Value → Shared → Prop} {s : Shared} {Q : Value → Shared → Prop} {x y : Str} {t u : Tok} (hh : A.handled = none)
    (h : ∀ h' tk, (∀ c o, s.heap.get? c = some o → h'.get? c = some o) → Q (if x.cps.toList < y.cps.toList then .str y u else .str x t) { s with heap := h', toks := tk }) :
    wpAny (model prog w) A (call (.builtin "max") [.str x t, .str y u]) Q E s := by
  have hT : (s.heap.push { cls := .type "tuple", data := .seq #[.str x t, .str y u] }).IsTuple s.heap.objs.size #[.str x t, .str y u] := ⟨_, Heap.get?_push_size _ rfl, rfl, 0, rfl⟩
  refine call_max_two (wpAny_pyIter_tuple hT ?_)
  have hsz : (s.heap.push { cls := .type "tuple", data := .seq #[.str x t, .str y u] }).objs.size = s.heap.objs.size + 1 := Heap.size_push ..
  refine ⟨_, [_, s.heap.objs.size], [_], _, _, _, _, rfl, Walks.tuple (A := A.in1) hh _ s.heap.objs.size (by rw [hsz]; exact Nat.ne_of_lt (Nat.lt_succ_self _)) #[.str x t, .str y u],
    ⟨⟨_, Heap.get?_push_size _ rfl, rfl, rfl⟩, hT.push _⟩, fun c hc => ?_, by simp, cmpOf_gtS x y t u, fun v h' tk hP hk => ?_⟩
  · show c < ((s.heap.push _).push _).objs.size
    rw [Heap.size_push, hsz]
    rcases List.mem_cons.mp hc with rfl | hc
    · rw [hsz]; exact Nat.lt_succ_self _
    · rcases List.mem_cons.mp hc with rfl | hc
      · exact Nat.lt_succ_of_lt (Nat.lt_succ_self _)
      · cases hc
  · have hold : ∀ c o, s.heap.get? c = some o → h'.get? c = some o := fun c o e => by
      refine hk c o (fun hm => ?_) (Heap.get?_push_of_some _ (Heap.get?_push_of_some _ e))
      rcases List.mem_cons.mp hm with e1 | hm
      · have := Heap.lt_size e; rw [e1, hsz] at this; exact Nat.lt_irrefl _ (Nat.lt_of_succ_lt this)
      · cases hm
    have := h h' tk hold
    have hv : v = if x.cps.toList < y.cps.toList then .str y u else .str x t := by
      rw [show #[Value.str x t, Value.str y u].size - 1 = 1 from rfl, argBest1] at hP
      replace hP : #[Value.str x t, Value.str y u][if decide (x.cps.toList < y.cps.toList) = true then 1 else 0]? = some v := hP
      by_cases hc : x.cps.toList < y.cps.toList
      · rw [if_pos (decide_eq_true hc)] at hP
        rw [if_pos hc]
        exact (Option.some.inj hP).symm
      · rw [if_neg (fun z => hc (of_decide_eq_true z))] at hP
        rw [if_neg hc]
        exact (Option.some.inj hP).symm
    rw [hv]; exact this
theorem min_two_str {prog : Program} {w : World} {A : Around} {E : Value → Shared → Prop} {s : Shared} {Q : Value → Shared → Prop} {x y : Str} {t u : Tok} (hh : A.handled = none)
    (h : ∀ h' tk, (∀ c o, s.heap.get? c = some o → h'.get? c = some o) → Q (if y.cps.toList < x.cps.toList then .str y u else .str x t) { s with heap := h', toks := tk }) :
    wpAny (model prog w) A (call (.builtin "min") [.str x t, .str y u]) Q E s := by
  have hT : (s.heap.push { cls := .type "tuple", data := .seq #[.str x t, .str y u] }).IsTuple s.heap.objs.size #[.str x t, .str y u] := ⟨_, Heap.get?_push_size _ rfl, rfl, 0, rfl⟩
  refine call_min_two (wpAny_pyIter_tuple hT ?_)
  have hsz : (s.heap.push { cls := .type "tuple", data := .seq #[.str x t, .str y u] }).objs.size = s.heap.objs.size + 1 := Heap.size_push ..
  refine ⟨_, [_, s.heap.objs.size], [_], _, _, _, _, rfl, Walks.tuple (A := A.in1) hh _ s.heap.objs.size (by rw [hsz]; exact Nat.ne_of_lt (Nat.lt_succ_self _)) #[.str x t, .str y u],
    ⟨⟨_, Heap.get?_push_size _ rfl, rfl, rfl⟩, hT.push _⟩, fun c hc => ?_, by simp, cmpOf_ltS x y t u, fun v h' tk hP hk => ?_⟩
  · show c < ((s.heap.push _).push _).objs.size
    rw [Heap.size_push, hsz]
    rcases List.mem_cons.mp hc with rfl | hc
    · rw [hsz]; exact Nat.lt_succ_self _
    · rcases List.mem_cons.mp hc with rfl | hc
      · exact Nat.lt_succ_of_lt (Nat.lt_succ_self _)
      · cases hc
  · have hold : ∀ c o, s.heap.get? c = some o → h'.get? c = some o := fun c o e => by
      refine hk c o (fun hm => ?_) (Heap.get?_push_of_some _ (Heap.get?_push_of_some _ e))
      rcases List.mem_cons.mp hm with e1 | hm
      · have := Heap.lt_size e; rw [e1, hsz] at this; exact Nat.lt_irrefl _ (Nat.lt_of_succ_lt this)
      · cases hm
    have := h h' tk hold
    have hv : v = if y.cps.toList < x.cps.toList then .str y u else .str x t := by
      rw [show #[Value.str x t, Value.str y u].size - 1 = 1 from rfl, argBest1] at hP
      replace hP : #[Value.str x t, Value.str y u][if decide (y.cps.toList < x.cps.toList) = true then 1 else 0]? = some v := hP
      by_cases hc : y.cps.toList < x.cps.toList
      · rw [if_pos (decide_eq_true hc)] at hP
        rw [if_pos hc]
        exact (Option.some.inj hP).symm
      · rw [if_neg (fun z => hc (of_decide_eq_true z))] at hP
        rw [if_neg hc]
        exact (Option.some.inj hP).symm
    rw [hv]; exact this
theorem call_max2S (hc : X.calm = true) : CallR X (.builtin "max") (fun xs H Q => ∃ a b : Nat, xs = [.str (ch a), .str (ch b)] ∧ Q (.str (ch (max a b))) H) := by
  intro pins s σ H xs us Q I r h
  obtain ⟨a, b, rfl, q⟩ := h
  obtain ⟨u, w', rfl, ⟨t, rfl⟩, ⟨t', rfl⟩⟩ := vals2 r
  refine max_two_str (I.ok.hd hc) fun h' tk k => ⟨_, H, I.kept k, ?_, q⟩
  have e : ((ch a).cps.toList < (ch b).cps.toList) ↔ a < b := by
    have := ch_lt a b
    simpa using this
  by_cases hj : a < b
  · rw [if_pos (e.mpr hj), Nat.max_eq_right (Nat.le_of_lt hj)]; exact ⟨_, rfl⟩
  · rw [if_neg (fun z => hj (e.mp z)), Nat.max_eq_left (by omega)]; exact ⟨_, rfl⟩
theorem call_min2S (hc : X.calm = true) : CallR X (.builtin "min") (fun xs H Q => ∃ a b : Nat, xs = [.str (ch a), .str (ch b)] ∧ Q (.str (ch (min a b))) H) := by
  intro pins s σ H xs us Q I r h
  obtain ⟨a, b, rfl, q⟩ := h
  obtain ⟨u, w', rfl, ⟨t, rfl⟩, ⟨t', rfl⟩⟩ := vals2 r
  refine min_two_str (I.ok.hd hc) fun h' tk k => ⟨_, H, I.kept k, ?_, q⟩
  have e : ((ch b).cps.toList < (ch a).cps.toList) ↔ b < a := by
    have := ch_lt b a
    simpa using this
  by_cases hj : b < a
  · rw [if_pos (e.mpr hj), Nat.min_eq_right (Nat.le_of_lt hj)]; exact ⟨_, rfl⟩
  · rw [if_neg (fun z => hj (e.mp z)), Nat.min_eq_left (by omega)]; exact ⟨_, rfl⟩
end
/-! ### the deck -/
structure Deck where
  dk : Addr
  ga : Addr
structure DeckOk (H : Hp) (D : Deck) : Prop where
  ex : ∃ (gs : List Int) (wh n : Int), H D.dk = some (.lst [.ref D.ga, .int wh, .int n]) ∧ H D.ga = some (.lst (gs.map V.int)) ∧ gs.length ≤ 63 ∧ 0 ≤ wh ∧ wh < 2 ^ 62
  ne : D.dk ≠ D.ga
/-- all stands still but the deck's two lists -/
def SameD (D : Deck) (H H' : Hp) : Prop := ∀ b o, b ≠ D.dk → b ≠ D.ga → H b = some o → H' b = some o
theorem SameD.refl (D : Deck) (H : Hp) : SameD D H H := fun _ _ _ _ h => h
theorem SameD.trans {D : Deck} {H H1 H2 : Hp} (a : SameD D H H1) (b : SameD D H1 H2) : SameD D H H2 := fun c o h1 h2 h => b c o h1 h2 (a c o h1 h2 h)
theorem SameD.of {D : Deck} {H H' : Hp} (h : Same H H') : SameD D H H' := fun b o _ _ e => h b o e
theorem DeckOk.lists {H : Hp} {D : Deck} (d : DeckOk H D) : (∃ xs, H D.dk = some (.lst xs)) ∧ (∃ xs, H D.ga = some (.lst xs)) := by
  obtain ⟨gs, wh, n, h1, h2, _⟩ := d.ex
  exact ⟨⟨_, h1⟩, ⟨_, h2⟩⟩
theorem SameD.keepT {D : Deck} {H H' : Hp} (h : SameD D H H') (d : DeckOk H D) : KeepT H H' := fun b xs e => by
  obtain ⟨⟨x1, h1⟩, ⟨x2, h2⟩⟩ := d.lists
  exact h b _ (ne_of e h1 (by intro z; cases z)) (ne_of e h2 (by intro z; cases z)) e
theorem SameD.free {D : Deck} {H H' : Hp} (h : SameD D H H') (d : DeckOk H' D) {p : Addr} (e : H' p = none) : H p = none := by
  obtain ⟨⟨x1, h1⟩, ⟨x2, h2⟩⟩ := d.lists
  have n1 : p ≠ D.dk := fun z => by rw [z, h1] at e; cases e
  have n2 : p ≠ D.ga := fun z => by rw [z, h2] at e; cases e
  cases q : H p with
  | none => rfl
  | some o =>
    rw [h p o n1 n2 q] at e
    cases e
theorem DeckOk.same {H H' : Hp} {D : Deck} (d : DeckOk H D) (h : Same H H') : DeckOk H' D := by
  obtain ⟨gs, wh, n, h1, h2, h3⟩ := d.ex
  exact ⟨⟨gs, wh, n, h _ _ h1, h _ _ h2, h3⟩, d.ne⟩
structure Off (D : Deck) (p : Addr) : Prop where
  dk : p ≠ D.dk
  ga : p ≠ D.ga
theorem DeckOk.new {H : Hp} {D : Deck} (d : DeckOk H D) {p : Addr} (e : H p = none) : Off D p := by
  obtain ⟨⟨x1, h1⟩, ⟨x2, h2⟩⟩ := d.lists
  refine ⟨fun z => ?_, fun z => ?_⟩
  · rw [z, h1] at e
    cases e
  · rw [z, h2] at e
    cases e
theorem DeckOk.put {H : Hp} {D : Deck} (d : DeckOk H D) {p : Addr} (f : Off D p) (o : HO) : DeckOk (upd H p o) D := by
  obtain ⟨gs, wh, n, h1, h2, h3⟩ := d.ex
  exact ⟨⟨gs, wh, n, by rw [upd_ne f.dk.symm]; exact h1, by rw [upd_ne f.ga.symm]; exact h2, h3⟩, d.ne⟩
theorem SameD.put {D : Deck} {H H' : Hp} {p : Addr} (s : SameD D H H') (e : H p = none) (o : HO) : SameD D H (upd H' p o) := fun b u h1 h2 h => by
  rw [upd_ne (ne_of_none h e)]
  exact s b u h1 h2 h
theorem SameD.at {D : Deck} {H H' : Hp} {p : Addr} {o : HO} (s : SameD D H H') (f : Off D p) (e : H p = some o) : H' p = some o := s p o f.dk f.ga e
theorem modP (z p : Int) (h0 : 0 < p) (h1 : p < 2 ^ 64) : -(2 ^ 64) < z % p ∧ z % p < 2 ^ 64 := by
  have a := Int.emod_nonneg z (show p ≠ 0 by omega)
  have b := Int.emod_lt_of_pos z h0
  omega
def spNext : Sp := fun vs H Q _ => ∃ (D : Deck) (m : Int), vs = [.ref D.dk, .int m] ∧ DeckOk H D ∧ 0 < m ∧ m < 1073741824 ∧ ∀ (i : Int) (H' : Hp), 0 ≤ i → i < m → DeckOk H' D → SameD D H H' → Q (.int i) H'
section
variable {P : Program} {w : World} {K : PySem.W.Frag} {mg : Str → Option Value} {base : Heap} {f : Addr} {fd : FuncData}
theorem ok_next {k : Nat} (F : Fun K "_law_next" "_law_next" s__law_next f fd) : FnOk P w K mg base CX0 (k + 1) f fd ["_law_deck", "_law_many"] spNext := by
  refine F.ok sc__law_next (fun vs H Q E h => ?_) (fun cdv A outer s H vs Q E hr h => ?_)
  · obtain ⟨D, m, rfl, _⟩ := h
    rfl
  obtain ⟨D, m, rfl, d, m0, m1, q⟩ := h
  refine ⟨_, (pss_cons (ps_while PassesOwn.never (pt_cmpR (op_neL hr.units0) (pe_ix ix_list (pv 0) pe_int (fun _ _ => rfl)) (pe_lst pa_nil) (nomark _))
      (pss_cons (ps_set (i := 2) sc__law_next.nd rfl (.inl rfl) (pe_bm0 PySem.F.plainAttrs_list PySem.F.slot_list_pop PySem.F.type_list_pop mt_pop (pe_ix ix_list (pv 0) pe_int (fun _ _ => rfl))))
    (pss_one (ps_if (pt_cmpR op_gt (pv 2) pe_int (nomark _))
      (pss_cons (ps_expr (pe_bm PySem.F.plainAttrs_list PySem.F.slot_list_append PySem.F.type_list_append mt_append (pe_ix ix_list (pv 0) pe_int (fun _ _ => rfl)) (pa_cons (pe_op op_fdiv (pv 2) (pv 1)) pa_nil)))
    (pss_one (ps_ret (pe_op op_mod (pv 2) (pv 1))))) pss_nil))))
    (pss_cons (ps_asg (pe_op op_add (pe_ix ix_list (pv 0) pe_int (fun _ _ => rfl)) pe_int) (pg_sub (pv 0) pe_int set_list))
    (pss_cons (ps_set (i := 3) sc__law_next.nd rfl (.inl rfl) (pe_op op_add (pe_op op_mul (pe_ix ix_list (pv 0) pe_int (fun _ _ => rfl)) (pe_op op_add pe_int (pe_op op_mul pe_int (pe_ix ix_list (pv 0) pe_int (fun _ _ => rfl))))) (pe_op op_mul pe_int (pe_ix ix_list (pv 0) pe_int (fun _ _ => rfl)))))
    (pss_cons (ps_set (i := 3) sc__law_next.nd rfl (.inl rfl) (pe_op op_mod (pv 3) pe_int))
    (pss_cons (ps_set (i := 3) sc__law_next.nd rfl (.inl rfl) (pe_op op_mod (pe_op op_mul (pv 3) (pv 3)) pe_int))
    (pss_one (ps_ret (pe_op op_mod (pe_op op_fdiv (pe_op op_mod (pe_op op_mul (pv 3) (pv 3)) pe_int) pe_int) (pv 1))))))))), ?_⟩
  refine while_by (fun σ H' => ∃ r, σ = [some (.ref D.dk), some (.int m), r, none] ∧ DeckOk H' D ∧ SameD D H H') (fun σ H' => match H' D.ga with | some (.lst xs) => xs.length | _ => 0) ⟨none, rfl, d, SameD.refl D H⟩ (fun σ H' hp => ?_) ?_
  · obtain ⟨r, rfl, d', s'⟩ := hp
    obtain ⟨gs, wh, n, e1, e2, gl, w0, w1⟩ := d'.ex
    have at0 : ∀ b c, atI [V.ref D.ga, b, c] 0 = some (.ref D.ga) := fun _ _ => atI_nat (j := 0) rfl
    refine ⟨_, rfl, D.dk, _, _, _, rfl, rfl, SqL.of e1, at0 _ _, (by show 0 ≤ sizeLine; decide), fun el ne => ?_⟩
    have q1 := same_new ne (.lst [])
    refine ⟨D.ga, el, _, rfl, rfl, SqL.of (q1 _ _ e2), SqL.of upd_same, _, rfl, ?_⟩
    have d1 := d'.same q1
    have s1 := s'.trans (SameD.of q1)
    have e1' := q1 _ _ e1
    have e2' := q1 _ _ e2
    generalize upd H' el (.lst []) = H1 at d1 s1 e1' e2'
    cases hg : gs with
    | nil =>
      refine iteF ?_
      subst hg
      -- the count
      refine ⟨_, rfl, D.dk, _, _, _, rfl, rfl, SqL.of e1', atI_nat (j := 2) rfl, _, _, rfl, rfl, _, rfl, D.dk, _, _, 2, rfl, rfl, e1', rfl, ?_⟩
      have x1 : (upd H1 D.dk (.lst [.ref D.ga, .int wh, .int (n + 1)])) D.dk = some (.lst [.ref D.ga, .int wh, .int (n + 1)]) := upd_same
      have x2 : (upd H1 D.dk (.lst [.ref D.ga, .int wh, .int (n + 1)])) D.ga = some (.lst []) := by rw [upd_ne d.ne.symm]; exact e2'
      have s2 : SameD D H (upd H1 D.dk (.lst [.ref D.ga, .int wh, .int (n + 1)])) := s1.trans fun b o h1 _ e => by rw [upd_ne h1]; exact e
      have y1 : atI [V.ref D.ga, .int wh, .int (n + 1)] 1 = some (.int wh) := atI_nat (j := 1) rfl
      have y2 : atI [V.ref D.ga, .int wh, .int (n + 1)] 2 = some (.int (n + 1)) := atI_nat (j := 2) rfl
      refine ⟨_, rfl, D.dk, _, _, _, rfl, rfl, SqL.of x1, y1, _, rfl, D.dk, _, _, _, rfl, rfl, SqL.of x1, y2, _, _, rfl, rfl, .inl ⟨by decide, by decide⟩, _, _, rfl, rfl, _, _, rfl, rfl, .inl ⟨by omega, by omega⟩, ?_⟩
      refine ⟨_, rfl, D.dk, _, _, _, rfl, rfl, SqL.of x1, y2, _, _, rfl, rfl, .inl ⟨by decide, by decide⟩, _, _, rfl, rfl, ?_⟩
      refine ⟨_, rfl, _, _, rfl, rfl, (show (0 : Int) < 2305843009213693951 by decide), ?_⟩
      refine ⟨_, rfl, _, rfl, _, _, rfl, rfl, .inl (modP _ _ (by decide) (by decide)), _, _, rfl, rfl, (show (0 : Int) < 2305843009213693951 by decide), ?_⟩
      refine ⟨_, rfl, _, rfl, _, _, rfl, rfl, .inl (modP _ _ (by decide) (by decide)), _, _, rfl, rfl, (show (0 : Int) < 4611686018427387847 by decide), _, _, rfl, rfl, ⟨by decide, by decide⟩, _, rfl, _, _, rfl, rfl, m0, ?_⟩
      exact q _ _ (Int.emod_nonneg _ (by omega)) (Int.emod_lt_of_pos _ m0) ⟨⟨[], wh, n + 1, x1, x2, by decide, w0, w1⟩, d.ne⟩ s2
    | cons g0 gr =>
      refine iteT ?_
      have gne : gs ≠ [] := by rw [hg]; exact List.cons_ne_nil _ _
      have gl' : gs.length - 1 < gs.length := by rw [hg]; exact Nat.lt_succ_self _
      have lst : (gs.map V.int)[(gs.map V.int).length - 1]? = some (.int gs[gs.length - 1]) := by
        rw [List.length_map, List.getElem?_map, List.getElem?_eq_getElem gl']
        rfl
      refine ⟨_, rfl, D.dk, _, _, _, rfl, rfl, SqL.of e1', at0 _ _, .inl ⟨rfl, _, SqL.of e2'⟩, D.ga, _, _, rfl, rfl, e2', lst, ?_⟩
      have z1 : (upd H1 D.ga (.lst (gs.map V.int).dropLast)) D.dk = some (.lst [.ref D.ga, .int wh, .int n]) := by rw [upd_ne d.ne]; exact e1'
      have z2 : (upd H1 D.ga (.lst (gs.map V.int).dropLast)) D.ga = some (.lst (gs.dropLast.map V.int)) := by rw [upd_same, List.map_dropLast]
      have s2 : SameD D H (upd H1 D.ga (.lst (gs.map V.int).dropLast)) := s1.trans fun b o _ h2 e => by rw [upd_ne h2]; exact e
      have dl : gs.dropLast.length < gs.length := by rw [List.length_dropLast]; exact gl'
      refine ⟨_, rfl, _, _, rfl, rfl, _, rfl, ite2 (fun _ => ?_) (fun _ => ?_)⟩
      · refine ⟨_, rfl, D.dk, _, _, _, rfl, rfl, SqL.of z1, at0 _ _, .inl ⟨rfl, _, SqL.of z2⟩, _, rfl, _, rfl, _, _, rfl, rfl, ⟨m0, m1⟩, D.ga, _, _, rfl, rfl, z2, by rw [List.length_map]; exact small1000 (by omega), ?_⟩
        refine ⟨_, rfl, _, rfl, _, _, rfl, rfl, m0, ?_⟩
        refine q _ _ (Int.emod_nonneg _ (by omega)) (Int.emod_lt_of_pos _ m0) ⟨⟨gs.dropLast ++ [gs[gs.length - 1] / m], wh, n, ?_, ?_, ?_, w0, w1⟩, d.ne⟩ ?_
        · rw [upd_ne d.ne]; exact z1
        · rw [upd_same, List.map_append]; rfl
        · rw [List.length_append, List.length_cons, List.length_nil]; omega
        · exact s2.trans fun b o _ h2 e => by rw [upd_ne h2]; exact e
      · refine ⟨⟨_, rfl, ⟨⟨gs.dropLast, wh, n, z1, z2, by omega, w0, w1⟩, d.ne⟩, s2⟩, ?_⟩
        show (match (upd H1 D.ga (.lst (gs.map V.int).dropLast)) D.ga with | some (.lst xs) => xs.length | _ => 0) < (match H' D.ga with | some (.lst xs) => xs.length | _ => 0)
        rw [z2, e2]
        show (gs.dropLast.map V.int).length < (gs.map V.int).length
        rw [List.length_map, List.length_map]
        exact dl
  · intro σ H' Q1 Q2 hQ h
    obtain ⟨v, e, p, xs, i, y, e2, e3, e4, e5, e6, h⟩ := h
    refine ⟨v, e, p, xs, i, y, e2, e3, e4, e5, e6, fun el ne => ?_⟩
    obtain ⟨a, b, zs, h1, h2, h3, h4, k, h5, h6⟩ := h el ne
    exact ⟨a, b, zs, h1, h2, h3, h4, k, h5, hQ _ _ h6⟩
end
/-! ### _law_begin -/
def spBegin (K : PySem.W.Frag) : Sp := fun vs H Q _ => ∃ (a : Addr) (ns : List Int), vs = [.ref a] ∧ SqL K H a (ns.map V.int) ∧ ns.length ≤ 63 ∧ ∀ (D : Deck) (H' : Hp), DeckOk H' D → Same H H' → Q (.ref D.dk) H'
section
variable {P : Program} {w : World} {K : PySem.W.Frag} {mg : Str → Option Value} {base : Heap} {f : Addr} {fd : FuncData}
theorem ok_begin {k : Nat} (F : Fun K "_law_begin" "_law_begin" s__law_begin f fd) (M : Mgs mg) : FnOk P w K mg base CX0 (k + 1) f fd ["_law_script"] (spBegin K) := by
  refine F.ok sc__law_begin (fun vs H Q E h => ?_) (fun cdv A outer s H vs Q E hr h => ?_)
  · obtain ⟨a, ns, rfl, _⟩ := h
    rfl
  obtain ⟨a, ns, rfl, hS, hn, q⟩ := h
  refine ⟨_, (pss_cons (ps_setLc (i := 2) (own := [("_law_cell", 1)]) (g := gName 1) (by rfl) sc__law_begin.nd rfl rfl (sw_true rfl rfl rfl (by decide +kernel)) (pi_list (pv 0)) (blkOk_by (N := ["_law_script", "_law_cell", "_law_greats", "_law_whole"]) (sc := defScope s__law_begin) (by decide +kernel)) (fun _ _ _ _ _ => (pg_name (i := 1) sc__law_begin.nd rfl (.inl rfl))) (fun _ _ _ _ _ => pts_one (pt_cmpR op_ge (pe_callB call_abs rfl M.abs (by decide +kernel) (pa_cons (pv 1) pa_nil)) (pe_op op_pow pe_int pe_int) (nomark _))) (fun _ _ _ _ _ => (pe_callB call_abs rfl M.abs (by decide +kernel) (pa_cons (pv 1) pa_nil))))
    (pss_cons (ps_set (i := 3) sc__law_begin.nd rfl (.inl rfl) (pe_op op_add pe_int (pe_callB call_len_seq rfl M.len PySem.boot_len (pa_cons (pv 0) pa_nil))))
    (pss_cons (ps_for PassesOwn.never rfl (pi_list (pv 0)) (pg_name (i := 1) sc__law_begin.nd rfl (.inl rfl))
      (pss_one (ps_set (i := 3) sc__law_begin.nd rfl (.inl rfl) (pe_op op_mod (pe_op op_add (pe_op op_add (pe_op op_mul (pv 3) pe_int) (pe_op op_mul pe_int (pe_callB call_abs rfl M.abs (by decide +kernel) (pa_cons (pv 1) pa_nil)))) (pe_callTy call_int1 rfl M.int (by decide +kernel) (pa_cons (pe_cmpR op_lt (pv 1) pe_int (nomark _)) pa_nil))) pe_int))))
    (pss_one (ps_ret (pe_lst (pa_cons (pe_revL (pv 2)) (pa_cons (pv 3) (pa_cons pe_int pa_nil))))))))), ?_⟩
  refine ⟨.ref a, rfl, a, rfl, ⟨_, hS⟩, fun d1 n1 => ?_⟩
  have s1 := same_new n1 (.lst [])
  refine lc_list (K := K) (a := a) (xs := ns.map V.int) (fun i H' => Same H H' ∧ ∃ zs : List Int, zs.length ≤ i ∧ H' d1 = some (.lst (zs.map V.int))) ⟨s1, [], Nat.le_refl _, upd_same⟩ (fun i H' _ hp => hp.1.seq hS) (fun i x H' hx hp => ?_) (fun H1 hp => ?_)
  · obtain ⟨sm, zs, hz, hd⟩ := hp
    rw [List.getElem?_map] at hx
    obtain ⟨y, hy, rfl⟩ := Option.map_eq_some_iff.mp hx
    have hi : i < 63 := by
      have := (List.getElem?_eq_some_iff.mp hy).1
      omega
    refine ⟨rfl, ?_⟩
    refine ⟨_, rfl, _, rfl, _, _, rfl, rfl, ⟨by decide, by decide, by decide⟩, _, _, rfl, rfl, _, rfl, ite2 (fun _ => ?_) (fun _ => ?_)⟩
    · refine ⟨_, rfl, _, rfl, _, hd, by rw [List.length_map]; exact small1000 (by omega), fun b o e => ?_, zs ++ [if y < 0 then -y else y], by rw [List.length_append]; show zs.length + 1 ≤ i + 1; omega, ?_⟩
      · rw [upd_ne (ne_of_none e n1)]
        exact sm _ _ e
      · rw [upd_same, List.map_append]
        rfl
    · exact ⟨sm, zs, by omega, hd⟩
  obtain ⟨sm, zs, hz, hd⟩ := hp
  rw [List.length_map] at hz
  refine ⟨.ref a, rfl, a, _, rfl, .inl (sm.seq hS), _, _, rfl, rfl, ?_⟩
  refine ⟨.ref a, rfl, a, rfl, ⟨_, sm.seq hS⟩, ?_⟩
  refine for_list (K := K) (a := a) (xs := ns.map V.int) (fun i σ H' => H' = H1 ∧ ∃ (c : Option V) (wh : Int), σ = [some (.ref a), c, some (.ref d1), some (.int wh)] ∧ 0 ≤ wh ∧ wh < 2 ^ 62) ⟨rfl, _, _, rfl, by omega, by rw [List.length_map]; omega⟩ (fun i σ H' _ hp => by rw [hp.1]; exact sm.seq hS) (fun i x σ H' hx hp => ?_) (fun σ H' hp => ?_)
  · obtain ⟨rfl, c, wh, rfl, w0, w1⟩ := hp
    rw [List.getElem?_map] at hx
    obtain ⟨y, hy, rfl⟩ := Option.map_eq_some_iff.mp hx
    refine ⟨_, rfl, _, _, rfl, rfl, .inl ⟨by omega, by omega⟩, _, rfl, _, rfl, _, _, rfl, rfl, .inl ⟨by decide, by decide⟩, _, _, rfl, rfl, _, rfl, _, _, rfl, rfl, .inr ⟨_, rfl, _, _, rfl, rfl, _, _, rfl, rfl, (show (0 : Int) < 2305843009213693951 by decide), ?_⟩⟩
    refine ⟨rfl, _, _, rfl, Int.emod_nonneg _ (by decide), ?_⟩
    exact Int.lt_trans (Int.emod_lt_of_pos _ (by decide)) (by decide)
  · obtain ⟨rfl, c, wh, rfl, w0, w1⟩ := hp
    refine ⟨_, rfl, d1, _, rfl, SqL.of hd, fun ga nga => ?_⟩
    refine ⟨_, rfl, (by show 3 ≤ sizeLine; decide), fun dk ndk => ?_⟩
    have s2 := same_new nga (.lst (zs.map V.int).reverse)
    have s3 := same_new ndk (.lst [.ref ga, .int wh, .int 0])
    have ega : (upd H' ga (.lst (zs.map V.int).reverse)) ga = some (.lst (zs.reverse.map V.int)) := by rw [upd_same, List.map_reverse]
    exact q ⟨dk, ga⟩ _ ⟨⟨zs.reverse, wh, 0, upd_same, s3 _ _ ega, by rw [List.length_reverse]; omega, w0, w1⟩, (ne_of_none ega ndk).symm⟩ (sm.trans (s2.trans s3))
end
/-! ### _law_mixed, _law_free -/
abbrev vc (c : Nat) : V := .str (ch c)
theorem erase_perm {α : Type} : ∀ {l : List α} {i : Nat} (h : i < l.length), List.Perm (l[i] :: l.eraseIdx i) l
  | x :: l, 0, _ => List.Perm.refl _
  | x :: l, i + 1, h => by
    have := erase_perm (l := l) (i := i) (Nat.lt_of_succ_lt_succ h)
    show List.Perm (l[i]'(Nat.lt_of_succ_lt_succ h) :: x :: l.eraseIdx i) (x :: l)
    exact (List.Perm.swap _ _ _).trans (this.cons x)
def spMixed : Sp := fun vs H Q _ => ∃ (D : Deck) (a : Addr) (ls : List Nat), vs = [.ref D.dk, .ref a] ∧ DeckOk H D ∧ H a = some (.lst (ls.map vc)) ∧ Off D a ∧ ls.length ≤ 60 ∧
  ∀ (p : Addr) (zs : List Nat) (H' : Hp), DeckOk H' D → SameD D H H' → H' p = some (.lst (zs.map vc)) → zs.Perm ls → Off D p → Q (.ref p) H'
section
variable {P : Program} {w : World} {K : PySem.W.Frag} {mg : Str → Option Value} {base : Heap} {f : Addr} {fd : FuncData}
theorem ok_mixed {k : Nat} (F : Fun K "_law_mixed" "_law_mixed" s__law_mixed f fd) (M : Mgs mg) (D_law_next : Df P w K mg base k "_law_next" ["_law_deck", "_law_many"] spNext) : FnOk P w K mg base CX0 (k + 1) f fd ["_law_deck", "_law_items"] spMixed := by
  refine F.ok sc__law_mixed (fun vs H Q E h => ?_) (fun cdv A outer s H vs Q E hr h => ?_)
  · obtain ⟨D, a, ls, rfl, _⟩ := h
    rfl
  obtain ⟨D, a, ls, rfl, d, ea, oa, hl, q⟩ := h
  refine ⟨_, (pss_cons (ps_par (i := 2) (j := 3) (by rfl) sc__law_mixed.nd rfl rfl (by decide) rfl rfl (pa_cons (pe_callTy call_list_of rfl M.list (by decide +kernel) (pa_cons (pv 1) pa_nil)) (pa_cons (pe_lst pa_nil) pa_nil)) (by rfl))
    (pss_cons (ps_while PassesOwn.never (pt_cmpR (op_neL hr.units0) (pv 2) (pe_lst pa_nil) (nomark _))
      (pss_one (ps_expr (pe_bm PySem.F.plainAttrs_list PySem.F.slot_list_append PySem.F.type_list_append mt_append (pv 3) (pa_cons (pe_bm PySem.F.plainAttrs_list PySem.F.slot_list_pop PySem.F.type_list_pop mt_popAt (pv 2) (pa_cons (pe_call D_law_next.ok (hr.mono (by omega)) rfl D_law_next.g D_law_next.kp D_law_next.b .nil pass0 (pa_cons (pv 0) (pa_cons (pe_callB call_len_seq rfl M.len PySem.boot_len (pa_cons (pv 2) pa_nil)) pa_nil))) pa_nil)) pa_nil)))))
    (pss_one (ps_ret (pv 3))))), ?_⟩
  refine ⟨_, rfl, a, _, rfl, .inl (SqL.of ea), fun ra nra => ⟨(by show 0 ≤ sizeLine; decide), fun fa nfa => ?_⟩⟩
  refine ⟨_, _, rfl, ?_⟩
  have q1 := same_new nra (.lst (ls.map vc))
  have q2 := same_new nfa (.lst [])
  have era := q2 _ _ (upd_same (H := H) (a := ra) (o := .lst (ls.map vc)))
  have nrf : ra ≠ fa := ne_of_none upd_same nfa
  have nfaH : H fa = none := by
    rw [upd_ne nrf.symm] at nfa
    exact nfa
  have ora := d.new nra
  have ofa := d.new nfaH
  refine while_by (fun σ H' => σ = [some (.ref D.dk), some (.ref a), some (.ref ra), some (.ref fa)] ∧ ∃ rest xs : List Nat, DeckOk H' D ∧ SameD D H H' ∧ H' ra = some (.lst (rest.map vc)) ∧ H' fa = some (.lst (xs.map vc)) ∧ (xs ++ rest).Perm ls) (fun σ H' => match H' ra with | some (.lst xs) => xs.length | _ => 0)
    ⟨rfl, ls, [], (d.same q1).same q2, SameD.of (q1.trans q2), era, upd_same, List.Perm.refl _⟩ (fun σ H' hp => ?_) ?_
  · obtain ⟨rfl, rest, xs, d', s', er, ef, pm⟩ := hp
    have hlen : xs.length + rest.length = ls.length := by rw [← List.length_append]; exact pm.length_eq
    refine ⟨_, rfl, (by show 0 ≤ sizeLine; decide), fun el ne => ?_⟩
    have q3 := same_new ne (.lst [])
    refine ⟨ra, el, _, rfl, rfl, SqL.of (q3 _ _ er), SqL.of upd_same, _, rfl, ?_⟩
    have d1 := d'.same q3
    have s1 := s'.trans (SameD.of q3)
    have er1 := q3 _ _ er
    have ef1 := q3 _ _ ef
    generalize upd H' el (.lst []) = H1 at d1 s1 er1 ef1
    cases hg : rest with
    | nil =>
      refine iteF ?_
      subst hg
      rw [List.append_nil] at pm
      exact ⟨_, rfl, q fa xs H1 d1 s1 ef1 pm ofa⟩
    | cons g0 gr =>
      refine iteT ?_
      have r0 : 0 < rest.length := by rw [hg]; exact Nat.succ_pos _
      refine ⟨_, rfl, .inl ⟨rfl, _, SqL.of ef1⟩, _, rfl, .inl ⟨rfl, _, SqL.of er1⟩, _, rfl, _, rfl, ra, _, rfl, .inl (SqL.of er1), D, _, rfl, d1, ?_, ?_, fun j H2 j0 j1 d2 s2 => ?_⟩
      · rw [List.length_map]; omega
      · rw [List.length_map]; omega
      rw [List.length_map] at j1
      have hj : j.toNat < rest.length := by omega
      have er2 := s2.at ora er1
      have ef2 := s2.at ofa ef1
      refine ⟨ra, _, j, j.toNat, vc rest[j.toNat], rfl, rfl, er2, by omega, by omega, ?_, ?_, ?_⟩
      · exact (ixN_seq (ixN_nat j0 (by rw [List.length_map]; omega))).1
      · rw [List.getElem?_map, List.getElem?_eq_getElem hj]; rfl
      have ef3 : (upd H2 ra (.lst ((rest.map vc).eraseIdx j.toNat))) fa = some (.lst (xs.map vc)) := by rw [upd_ne nrf.symm]; exact ef2
      refine ⟨fa, _, _, rfl, rfl, ef3, by rw [List.length_map]; exact small1000 (by omega), ?_⟩
      refine ⟨⟨rfl, rest.eraseIdx j.toNat, xs ++ [rest[j.toNat]], (d2.put ora _).put ofa _, ((s1.trans s2).put nra _).put nfaH _, ?_, ?_, ?_⟩, ?_⟩
      · rw [upd_ne nrf, upd_same, erase_map]
      · rw [upd_same, List.map_append]; rfl
      · rw [List.append_assoc]
        exact (List.Perm.append_left xs (erase_perm hj)).trans pm
      · show (match (upd (upd H2 ra _) fa (.lst (xs.map vc ++ [vc rest[j.toNat]]))) ra with | some (.lst xs) => xs.length | _ => 0) < (match H' ra with | some (.lst xs) => xs.length | _ => 0)
        rw [upd_ne nrf, upd_same, er]
        show ((rest.map vc).eraseIdx j.toNat).length < (rest.map vc).length
        rw [List.length_eraseIdx_of_lt (by rw [List.length_map]; exact hj), List.length_map]
        omega
  · intro σ H' Q1 Q2 hQ h
    obtain ⟨v, e, h0, h⟩ := h
    refine ⟨v, e, h0, fun el ne => ?_⟩
    obtain ⟨a, b, zs, h1, h2, h3, h4, k, h5, h6⟩ := h el ne
    exact ⟨a, b, zs, h1, h2, h3, h4, k, h5, hQ _ _ h6⟩
end
def spFree (n : Nat) : Sp := fun vs H Q _ => ∃ (D : Deck) (a : Addr) (ls : List Nat), vs = [.ref D.dk, .ref a] ∧ DeckOk H D ∧ H a = some (.lst (ls.map vc)) ∧ Off D a ∧ ls.length < n ∧ ls.length ≤ 60 ∧
  ∀ (p : Addr) (zs : List Nat) (H' : Hp), DeckOk H' D → SameD D H H' → H' p = some (.lst (zs.map vc)) → zs.Perm ls → Off D p → Q (.ref p) H'
section
variable {P : Program} {w : World} {K : PySem.W.Frag} {mg : Str → Option Value} {base : Heap} {f : Addr} {fd : FuncData}
theorem op_eqL {X : Cx} (hu : X.A.units < cLine) : OpR X (compareOp .Eq) (fun x y H Q => ∃ a b xs, x = .ref a ∧ y = .ref b ∧ SqL X.K H a xs ∧ SqL X.K H b [] ∧ Q (.bl xs.isEmpty) H) := by
  intro pins s σ H x y v u Q I rx ry h
  obtain ⟨a, b, xs, rfl, rfl, hx, hy, q⟩ := h
  cases rx
  cases ry
  obtain ⟨its, r1, t1, _⟩ := I.list hx
  obtain ⟨its2, r2, t2, _⟩ := I.list hy
  cases r2
  cases r1 with
  | nil =>
    have rc := SeqAt.RcAt.lists (A := X.A) (s := s) (items := ([] : List Value).toArray) (items2 := ([] : List Value).toArray) (e := fun _ => true) t1.isList t2.isList rfl hu (fun j h1 _ => absurd h1 (by simp))
    exact rc X.prog X.w X.xe _ ⟨.bl _, H, I, rfl, q⟩
  | cons _ _ =>
    have rc := SeqAt.RcAt.lists_lengths (A := X.A) (s := s) t1.isList t2.isList (by simp) hu
    exact rc X.prog X.w X.xe _ ⟨.bl _, H, I, rfl, q⟩
theorem ok_free (F : Fun K "_law_free" "_law_free" s__law_free f fd) (b : Binds K fd ["_law_deck", "_law_letters"] []) (g : mg "_law_free" = some (.ref f)) (M : Mgs mg) (D_law_next : Df P w K mg base 1 "_law_next" ["_law_deck", "_law_many"] spNext) :
    ∀ n : Nat, FnOk P w K mg base CX0 (n + 1) f fd ["_law_deck", "_law_letters"] (spFree n)
  | 0 => by
    have no : ∀ vs H Q E, ¬ spFree 0 vs H Q E := fun vs H Q E h => by
      obtain ⟨D, a, ls, _, _, _, _, h1, _⟩ := h
      omega
    exact ⟨fun vs H Q E h => absurd h (no vs H Q E), fun A outer s H args us vs Q E _ _ _ _ h => absurd h (no vs H Q E)⟩
  | n + 1 => by
    have Dself : Df P w K mg base (n + 1) "_law_free" ["_law_deck", "_law_letters"] (spFree n) := ⟨f, fd, ok_free F b g M D_law_next n, b, F.kp, g⟩
    refine F.ok sc__law_free (fun vs H Q E h => ?_) (fun cdv A outer s H vs Q E hr h => ?_)
    · obtain ⟨D, a, ls, rfl, _⟩ := h
      rfl
    obtain ⟨D, a, ls, rfl, d, ea, oa, hn, hl, q⟩ := h
    refine ⟨_, (pss_cons (ps_if (pt_cmpR (op_eqL hr.units0) (pv 1) (pe_lst pa_nil) (nomark _))
      (pss_one (ps_ret (pe_lst pa_nil))) pss_nil)
    (pss_cons (ps_set (i := 2) sc__law_free.nd rfl (.inl rfl) (pe_call D_law_next.ok (hr.mono (by omega)) rfl D_law_next.g D_law_next.kp D_law_next.b .nil pass0 (pa_cons (pv 0) (pa_cons (pe_callB call_len_seq rfl M.len PySem.boot_len (pa_cons (pv 1) pa_nil)) pa_nil))))
    (pss_one (ps_ret (pe_op op_cat (pe_op op_cat (pe_lst (pa_cons (pe_ix ix_list (pv 1) (pv 2) (fun _ _ => rfl)) pa_nil)) (pe_call Dself.ok (hr.mono (by omega)) rfl Dself.g Dself.kp Dself.b .nil pass0 (pa_cons (pv 0) (pa_cons (pe_slice sl_list (pv 1) po_none (po_some (pv 2))) pa_nil)))) (pe_call Dself.ok (hr.mono (by omega)) rfl Dself.g Dself.kp Dself.b .nil pass0 (pa_cons (pv 0) (pa_cons (pe_slice sl_list (pv 1) (po_some (pe_op op_add (pv 2) pe_int)) po_none) pa_nil)))))))), ?_⟩
    refine ⟨_, rfl, (by show 0 ≤ sizeLine; decide), fun el ne => ?_⟩
    have q1 := same_new ne (.lst [])
    refine ⟨a, el, _, rfl, rfl, SqL.of (q1 _ _ ea), SqL.of upd_same, _, rfl, ite2 (fun c => ?_) (fun c => ?_)⟩
    · have e0 : ls = [] := by
        have := List.isEmpty_iff.mp c
        exact List.map_eq_nil_iff.mp this
      refine ⟨(by show 0 ≤ sizeLine; decide), fun p np => ?_⟩
      have q2 := same_new np (.lst [])
      subst e0
      exact q p [] _ ((d.same q1).same q2) (SameD.of (q1.trans q2)) upd_same (List.Perm.refl _) ((d.same q1).new np)
    · have l0 : 0 < ls.length := by
        cases ls with
        | nil => exact absurd rfl c
        | cons _ _ => exact Nat.succ_pos _
      refine ⟨_, rfl, _, rfl, a, _, rfl, .inl (SqL.of (q1 _ _ ea)), D, _, rfl, d.same q1, by rw [List.length_map]; omega, by rw [List.length_map]; omega, fun j H1 j0 j1 d1 s1 => ?_⟩
      rw [List.length_map] at j1
      have hj : j.toNat < ls.length := by omega
      have ej : j = ((j.toNat : Nat) : Int) := by omega
      have sA := (SameD.of q1).trans s1
      have ea1 := sA.at oa ea
      refine ⟨_, rfl, _, rfl, a, _, _, _, rfl, rfl, SqL.of ea1, at_map j0 (List.getElem?_eq_getElem hj), (by show 1 ≤ sizeLine; decide), fun r nr => ?_⟩
      have q2 := same_new nr (.lst [vc ls[j.toNat]])
      have or_ := d1.new nr
      have er := upd_same (H := H1) (a := r) (o := .lst [vc ls[j.toNat]])
      have d2 := d1.same q2
      have s2 := sA.trans (SameD.of q2)
      have ea2 := q2 _ _ ea1
      generalize upd H1 r (.lst [vc ls[j.toNat]]) = H2 at d2 s2 ea2 er
      refine ⟨_, rfl, _, rfl, _, rfl, _, rfl, a, _, rfl, SqL.of ea2, fun p1 np1 => ?_⟩
      rw [ej, cut_to, ← List.map_take]
      have q3 := same_new np1 (.lst ((ls.take j.toNat).map vc))
      have lt : (ls.take j.toNat).length = j.toNat := by rw [List.length_take]; omega
      refine ⟨D, p1, ls.take j.toNat, rfl, d2.same q3, upd_same, d2.new np1, by omega, by omega, fun pl zl H3 d3 s3 el3 pml ol => ?_⟩
      have s23 := (SameD.of (D := D) q3).trans s3
      refine ⟨r, pl, _, _, rfl, rfl, s23.at or_ er, el3, ?_, fun r2 nr2 => ?_⟩
      · rw [List.length_map, pml.length_eq]; exact small (by show 1 + _ ≤ 1000; omega)
      have q4 := same_new nr2 (.lst ([vc ls[j.toNat]] ++ zl.map vc))
      have or2 := d3.new nr2
      have er2 := upd_same (H := H3) (a := r2) (o := .lst ([vc ls[j.toNat]] ++ zl.map vc))
      have d4 := d3.same q4
      have s4 := (s2.trans s23).trans (SameD.of q4)
      have ea4 := s4.at oa ea
      generalize upd H3 r2 (.lst ([vc ls[j.toNat]] ++ zl.map vc)) = H4 at d4 s4 ea4 er2
      refine ⟨_, rfl, _, rfl, _, rfl, _, _, rfl, rfl, _, rfl, a, _, rfl, SqL.of ea4, fun p2 np2 => ?_⟩
      rw [show cutV (ls.map vc) (some (((j.toNat : Nat) : Int) + 1)) none = (ls.drop (j.toNat + 1)).map vc by rw [show ((j.toNat : Nat) : Int) + 1 = ((j.toNat + 1 : Nat) : Int) by omega, cut_from, List.map_drop]]
      have q5 := same_new np2 (.lst ((ls.drop (j.toNat + 1)).map vc))
      have ld : (ls.drop (j.toNat + 1)).length = ls.length - 1 - j.toNat := by rw [List.length_drop]; omega
      refine ⟨D, p2, ls.drop (j.toNat + 1), rfl, d4.same q5, upd_same, d4.new np2, by omega, by omega, fun pr zr H5 d5 s5 er5 pmr or5 => ?_⟩
      have s45 := (SameD.of (D := D) q5).trans s5
      refine ⟨r2, pr, _, _, rfl, rfl, s45.at or2 er2, er5, ?_, fun r3 nr3 => ?_⟩
      · rw [List.length_append, List.length_map, List.length_map, pml.length_eq, pmr.length_eq]; exact small (by show 1 + _ + _ ≤ 1000; omega)
      have q6 := same_new nr3 (.lst (([vc ls[j.toNat]] ++ zl.map vc) ++ zr.map vc))
      refine q r3 (ls[j.toNat] :: (zl ++ zr)) _ (d5.same q6) ((s4.trans s45).trans (SameD.of q6)) ?_ ?_ (d5.new nr3)
      · rw [upd_same, List.map_cons, List.map_append]; rfl
      · have h1 : (ls[j.toNat] :: (zl ++ zr)).Perm (ls[j.toNat] :: (ls.take j.toNat ++ ls.drop (j.toNat + 1))) := (pml.append pmr).cons _
        refine h1.trans ?_
        refine List.Perm.symm (List.perm_middle.symm.trans ?_).symm
        rw [← List.drop_eq_getElem_cons hj, List.take_append_drop]
end
/-! ### _law_order -/
theorem iteI {i j : Int} {A B : Prop} (h : i = j) (a : A) : if decide (V.int i = V.int j) = true then A else B := by
  rw [if_pos (decide_eq_true (congrArg V.int h))]; exact a
theorem iteJ {i j : Int} {A B : Prop} (h : i ≠ j) (b : B) : if decide (V.int i = V.int j) = true then A else B := by
  rw [if_neg (fun z => h (V.int.inj (of_decide_eq_true z)))]; exact b
def abcN : List Nat := (Str.ofString "abcdefghijklmnopqrstuvwxyz").cps.toList
theorem abcN_len : abcN.length = 26 := by decide +kernel
theorem abcN_nodup : abcN.Nodup := by decide +kernel
theorem abcN_in : ∀ c ∈ abcN, 97 ≤ c ∧ c ≤ 122 := by decide +kernel
theorem perm_ch {ys : List Str} {l : List Nat} (h : ys.Perm (l.map ch)) : ∃ zs : List Nat, ys = zs.map ch ∧ zs.Perm l := by
  have hy : ∀ y ∈ ys, ch ((fun y : Str => y.cps.toList.headD 0) y) = y := fun y hy => by
    obtain ⟨c, _, rfl⟩ := List.mem_map.mp (h.mem_iff.mp hy)
    rfl
  refine ⟨ys.map fun y => y.cps.toList.headD 0, ?_, ?_⟩
  · rw [List.map_map]
    clear h
    induction ys with
    | nil => rfl
    | cons y r ih =>
      rw [List.map_cons, ← ih fun z hz => hy z (List.mem_cons_of_mem _ hz)]
      exact congrArg (· :: r) (hy y List.mem_cons_self).symm
  · have := h.map (fun y : Str => y.cps.toList.headD 0)
    rw [List.map_map] at this
    have e : l.map ((fun y : Str => y.cps.toList.headD 0) ∘ ch) = l := by
      clear h this
      induction l with
      | nil => rfl
      | cons c r ih => rw [List.map_cons, ih]; rfl
    rw [e] at this
    exact this
theorem map_vc (l : List Nat) : l.map vc = (l.map ch).map V.str := by rw [List.map_map]; rfl
/-- letters, each once -/
def Lts (l : List Nat) : Prop := l.Nodup ∧ ∀ c ∈ l, 97 ≤ c ∧ c ≤ 122
theorem Lts.perm {l l' : List Nat} (h : Lts l) (p : l'.Perm l) : Lts l' := ⟨p.nodup_iff.mpr h.1, fun c hc => h.2 c (p.mem_iff.mp hc)⟩
theorem Lts.sub {l l' : List Nat} (h : Lts l) (p : l'.Sublist l) : Lts l' := ⟨h.1.sublist p, fun c hc => h.2 c (p.subset hc)⟩
theorem abcN_lts : Lts abcN := ⟨abcN_nodup, abcN_in⟩
def spOrder : Sp := fun vs H Q _ => ∃ (D : Deck) (lo hi : Nat), vs = [.ref D.dk, .int (lo : Int), .int (hi : Int)] ∧ DeckOk H D ∧ lo ≤ hi ∧ hi ≤ 26 ∧
  ∀ (zs : List Nat) (H' : Hp), DeckOk H' D → SameD D H H' → Lts zs → lo ≤ zs.length → zs.length ≤ hi → Q (.str (tx zs)) H'
section
variable {P : Program} {w : World} {K : PySem.W.Frag} {mg : Str → Option Value} {base : Heap} {f : Addr} {fd : FuncData}
theorem ok_order (F : Fun K "_law_order" "_law_order" s__law_order f fd) (M : Mgs mg) (D_law_next : Df P w K mg base 1 "_law_next" ["_law_deck", "_law_many"] spNext) (D_law_mixed : Df P w K mg base 2 "_law_mixed" ["_law_deck", "_law_items"] spMixed)
    (D_law_free : Df P w K mg base 31 "_law_free" ["_law_deck", "_law_letters"] (spFree 30)) : FnOk P w K mg base CX0 32 f fd ["_law_deck", "_law_low", "_law_high"] spOrder := by
  refine F.ok sc__law_order (fun vs H Q E h => ?_) (fun cdv A outer s H vs Q E hr h => ?_)
  · obtain ⟨D, lo, hi, rfl, _⟩ := h
    rfl
  obtain ⟨D, lo, hi, rfl, d, lh, h26, q⟩ := h
  refine ⟨_, (pss_cons (ps_par (i := 3) (j := 4) (by rfl) sc__law_order.nd rfl rfl (by decide) rfl rfl (pa_cons (pe_op op_add (pv 1) (pe_call D_law_next.ok (hr.mono (by omega)) rfl D_law_next.g D_law_next.kp D_law_next.b .nil pass0 (pa_cons (pv 0) (pa_cons (pe_op op_add (pe_op op_sub (pv 2) (pv 1)) pe_int) pa_nil)))) (pa_cons (pe_call D_law_next.ok (hr.mono (by omega)) rfl D_law_next.g D_law_next.kp D_law_next.b .nil pass0 (pa_cons (pv 0) (pa_cons pe_int pa_nil))) pa_nil)) (by rfl))
    (pss_cons (ps_set (i := 5) sc__law_order.nd rfl (.inl rfl) (pe_callB cr_sortedS rfl M.sorted (by decide +kernel) (pa_cons (pe_slice sl_list (pe_call D_law_mixed.ok (hr.mono (by omega)) rfl D_law_mixed.g D_law_mixed.kp D_law_mixed.b .nil pass0 (pa_cons (pv 0) (pa_cons (pe_callTy (call_signs rfl) rfl M.list (by decide +kernel) (pa_cons pe_str pa_nil)) pa_nil))) po_none (po_some (pv 3))) pa_nil)))
    (pss_cons (ps_if (pt_cmpR op_eq (pv 4) pe_int (nomark _))
      (pss_one (ps_set (i := 5) sc__law_order.nd rfl (.inl rfl) (pe_call D_law_mixed.ok (hr.mono (by omega)) rfl D_law_mixed.g D_law_mixed.kp D_law_mixed.b .nil pass0 (pa_cons (pv 0) (pa_cons (pv 5) pa_nil))))) pss_nil)
    (pss_cons (ps_if (pt_cmpR op_eq (pv 4) pe_int (nomark _))
      (pss_one (ps_set (i := 5) sc__law_order.nd rfl (.inl rfl) (pe_revL (pv 5)))) pss_nil)
    (pss_cons (ps_if (pt_cmpR op_eq (pv 4) pe_int (nomark _))
      (pss_one (ps_set (i := 5) sc__law_order.nd rfl (.inl rfl) (pe_call D_law_free.ok (hr.mono (by omega)) rfl D_law_free.g D_law_free.kp D_law_free.b .nil pass0 (pa_cons (pv 0) (pa_cons (pv 5) pa_nil))))) pss_nil)
    (pss_one (ps_ret (pe_bm PySem.F.plainAttrs_str PySem.F.slot_str_join PySem.F.type_str_join mt_join pe_str (pa_cons (pv 5) pa_nil))))))))), ?_⟩
  refine ⟨_, rfl, _, rfl, _, rfl, _, rfl, _, _, rfl, rfl, _, _, rfl, rfl, D, _, rfl, d, by omega, by omega, fun i H1 i0 i1 d1 s1 => ?_⟩
  refine ⟨_, _, rfl, rfl, _, rfl, D, _, rfl, d1, by decide, by decide, fun wy H2 w0 w1 d2 s2 => ?_⟩
  refine ⟨_, _, rfl, ?_⟩
  have s12 := s1.trans s2
  refine ⟨_, rfl, _, rfl, by decide +kernel, fun la nla => ?_⟩
  have q1 := same_new nla (.lst (abcN.map vc))
  refine ⟨D, la, abcN, rfl, d2.same q1, upd_same, d2.new nla, by rw [abcN_len]; decide, fun pm zm H3 d3 s3 em pmm om => ?_⟩
  have s13 := s12.trans ((SameD.of q1).trans s3)
  have ei : (lo : Int) + i = ((lo + i.toNat : Nat) : Int) := by omega
  refine ⟨_, rfl, _, rfl, pm, _, rfl, SqL.of em, fun pc npc => ?_⟩
  rw [ei, cut_to, ← List.map_take]
  have q2 := same_new npc (.lst ((zm.take (lo + i.toNat)).map vc))
  have tl : (zm.take (lo + i.toNat)).length = lo + i.toNat := by rw [List.length_take, pmm.length_eq, abcN_len]; omega
  have lt0 : Lts (zm.take (lo + i.toNat)) := (abcN_lts.perm pmm).sub (List.take_sublist _ _)
  have ec : (upd H3 pc (.lst ((zm.take (lo + i.toNat)).map vc))) pc = some (.lst (((zm.take (lo + i.toNat)).map ch).map V.str)) := by rw [upd_same, map_vc]
  refine ⟨pc, (zm.take (lo + i.toNat)).map ch, rfl, SqL.of ec, by rw [List.length_map, tl]; omega, fun ys ps pms _ nps => ?_⟩
  obtain ⟨zs, rfl, pz⟩ := perm_ch pms
  rw [← map_vc]
  have q3 := same_new nps (.lst (zs.map vc))
  have ltz := lt0.perm pz
  have zl : zs.length = lo + i.toNat := pz.length_eq.trans tl
  have d5 := (d3.same q2).same q3
  have s15 := s13.trans (SameD.of (q2.trans q3))
  have ops := (d3.same q2).new nps
  have eps := upd_same (H := upd H3 pc (.lst ((zm.take (lo + i.toNat)).map vc))) (a := ps) (o := .lst (zs.map vc))
  generalize upd (upd H3 pc (.lst ((zm.take (lo + i.toNat)).map vc))) ps (.lst (zs.map vc)) = H5 at d5 s15 eps
  have fin : ∀ (p : Addr) (us : List Nat) (H' : Hp), DeckOk H' D → SameD D H H' → H' p = some (.lst (us.map vc)) → us.Perm zs → ∃ (a : Str) (p' : Addr) (ys : List Str), V.str (Str.ofString "") = .str a ∧ [V.ref p] = [.ref p'] ∧ (SqL K H' p' (ys.map V.str) ∨ SqT K H' p' (ys.map V.str)) ∧ (ys.map (·.length)).sum + ys.length * a.length ≤ 16777216 ∧ Q (.str (Txt.join a ys)) H' := fun p us H' d' s' e' pu => by
    refine ⟨_, p, us.map ch, rfl, rfl, .inl (SqL.of (by rw [← map_vc]; exact e')), tx_joinOk us (by rw [pu.length_eq]; omega), ?_⟩
    rw [tx_join]
    exact q us H' d' s' (ltz.perm pu) (by rw [pu.length_eq]; omega) (by rw [pu.length_eq]; omega)
  have hw : wy = 0 ∨ wy = 1 ∨ wy = 2 ∨ wy = 3 := by omega
  rcases hw with rfl | rfl | rfl | rfl
  · refine ⟨_, rfl, rfl, _, rfl, iteI rfl ?_⟩
    refine ⟨_, rfl, _, rfl, D, ps, zs, rfl, d5, eps, ops, by omega, fun p us H6 d6 s6 e6 p6 o6 => ?_⟩
    refine ⟨_, rfl, rfl, _, rfl, iteJ (by decide) ?_⟩
    refine ⟨_, rfl, rfl, _, rfl, iteJ (by decide) ?_⟩
    exact ⟨rfl, _, rfl, fin p us H6 d6 (s15.trans s6) e6 p6⟩
  · refine ⟨_, rfl, rfl, _, rfl, iteJ (by decide) ?_⟩
    refine ⟨_, rfl, rfl, _, rfl, iteI rfl ?_⟩
    refine ⟨_, rfl, ps, _, rfl, SqL.of eps, fun p np => ?_⟩
    refine ⟨_, rfl, rfl, _, rfl, iteJ (by decide) ?_⟩
    have q6 := same_new np (.lst (zs.map vc).reverse)
    exact ⟨rfl, _, rfl, fin p zs.reverse _ (d5.same q6) (s15.trans (SameD.of q6)) (by rw [upd_same, List.map_reverse]) (List.reverse_perm _)⟩
  · refine ⟨_, rfl, rfl, _, rfl, iteJ (by decide) ?_⟩
    refine ⟨_, rfl, rfl, _, rfl, iteJ (by decide) ?_⟩
    refine ⟨_, rfl, rfl, _, rfl, iteI rfl ?_⟩
    refine ⟨_, rfl, _, rfl, D, ps, zs, rfl, d5, eps, ops, by omega, by omega, fun p us H6 d6 s6 e6 p6 o6 => ?_⟩
    exact ⟨rfl, _, rfl, fin p us H6 d6 (s15.trans s6) e6 p6⟩
  · refine ⟨_, rfl, rfl, _, rfl, iteJ (by decide) ?_⟩
    refine ⟨_, rfl, rfl, _, rfl, iteJ (by decide) ?_⟩
    refine ⟨_, rfl, rfl, _, rfl, iteJ (by decide) ?_⟩
    exact ⟨rfl, _, rfl, fin ps zs H5 d5 s15 eps (List.Perm.refl _)⟩
end
/-! ### trees by inserting -/
def B.ins : B → Nat → B
  | .nil, c => .node .nil c .nil
  | .node l x r, c => if c < x then .node (l.ins c) x r else .node l x (r.ins c)
theorem B.ins_size (t : B) (c : Nat) : (t.ins c).size = t.size + 1 := by
  induction t with
  | nil => rfl
  | node l x r h1 h2 =>
    show (if c < x then B.node (l.ins c) x r else .node l x (r.ins c)).size = l.size + 1 + r.size + 1
    split
    · show (l.ins c).size + 1 + r.size = _
      omega
    · show l.size + 1 + (r.ins c).size = _
      omega
def gr (zs : List Nat) : B := zs.foldl B.ins .nil
theorem foldl_ins_size (zs : List Nat) : ∀ t : B, (zs.foldl B.ins t).size = t.size + zs.length := by
  induction zs with
  | nil => intro t; rfl
  | cons c r ih => intro t; rw [List.foldl_cons, ih, B.ins_size, List.length_cons]; omega
theorem gr_size (zs : List Nat) : (gr zs).size = zs.length := by
  unfold gr
  rw [foldl_ins_size]
  exact Nat.zero_add _
def spPut (n : Nat) : Sp := fun vs H Q _ => ∃ (v : V) (t : B) (c : Nat), vs = [v, .str (ch c)] ∧ BAt H v t ∧ t.size < n ∧ ∀ (v' : V) (H' : Hp), Same H H' → BAt H' v' (t.ins c) → Q v' H'
section
variable {P : Program} {w : World} {K : PySem.W.Frag} {mg : Str → Option Value} {base : Heap} {f : Addr} {fd : FuncData}
theorem ok_put (F : Fun K "_law_put" "_law_put" s__law_put f fd) (b : Binds K fd ["_law_tree", "_law_letter"] []) (g : mg "_law_put" = some (.ref f)) : ∀ n : Nat, FnOk P w K mg base CX0 n f fd ["_law_tree", "_law_letter"] (spPut n)
  | 0 => by
    have no : ∀ vs H Q E, ¬ spPut 0 vs H Q E := fun vs H Q E h => by
      obtain ⟨v, t, c, _, _, h1, _⟩ := h
      omega
    exact ⟨fun vs H Q E h => absurd h (no vs H Q E), fun A outer s H args us vs Q E _ _ _ _ h => absurd h (no vs H Q E)⟩
  | n + 1 => by
    have Dself : Df P w K mg base n "_law_put" ["_law_tree", "_law_letter"] (spPut n) := ⟨f, fd, ok_put F b g n, b, F.kp, g⟩
    refine F.ok sc__law_put (fun vs H Q E h => ?_) (fun cdv A outer s H vs Q E hr h => ?_)
    · obtain ⟨v, t, c, rfl, _⟩ := h
      rfl
    obtain ⟨v, t, c, rfl, hv, hn, q⟩ := h
    refine ⟨_, (pss_cons (ps_if (pt_cmpR op_isN (pv 0) pe_non (nomark _))
      (pss_one (ps_ret (pe_tup (pa_cons pe_non (pa_cons (pv 1) (pa_cons pe_non pa_nil)))))) pss_nil)
    (pss_cons (ps_asg (pv 0) (pg_tup rfl (pgs_cons (pg_name (i := 2) sc__law_put.nd rfl (.inl rfl)) (pgs_cons (pg_name (i := 3) sc__law_put.nd rfl (.inl rfl)) (pgs_cons (pg_name (i := 4) sc__law_put.nd rfl (.inl rfl)) pgs_nil)))))
    (pss_cons (ps_if (pt_cmpR op_lt_str (pv 1) (pv 3) (nomark _))
      (pss_one (ps_ret (pe_tup (pa_cons (pe_call Dself.ok (hr.mono (by omega)) rfl Dself.g Dself.kp Dself.b .nil pass0 (pa_cons (pv 2) (pa_cons (pv 1) pa_nil))) (pa_cons (pv 3) (pa_cons (pv 4) pa_nil)))))) pss_nil)
    (pss_one (ps_ret (pe_tup (pa_cons (pv 2) (pa_cons (pv 3) (pa_cons (pe_call Dself.ok (hr.mono (by omega)) rfl Dself.g Dself.kp Dself.b .nil pass0 (pa_cons (pv 4) (pa_cons (pv 1) pa_nil))) pa_nil))))))))), ?_⟩
    rcases hv.inv with ⟨rfl, rfl⟩ | ⟨a, l, r, x, tl, tr, rfl, rfl, ea, hl, hr'⟩
    · refine ⟨_, rfl, rfl, _, rfl, iteT ?_⟩
      refine ⟨_, rfl, (by show 3 ≤ sizeLine; decide), fun p np => ?_⟩
      exact q _ _ (same_new np _) (.node upd_same .nil .nil)
    · refine ⟨_, rfl, rfl, _, rfl, iteF ?_⟩
      refine ⟨_, rfl, a, _, rfl, SqT.of ea, rfl, _, _, rfl, _, _, rfl, _, _, rfl, rfl, ?_⟩
      have sz : tl.size + 1 + tr.size < n + 1 := hn
      refine ⟨_, rfl, _, rfl, _, _, rfl, rfl, _, rfl, ?_⟩
      rw [ch_lt]
      have ei : (B.node tl x tr).ins c = if c < x then .node (tl.ins c) x tr else .node tl x (tr.ins c) := rfl
      rw [ei] at q
      by_cases hc : c < x
      · rw [decide_eq_true hc]
        rw [if_pos hc] at q
        refine iteT ?_
        refine ⟨_, rfl, _, rfl, l, tl, c, rfl, hl, by omega, fun v' H' s' h' => ?_⟩
        refine ⟨_, rfl, _, rfl, (by show 3 ≤ sizeLine; decide), fun p np => ?_⟩
        have sn := same_new np (.tup [v', .str (ch x), r])
        exact q _ _ (s'.trans sn) (.node upd_same (h'.same sn) ((hr'.same s').same sn))
      · rw [decide_eq_false hc]
        rw [if_neg hc] at q
        refine iteF ?_
        refine ⟨_, rfl, _, rfl, _, rfl, _, rfl, r, tr, c, rfl, hr', by omega, fun v' H' s' h' => ?_⟩
        refine ⟨(by show 3 ≤ sizeLine; decide), fun p np => ?_⟩
        have sn := same_new np (.tup [l, .str (ch x), v'])
        exact q _ _ (s'.trans sn) (.node upd_same ((hl.same s').same sn) (h'.same sn))
def spAhead (n : Nat) : Sp := fun vs H Q _ => ∃ (v : V) (t : B), vs = [v] ∧ BAt H v t ∧ t.size < n ∧ t.size ≤ 900 ∧ Q (.str (tx t.pre)) H
theorem ok_ahead (F : Fun K "_law_ahead" "_law_ahead" s__law_ahead f fd) (b : Binds K fd ["_law_tree"] []) (g : mg "_law_ahead" = some (.ref f)) : ∀ n : Nat, FnOk P w K mg base CX0 n f fd ["_law_tree"] (spAhead n)
  | 0 => by
    have no : ∀ vs H Q E, ¬ spAhead 0 vs H Q E := fun vs H Q E h => by
      obtain ⟨v, t, _, _, h1, _⟩ := h
      omega
    exact ⟨fun vs H Q E h => absurd h (no vs H Q E), fun A outer s H args us vs Q E _ _ _ _ h => absurd h (no vs H Q E)⟩
  | n + 1 => by
    have Dself : Df P w K mg base n "_law_ahead" ["_law_tree"] (spAhead n) := ⟨f, fd, ok_ahead F b g n, b, F.kp, g⟩
    refine F.ok sc__law_ahead (fun vs H Q E h => ?_) (fun cdv A outer s H vs Q E hr h => ?_)
    · obtain ⟨v, t, rfl, _⟩ := h
      rfl
    obtain ⟨v, t, rfl, hv, hn, h9, q⟩ := h
    refine ⟨_, (pss_cons (ps_if (pt_cmpR op_isN (pv 0) pe_non (nomark _))
      (pss_one (ps_ret pe_str)) pss_nil)
    (pss_cons (ps_asg (pv 0) (pg_tup rfl (pgs_cons (pg_name (i := 1) sc__law_ahead.nd rfl (.inl rfl)) (pgs_cons (pg_name (i := 2) sc__law_ahead.nd rfl (.inl rfl)) (pgs_cons (pg_name (i := 3) sc__law_ahead.nd rfl (.inl rfl)) pgs_nil)))))
    (pss_one (ps_ret (pe_op op_add_str (pe_op op_add_str (pv 2) (pe_call Dself.ok (hr.mono (by omega)) rfl Dself.g Dself.kp Dself.b .nil pass0 (pa_cons (pv 1) pa_nil))) (pe_call Dself.ok (hr.mono (by omega)) rfl Dself.g Dself.kp Dself.b .nil pass0 (pa_cons (pv 3) pa_nil))))))), ?_⟩
    rcases hv.inv with ⟨rfl, rfl⟩ | ⟨a, l, r, x, tl, tr, rfl, rfl, ea, hl, hr'⟩
    · exact ⟨_, rfl, rfl, _, rfl, iteT q⟩
    · refine ⟨_, rfl, rfl, _, rfl, iteF ?_⟩
      refine ⟨_, rfl, a, _, rfl, SqT.of ea, rfl, _, _, rfl, _, _, rfl, _, _, rfl, rfl, ?_⟩
      have sz : tl.size + 1 + tr.size < n + 1 := hn
      have sz9 : tl.size + 1 + tr.size ≤ 900 := h9
      have p1 := tl.pre_len
      have p2 := tr.pre_len
      refine ⟨_, rfl, _, rfl, l, tl, rfl, hl, by omega, by omega, _, _, rfl, rfl, ?_, ?_⟩
      · rw [tx_len, p1]; exact small (by show 1 + _ ≤ 1000; omega)
      rw [ch_app]
      refine ⟨_, rfl, r, tr, rfl, hr', by omega, by omega, _, _, rfl, rfl, ?_, ?_⟩
      · rw [tx_len, tx_len, List.length_cons, p1, p2]; exact small (by omega)
      rw [tx_app]
      exact q
def spGr : Sp := fun vs H Q _ => ∃ zs : List Nat, vs = [.str (tx zs)] ∧ zs.length ≤ 30 ∧ ∀ (v : V) (H' : Hp), Same H H' → BAt H' v (gr zs) → Q v H'
theorem take_next {zs : List Nat} {i c : Nat} (h : zs[i]? = some c) : zs.take (i + 1) = zs.take i ++ [c] := by
  rw [List.take_succ, h]
  rfl
theorem ok_grown (F : Fun K "_law_grown" "_law_grown" s__law_grown f fd) (D_law_put : Df P w K mg base 40 "_law_put" ["_law_tree", "_law_letter"] (spPut 40)) : FnOk P w K mg base CX0 41 f fd ["_law_order_here"] spGr := by
  refine F.ok sc__law_grown (fun vs H Q E h => ?_) (fun cdv A outer s H vs Q E hr h => ?_)
  · obtain ⟨zs, rfl, _⟩ := h
    rfl
  obtain ⟨zs, rfl, hl, q⟩ := h
  refine ⟨_, (pss_cons (ps_set (i := 1) sc__law_grown.nd rfl (.inl rfl) pe_non)
    (pss_cons (ps_for PassesOwn.never rfl (pi_str (pv 0)) (pg_name (i := 2) sc__law_grown.nd rfl (.inl rfl))
      (pss_one (ps_set (i := 1) sc__law_grown.nd rfl (.inl rfl) (pe_call D_law_put.ok (hr.mono (by omega)) rfl D_law_put.g D_law_put.kp D_law_put.b .nil pass0 (pa_cons (pv 1) (pa_cons (pv 2) pa_nil))))))
    (pss_one (ps_ret (pv 1))))), ?_⟩
  refine ⟨_, rfl, _, rfl, ?_⟩
  refine for_text (x := tx zs) (fun i σ H' => ∃ (v : V) (c : Option V), σ = [some (.str (tx zs)), some v, c] ∧ Same H H' ∧ BAt H' v (gr (zs.take i))) ⟨_, _, rfl, Same.refl H, .nil⟩ (fun i c σ H' hc hp => ?_) (fun σ H' hp => ?_)
  · obtain ⟨v, c', rfl, s', h'⟩ := hp
    rw [tx_cps] at hc
    have hi := (List.getElem?_eq_some_iff.mp hc).1
    refine ⟨_, rfl, _, rfl, v, gr (zs.take i), c, rfl, h', ?_, fun v2 H2 s2 h2 => ?_⟩
    · rw [gr_size, List.length_take]; omega
    refine ⟨v2, _, rfl, s'.trans s2, ?_⟩
    rw [take_next hc]
    unfold gr at h2 ⊢
    rw [List.foldl_append]
    exact h2
  · obtain ⟨v, c', rfl, s', h'⟩ := hp
    rw [tx_cps, List.take_length] at h'
    exact ⟨_, rfl, q v H' s' h'⟩
end
/-! ### _law_same, of equal data -/
theorem sqT_same {K : PySem.W.Frag} {H H' : Hp} {a : Addr} {xs : List V} (e : Same H H') (h : SqT K H a xs) : SqT K H' a xs := by
  rcases h with (h | ⟨o, h⟩) | h
  · exact .inl (.inl (e _ _ h))
  · exact .inl (.inr ⟨o, e _ _ h⟩)
  · exact .inr h
mutual
theorem dp_same {K : PySem.W.Frag} {H H' : Hp} (e : Same H H') : ∀ {v : V} {d : PyData}, Dp K H v d → Dp K H' v d
  | _, _, .non => .non
  | _, _, .bl b => .bl b
  | _, _, .int i => .int i
  | _, _, .str x => .str x
  | _, _, .lst h a => .lst (e.seq h) (dpAll_same e a)
  | _, _, .tup h a => .tup (sqT_same e h) (dpAll_same e a)
theorem dpAll_same {K : PySem.W.Frag} {H H' : Hp} (e : Same H H') : ∀ {vs : List V} {ds : List PyData}, DpAll K H vs ds → DpAll K H' vs ds
  | _, _, .nil => .nil
  | _, _, .cons h a => .cons (dp_same e h) (dpAll_same e a)
end
theorem dpAll_len {K : PySem.W.Frag} {H : Hp} : ∀ {vs : List V} {ds : List PyData}, DpAll K H vs ds → vs.length = ds.length
  | _, _, .nil => rfl
  | _, _, .cons _ a => congrArg (· + 1) (dpAll_len a)
theorem dpAll_get {K : PySem.W.Frag} {H : Hp} : ∀ {vs : List V} {ds : List PyData} {i : Nat} {d : PyData}, DpAll K H vs ds → ds[i]? = some d → ∃ v, vs[i]? = some v ∧ Dp K H v d
  | _, _, _, _, .nil, h => by simp at h
  | _, _, 0, _, .cons h _, e => by
    cases e
    exact ⟨_, rfl, h⟩
  | _, _, i + 1, _, .cons _ a, e => dpAll_get (i := i) a e
def tyD : PyData → String
  | .none => "NoneType"
  | .bool _ => "bool"
  | .int _ => "int"
  | .str _ => "str"
  | .list _ => "list"
  | .tuple _ => "tuple"
  | .dict _ => "dict"
theorem dp_ty {K : PySem.W.Frag} {H : Hp} {v : V} {d : PyData} (h : Dp K H v d) : TyX K H v (.type (tyD d)) := by
  cases h with
  | non => exact .base .non
  | bl b => exact .base (.bl b)
  | int i => exact .base (.int i)
  | str x => exact .base (.str x)
  | lst h _ =>
    rcases h with (h | ⟨o, h⟩) | ⟨o, its, n, h, hc, _⟩
    · exact .base (.lst h)
    · exact .base (.frz h)
    · exact .kList h hc
  | tup h _ =>
    rcases h with (h | ⟨o, h⟩) | ⟨o, its, n, h, hc, _⟩
    · exact .base (.tup h)
    · exact .fTuple h
    · exact .kTuple h hc
theorem kit_lt {K : PySem.W.Frag} {a : String} {r s : Bool} (h1 : kitB a "list" = some r) (h2 : kitB a "tuple" = some s) : PySem.W.kitAny K (.type a) [.type "list", .type "tuple"] = some (r || s) := by
  refine kitAny_cons (kit_ty h1) (fun e => kitAny_cons (kit_ty h2) (fun e2 => ?_) fun e2 => ?_) fun e => ?_
  · rw [kitAny_nil, e, e2]; rfl
  · rw [e2, Bool.or_true]
  · rw [e, Bool.true_or]
theorem depth_get : ∀ {ds : List PyData} {i : Nat} {d : PyData}, ds[i]? = some d → d.depth ≤ PyData.depthAll ds
  | [], _, _, h => by simp at h
  | x :: xs, 0, _, h => by
    cases h
    simp only [PyData.depthAll]
    omega
  | x :: xs, i + 1, d, h => by
    have := depth_get (ds := xs) (i := i) h
    simp only [PyData.depthAll]
    omega
mutual
def nar : PyData → Bool
  | .list xs => decide (xs.length ≤ 1000000) && narAll xs
  | .tuple xs => decide (xs.length ≤ 1000000) && narAll xs
  | .dict _ => false
  | .none => true
  | .bool _ => true
  | .int _ => true
  | .str _ => true
def narAll : List PyData → Bool
  | [] => true
  | x :: xs => nar x && narAll xs
end
theorem nar_get : ∀ {ds : List PyData} {i : Nat} {d : PyData}, ds[i]? = some d → narAll ds = true → nar d = true
  | [], _, _, h, _ => by simp at h
  | x :: xs, 0, _, h, k => by
    cases h
    simp only [narAll, Bool.and_eq_true] at k
    exact k.1
  | x :: xs, i + 1, d, h, k => by
    simp only [narAll, Bool.and_eq_true] at k
    exact nar_get (ds := xs) (i := i) h k.2
def spSame (K : PySem.W.Frag) (n : Nat) : Sp := fun vs H Q _ => ∃ (v v' : V) (d : PyData), vs = [v, v'] ∧ Dp K H v d ∧ Dp K H v' d ∧ d.depth < n ∧ nar d = true ∧ ∀ H', Same H H' → Q (.bl true) H'
theorem dp_two {K : PySem.W.Frag} {H : Hp} {v v' : V} {d : PyData} {n : Nat} (h : Dp K H v d) (h' : Dp K H v' d) (hd : d.depth < n + 1) (hn : nar d = true) :
    (∃ (p p' : Addr) (xs xs' : List V) (ds : List PyData) (bl : Bool) (ty : String), v = .ref p ∧ v' = .ref p' ∧ (SqL K H p xs ∨ SqT K H p xs) ∧ (SqL K H p' xs' ∨ SqT K H p' xs') ∧ DpAll K H xs ds ∧ DpAll K H xs' ds ∧
      TyX K H v (.type ty) ∧ TyX K H v' (.type ty) ∧ kitB ty "list" = some bl ∧ kitB ty "tuple" = some (!bl) ∧ PyData.depthAll ds < n ∧ ds.length ≤ 1000000 ∧ narAll ds = true) ∨ (v = v' ∧ (v = .non ∨ (∃ b, v = .bl b) ∨ (∃ i, v = .int i) ∨ ∃ x, v = .str x)) := by
  have t1 := dp_ty h
  have t2 := dp_ty h'
  cases h with
  | non =>
    cases h'
    exact .inr ⟨rfl, .inl rfl⟩
  | bl b =>
    cases h'
    exact .inr ⟨rfl, .inr (.inl ⟨b, rfl⟩)⟩
  | int b =>
    cases h'
    exact .inr ⟨rfl, .inr (.inr (.inl ⟨b, rfl⟩))⟩
  | str b =>
    cases h'
    exact .inr ⟨rfl, .inr (.inr (.inr ⟨b, rfl⟩))⟩
  | lst h a =>
    cases h' with
    | lst h' a' =>
      simp only [PyData.depth] at hd
      simp only [nar, Bool.and_eq_true, decide_eq_true_eq] at hn
      exact .inl ⟨_, _, _, _, _, true, "list", rfl, rfl, .inl h, .inl h', a, a', t1, t2, by decide +kernel, by decide +kernel, by omega, hn.1, hn.2⟩
  | tup h a =>
    cases h' with
    | tup h' a' =>
      simp only [PyData.depth] at hd
      simp only [nar, Bool.and_eq_true, decide_eq_true_eq] at hn
      exact .inl ⟨_, _, _, _, _, false, "tuple", rfl, rfl, .inr h, .inr h', a, a', t1, t2, by decide +kernel, by decide +kernel, by omega, hn.1, hn.2⟩
theorem seq_same {K : PySem.W.Frag} {H H' : Hp} {p : Addr} {xs : List V} (e : Same H H') (h : SqL K H p xs ∨ SqT K H p xs) : SqL K H' p xs ∨ SqT K H' p xs := h.elim (fun h => .inl (e.seq h)) fun h => .inr (sqT_same e h)
theorem seq_ix {K : PySem.W.Frag} {H : Hp} {p : Addr} {xs : List V} {i : Int} {v : V} {Q : VK} (h : SqL K H p xs ∨ SqT K H p xs) (a : atI xs i = some v) (q : Q v H) : rIx K (.ref p) (.int i) H Q :=
  h.elim (fun h => .inl ⟨p, xs, i, v, rfl, rfl, h, a, q⟩) fun h => .inr (.inl ⟨p, xs, i, v, rfl, rfl, h, a, q⟩)
theorem tyX_same {K : PySem.W.Frag} {H H' : Hp} {v : V} {d : PyData} (e : Same H H') (h : Dp K H v d) : TyX K H' v (.type (tyD d)) := dp_ty (dp_same e h)
section
variable {P : Program} {w : World} {K : PySem.W.Frag} {mg : Str → Option Value} {base : Heap} {f : Addr} {fd : FuncData}
theorem kit_tl {K : PySem.W.Frag} {a : String} {r s : Bool} (h1 : kitB a "list" = some r) (h2 : kitB a "tuple" = some s) : PySem.W.kitAny K (.type a) [.type "tuple", .type "list"] = some (r || s) := by
  refine kitAny_cons (kit_ty h2) (fun e => kitAny_cons (kit_ty h1) (fun e2 => ?_) fun e2 => ?_) fun e => ?_
  · rw [kitAny_nil, e, e2]; rfl
  · rw [e2, Bool.true_or]
  · rw [e, Bool.or_true]
theorem ok_same (F : Fun K "_law_same" "_law_same" s__law_same f fd) (b : Binds K fd ["_law_found", "_law_due"] []) (g : mg "_law_same" = some (.ref f)) (M : Mgs mg) : ∀ n : Nat, FnOk P w K mg base CX0 n f fd ["_law_found", "_law_due"] (spSame K n)
  | 0 => by
    have no : ∀ vs H Q E, ¬ spSame K 0 vs H Q E := fun vs H Q E h => by
      obtain ⟨v, t, d, _, _, _, h1, _, _⟩ := h
      omega
    exact ⟨fun vs H Q E h => absurd h (no vs H Q E), fun A outer s H args us vs Q E _ _ _ _ h => absurd h (no vs H Q E)⟩
  | n + 1 => by
    have Dself : Df P w K mg base n "_law_same" ["_law_found", "_law_due"] (spSame K n) := ⟨f, fd, ok_same F b g M n, b, F.kp, g⟩
    refine F.ok sc__law_same (fun vs H Q E h => ?_) (fun cdv A outer s H vs Q E hr h => ?_)
    · obtain ⟨v, t, d, rfl, _⟩ := h
      rfl
    obtain ⟨v, v', d, rfl, hv, hv', hd, hna, q⟩ := h
    refine ⟨_, (pss_cons (ps_if (pt_val (pe_callB call_isiT rfl M.isinstance (by decide +kernel) (pa_cons (pv 1) (pa_cons (pe_tup (pa_cons (pe_bltn (v := .ty "tuple") rfl M.tuple (by decide +kernel) rfl) (pa_cons (pe_bltn (v := .ty "list") rfl M.list (by decide +kernel) rfl) pa_nil))) pa_nil))))
      (pss_cons (ps_if (pt_cmpR op_ne (pe_callB call_isi rfl M.isinstance (by decide +kernel) (pa_cons (pv 0) (pa_cons (pe_bltn (v := .ty "tuple") rfl M.tuple (by decide +kernel) rfl) pa_nil))) (pe_callB call_isi rfl M.isinstance (by decide +kernel) (pa_cons (pv 1) (pa_cons (pe_bltn (v := .ty "tuple") rfl M.tuple (by decide +kernel) rfl) pa_nil))) (nomark _))
      (pss_one (ps_ret pe_bl)) pss_nil)
    (pss_cons (ps_if (PW.pt (pw_or (pt_cmpR op_ne (pe_callB call_isi rfl M.isinstance (by decide +kernel) (pa_cons (pv 0) (pa_cons (pe_bltn (v := .ty "list") rfl M.list (by decide +kernel) rfl) pa_nil))) (pe_callB call_isi rfl M.isinstance (by decide +kernel) (pa_cons (pv 1) (pa_cons (pe_bltn (v := .ty "list") rfl M.list (by decide +kernel) rfl) pa_nil))) (nomark _)) (pw_or1 (pt_cmpR op_ne (pe_callB call_len_seq rfl M.len PySem.boot_len (pa_cons (pv 0) pa_nil)) (pe_callB call_len_seq rfl M.len PySem.boot_len (pa_cons (pv 1) pa_nil)) (nomark _)))))
      (pss_one (ps_ret pe_bl)) pss_nil)
    (pss_one (ps_ret (pe_cmpR (op_eqD hr.units) (pe_lc (own := [("_law_k", 2)]) (g := gName 2) rfl sc__law_same.nd (pi_range1 rfl M.range (pa_cons (pe_callB call_len_seq rfl M.len PySem.boot_len (pa_cons (pv 1) pa_nil)) pa_nil)) (blkOk_by (N := ["_law_found", "_law_due", "_law_k"]) (sc := defScope s__law_same) (by decide +kernel)) (fun _ _ _ _ _ => (pg_name (i := 2) sc__law_same.nd rfl (.inl rfl))) (fun _ _ _ _ _ => pts_one (pt_not (pt_val (pe_call Dself.ok (hr.mono (by omega)) rfl Dself.g Dself.kp Dself.b .nil pass0 (pa_cons (pe_ix (show IxR _ (rIx K) from ix_seq) (pv 0) (pv 2) (fun _ _ => rfl)) (pa_cons (pe_ix (show IxR _ (rIx K) from ix_seq) (pv 1) (pv 2) (fun _ _ => rfl)) pa_nil)))))) (fun _ _ _ _ _ => (pv 2))) (pe_lst pa_nil) (nomark _)))))) pss_nil)
    (pss_cons (ps_if (pt_val (pe_callB call_isi rfl M.isinstance (by decide +kernel) (pa_cons (pv 1) (pa_cons (pe_bltn (v := .ty "dict") rfl M.dict (by decide +kernel) rfl) pa_nil))))
      (pss_one ps_never) pss_nil)
    (pss_cons (ps_if (pt_cmpR op_isN (pv 1) pe_non (nomark _))
      (pss_one (ps_ret (pe_cmpR op_isN (pv 0) pe_non (nomark _)))) pss_nil)
    (pss_cons (ps_if (pt_val (pe_callB call_isi rfl M.isinstance (by decide +kernel) (pa_cons (pv 1) (pa_cons (pe_bltn (v := .ty "str") rfl M.str (by decide +kernel) rfl) pa_nil))))
      (pss_one (ps_ret (pe_and (pe_callB call_isi rfl M.isinstance (by decide +kernel) (pa_cons (pv 0) (pa_cons (pe_bltn (v := .ty "str") rfl M.str (by decide +kernel) rfl) pa_nil))) (pe_one (pe_cmpR op_eq (pv 0) (pv 1) (nomark _)))))) pss_nil)
    (pss_one (ps_ret (pe_and (pe_callB call_isi rfl M.isinstance (by decide +kernel) (pa_cons (pv 0) (pa_cons (pe_bltn (v := .ty "int") rfl M.int (by decide +kernel) rfl) pa_nil))) (pe_and (pe_cmpR op_eq (pe_callB call_isi rfl M.isinstance (by decide +kernel) (pa_cons (pv 0) (pa_cons (pe_bltn (v := .ty "bool") rfl M.bool (by decide +kernel) rfl) pa_nil))) (pe_callB call_isi rfl M.isinstance (by decide +kernel) (pa_cons (pv 1) (pa_cons (pe_bltn (v := .ty "bool") rfl M.bool (by decide +kernel) rfl) pa_nil))) (nomark _)) (pe_one (pe_cmpR op_eq (pv 0) (pv 1) (nomark _))))))))))), ?_⟩
    refine ⟨v', rfl, (by show 2 ≤ sizeLine; decide), fun tp np => ?_⟩
    have s1 := same_new np (.tup [.ty "tuple", .ty "list"])
    have hw := dp_same s1 hv
    have hw' := dp_same s1 hv'
    have pr : Paired ClsV [V.ty "tuple", V.ty "list"] [Value.type "tuple", Value.type "list"] := .cons (.ty _) (.cons (.ty _) .nil)
    rcases dp_two hw hw' hd hna with ⟨p, p', xs, xs', ds, bl, ty, rfl, rfl, hq, hq', ha, ha', ht, ht', k1, k2, hdd, hwl, hwn⟩ | ⟨rfl, hk⟩
    · have ka : PySem.W.kitAny K (.type ty) [.type "tuple", .type "list"] = some true := by
        rw [kit_tl k1 k2]
        cases bl <;> rfl
      have hl := dpAll_len ha
      have hl' := dpAll_len ha'
      refine ⟨_, tp, _, _, _, true, rfl, upd_same, pr, ht', ka, _, rfl, iteT ?_⟩
      refine ⟨_, rfl, _, _, _, _, !bl, rfl, .ty _, ht, kit_ty k2, _, rfl, _, _, _, _, !bl, rfl, .ty _, ht', kit_ty k2, by cases bl <;> rfl, _, rfl, iteNS rfl ?_⟩
      refine ⟨_, rfl, _, _, _, _, bl, rfl, .ty _, ht, kit_ty k1, _, rfl, _, _, _, _, bl, rfl, .ty _, ht', kit_ty k1, by cases bl <;> rfl, _, rfl, iteNS rfl ?_⟩
      refine ⟨_, rfl, p, xs, rfl, hq, _, rfl, p', xs', rfl, hq', rfl, _, rfl, iteNS (by rw [hl, hl']) ?_⟩
      refine ⟨_, rfl, p', xs', rfl, hq', _, rfl, ?_, ?_, fun D nD => ?_⟩
      · omega
      · omega
      have s2 := same_new nD (.lst [])
      rw [Int.toNat_natCast]
      refine lc_range (lo := 0) (n := xs'.length) (fun i H' => Same (upd H tp (.tup [.ty "tuple", .ty "list"])) H' ∧ H' D = some (.lst [])) ⟨s2, upd_same⟩ (fun i H' hi hp => ?_) (fun H' hp => ?_)
      · obtain ⟨sm, eD⟩ := hp
        obtain ⟨di, edi⟩ : ∃ di, ds[i]? = some di := ⟨_, List.getElem?_eq_getElem (by omega)⟩
        obtain ⟨x, ex, hx⟩ := dpAll_get ha edi
        obtain ⟨x', ex', hx'⟩ := dpAll_get ha' edi
        have hdi := depth_get edi
        have e0 : (0 : Int) + (i : Int) = ((i : Nat) : Int) := by omega
        rw [e0]
        refine ⟨rfl, ?_⟩
        refine ⟨_, rfl, _, rfl, seq_ix (seq_same sm hq) (atI_nat ex) ⟨_, rfl, _, rfl, seq_ix (seq_same sm hq') (atI_nat ex') ⟨x, x', di, rfl, dp_same sm hx, dp_same sm hx', by omega, nar_get edi hwn, fun H'' s'' => ?_⟩⟩⟩
        exact ⟨_, rfl, iteF ⟨sm.trans s'', s'' _ _ eD⟩⟩
      · obtain ⟨sm, eD⟩ := hp
        refine ⟨(by show 0 ≤ sizeLine; decide), fun e ne => ?_⟩
        refine ⟨.list [], .list [], .lst (SqL.of ((same_new ne _) _ _ eD)) .nil, .lst (SqL.of upd_same) .nil, rfl, rfl, ?_⟩
        exact q _ (s1.trans (sm.trans (same_new ne _)))
    · have fin := q _ s1
      rcases hk with rfl | ⟨c, rfl⟩ | ⟨c, rfl⟩ | ⟨c, rfl⟩
      · refine ⟨_, tp, _, _, _, false, rfl, upd_same, pr, .base .non, kit_tl (r := false) (s := false) (by decide +kernel) (by decide +kernel), _, rfl, iteF ?_⟩
        refine ⟨_, rfl, _, _, _, _, false, rfl, .ty _, .base .non, kit_ty (by decide +kernel), _, rfl, iteF ?_⟩
        refine ⟨_, rfl, rfl, _, rfl, iteT ?_⟩
        exact ⟨_, rfl, rfl, fin⟩
      · refine ⟨_, tp, _, _, _, false, rfl, upd_same, pr, .base (.bl c), kit_tl (r := false) (s := false) (by decide +kernel) (by decide +kernel), _, rfl, iteF ?_⟩
        refine ⟨_, rfl, _, _, _, _, false, rfl, .ty _, .base (.bl c), kit_ty (by decide +kernel), _, rfl, iteF ?_⟩
        refine ⟨_, rfl, rfl, _, rfl, iteF ?_⟩
        refine ⟨_, rfl, _, _, _, _, false, rfl, .ty _, .base (.bl c), kit_ty (by decide +kernel), _, rfl, iteF ?_⟩
        refine ⟨_, rfl, _, _, _, _, true, rfl, .ty _, .base (.bl c), kit_ty (by decide +kernel), _, rfl, iteT ?_⟩
        refine ⟨_, rfl, _, _, _, _, true, rfl, .ty _, .base (.bl c), kit_ty (by decide +kernel), _, rfl, _, _, _, _, true, rfl, .ty _, .base (.bl c), kit_ty (by decide +kernel), rfl, _, rfl, iteT ?_⟩
        refine ⟨_, rfl, _, rfl, by cases c <;> rfl, ?_⟩
        rw [decide_eq_true rfl]
        exact fin
      · refine ⟨_, tp, _, _, _, false, rfl, upd_same, pr, .base (.int c), kit_tl (r := false) (s := false) (by decide +kernel) (by decide +kernel), _, rfl, iteF ?_⟩
        refine ⟨_, rfl, _, _, _, _, false, rfl, .ty _, .base (.int c), kit_ty (by decide +kernel), _, rfl, iteF ?_⟩
        refine ⟨_, rfl, rfl, _, rfl, iteF ?_⟩
        refine ⟨_, rfl, _, _, _, _, false, rfl, .ty _, .base (.int c), kit_ty (by decide +kernel), _, rfl, iteF ?_⟩
        refine ⟨_, rfl, _, _, _, _, true, rfl, .ty _, .base (.int c), kit_ty (by decide +kernel), _, rfl, iteT ?_⟩
        refine ⟨_, rfl, _, _, _, _, false, rfl, .ty _, .base (.int c), kit_ty (by decide +kernel), _, rfl, _, _, _, _, false, rfl, .ty _, .base (.int c), kit_ty (by decide +kernel), rfl, _, rfl, iteT ?_⟩
        refine ⟨_, rfl, _, rfl, rfl, ?_⟩
        rw [decide_eq_true rfl]
        exact fin
      · refine ⟨_, tp, _, _, _, false, rfl, upd_same, pr, .base (.str c), kit_tl (r := false) (s := false) (by decide +kernel) (by decide +kernel), _, rfl, iteF ?_⟩
        refine ⟨_, rfl, _, _, _, _, false, rfl, .ty _, .base (.str c), kit_ty (by decide +kernel), _, rfl, iteF ?_⟩
        refine ⟨_, rfl, rfl, _, rfl, iteF ?_⟩
        refine ⟨_, rfl, _, _, _, _, true, rfl, .ty _, .base (.str c), kit_ty (by decide +kernel), _, rfl, iteT ?_⟩
        refine ⟨_, rfl, _, _, _, _, true, rfl, .ty _, .base (.str c), kit_ty (by decide +kernel), _, rfl, iteT ?_⟩
        refine ⟨_, rfl, _, rfl, rfl, ?_⟩
        rw [decide_eq_true rfl]
        exact fin
end
/-! ### a def entered at one caller -/
theorem enter_def {P : Program} {w : World} {K : PySem.W.Frag} {mg : Str → Option Value} {base : Heap} {f : Addr} {fd : FuncData} {N ps : List Str} {k : Nat} {x qual : Str} {st : Stmt} (F : Fun K x qual st f fd) (S : FnScope N ps (defScope st))
    {A : Around} {outer : List Env} {s : Shared} {H : Hp} {args : Args} {us : List Value} {vs : List V} {Q : VK} {E : XK}
    (room : Room (k + 1) A) (en : Env0 P w K mg base A outer s H) (bd : BindsTo s fd args (ps.zip us)) (rel : Vals vs us) (hln : vs.length = ps.length)
    (body : ∀ cdv : Value, Room k (A.deeper (envOfC qual (defScope st) s.heap.objs.size f cdv)) →
      ∃ t, PSs (cxOf CX0 P w K mg base N qual (defScope st) f cdv A outer s H E).nox (defBody st) t ∧ t { nx := fun _ H' => Q .non H', rt := Q } (start N vs) H) :
    codeAny (model P w) A (.call (.ref f) args) (CR CX0 outer P w H s Q E) s := by
  obtain ⟨oc, od, kV, doc, pm, an, cdv, ct, osl, rfl, look, code⟩ := F.ex
  have still : ∀ b o, base.get? b = some o → s.heap.get? b = some o := fun b o e => (en.bs b o e).1
  have inK : K.In s.heap := en.mod.kin.keeps still
  have noL : s.heap.NoLimit := en.mod.nolimit.keeps still
  have kinds : ∀ y ∈ ps.zip us, (defScope st).names.lookup y.1 = some .local ∨
      ((defScope st).names.lookup y.1 = some .cell ∧ ((cellsFrom (s.heap.objs.size + 1) (defScope st).names []).lookup y.1).isSome = true) := by
    rintro ⟨nm, u⟩ hy
    cases S.par nm (List.of_mem_zip hy).1 with
    | inl z => exact .inl z
    | inr z => exact .inr ⟨z, PySem.W.cellsFrom_some _ _ _ (.inl z)⟩
  have step := codeAny_call_function (prog := P) (w := w) (A := A) (s := s) room.depth (inK _ _ look) rfl S.co S.gen rfl (PySem.W.codeRec_of inK code)
    (R := CR CX0 outer P w H s Q E) (args := args)
  refine step (bd _ _ _ _ ?_)
  refine wpAny_newFunctionEnv_cells S.kind kinds ?_
  intro env isEnv s1 inC
  subst isEnv
  refine ⟨noL.keeps inC.toInCall.keep, codeAny_func ?_⟩
  obtain ⟨t, ht, hq⟩ := body cdv (room.deeper _)
  have J : Inv (cxOf CX0 P w K mg base N qual (defScope st) f cdv A outer s H E) [] (start N vs) H s1 := inv_start S room.hd en hln rel inC
  refine wpAny_mono (ht.nox.run [] s1 (start N vs) H _ J hq) ?_ ?_
  · intro fl s' done
    cases fl with
    | ret u =>
      obtain ⟨v, σ', H', I', rv, qv⟩ := done
      exact ⟨v, H', I'.os, I'.bare, I'.base, I'.hok, rv, qv⟩
    | next =>
      obtain ⟨σ', H', I', qv⟩ := done
      exact ⟨V.non, H', I'.os, I'.bare, I'.base, I'.hok, rfl, qv⟩
    | brk => exact done.elim fun _ z => z.elim fun _ z => z.2.elim
    | cont => exact done.elim fun _ z => z.elim fun _ z => z.2.elim
  · intro e s' z
    exact z
/-! ### the law's own call -/
theorem law_at {P : Program} {w : World} {K : PySem.W.Frag} {mg mb : Str → Option Value} {fa a : Addr} {s₁ : Shared} {vs : List Value} {ns : List Int}
    (inK : K.In s₁.heap) (gl : s₁.heap.Ns mainGlobals mg) (bl : s₁.heap.Ns builtinsNs mb) (isB : ∀ x : Str, x ≠ "__name__" → mb x = bootBuiltins x) (lim : s₁.heap.NoLimit) (gens : s₁.gens = #[])
    (obj : s₁.heap.get? a = some { cls := .type "list", data := .seq vs.toArray }) (hints : IntsAre vs ns) (few : ns.length ≤ sizeLine)
    (run : ∀ (base : Heap) (H : Hp), K.In base → base.Ns mainGlobals mg → Env0 P w K mg base callerA [] s₁ H → SqL K H a (ns.map V.int) →
      codeAny (model P w) callerA (.call (.ref fa) ⟨[.ref a], []⟩) (CR CX0 [] P w H s₁ (fun v _ => v = .bl true) fun _ _ _ => False) s₁) :
    codeAny (model P w) callerA (.call (.ref fa) ⟨[.ref a], []⟩) (fun r s' => r = .ok (.ret (.bool true)) ∧ OldK s₁.heap s'.heap ∧ s'.os = s₁.os ∧ AllBare s'.gens) s₁ := by
  have rel := vals_ints hints
  have lens := hints.length
  have found : ∃ H : Hp, Only H ∧ SqL K H a (ns.map V.int) ∧ HOk P w H s₁.heap ∧ (∀ b u, H b = some u → b = a ∧ K.lookup a = none) := by
    cases inText : K.lookup a with
    | some o =>
      have same := inK a o inText
      rw [obj] at same
      cases same
      have never : ∀ (u : HO), (none : Option HO) ≠ some u := fun u z => by cases z
      refine ⟨fun _ => none, fun _ => .inl rfl, ?_, (fun b u z => (never u z).elim), (fun b u z => (never u z).elim)⟩
      refine .inr ⟨_, vs.toArray, _, inText, rfl, rfl, rfl, ?_, ?_⟩
      · rw [List.size_toArray, lens]
        exact few
      · rw [List.toList_toArray]
        exact rel
    | none =>
      let here : HO := .frz { cls := .type "list", data := .seq vs.toArray } (.lst (ns.map V.int))
      have only : ∀ b u, (if b = a then some here else none) = some u → b = a ∧ u = here := fun b u z => by
        by_cases hb : b = a
        · rw [if_pos hb] at z
          exact ⟨hb, (Option.some.inj z).symm⟩
        · rw [if_neg hb] at z
          cases z
      refine ⟨fun b => if b = a then some here else none, fun b => ?_, .inl (.inr ⟨{ cls := .type "list", data := .seq vs.toArray }, if_pos rfl⟩), fun b u z => ?_, fun b u z => ⟨(only b u z).1, rfl⟩⟩
      · by_cases hb : b = a
        · exact .inr ⟨_, _, if_pos hb⟩
        · exact .inl (if_neg hb)
      · obtain ⟨rfl, rfl⟩ := only b u z
        exact ⟨obj, by rw [List.length_map]; exact few, vs, _, rel, obj⟩
  obtain ⟨H, hO, hS, hok, hA⟩ := found
  have under : ∀ {b : Addr} {o : Obj}, s₁.heap.get? b = some o → H b = none → (hidT s₁.heap H).get? b = some o := fun e z => hidT_get e z
  have notDict : ∀ {b : Addr} {o : Obj} {es : Array DictEntry} {ep : Nat}, s₁.heap.get? b = some o → o.data = .dict es ep → H b = none := by
    intro b o es ep e isD
    cases z : H b with
    | none => rfl
    | some u =>
      obtain ⟨rfl, _⟩ := hA b u z
      rw [obj] at e
      cases e
      cases isD
  have ns' : ∀ {b : Addr} {m : Str → Option Value}, s₁.heap.Ns b m → (hidT s₁.heap H).Ns b m := by
    rintro b m ⟨o, es, ep, e, isD, r⟩
    exact ⟨o, es, ep, under e (notDict e isD), isD, r⟩
  have inK' : K.In (hidT s₁.heap H) := by
    intro b o e
    refine under (inK b o e) ?_
    cases z : H b with
    | none => rfl
    | some u =>
      obtain ⟨rfl, no⟩ := hA b u z
      rw [no] at e
      cases e
  obtain ⟨mc, l1, l2⟩ := lim
  have env : Env0 P w K mg (hidT s₁.heap H) callerA [] s₁ H :=
    ⟨rfl, ⟨inK', ns' gl, ⟨mb, ns' bl, isB⟩, ⟨mc, ns' l1, l2⟩⟩, fun _ _ e => of_hidT e, Nat.le_of_eq (hidT_size _ _), trivial, (fun _ hb => nomatch hb), hok, .of_eq gens⟩
  refine codeAny_mono (run _ H inK' (ns' gl) env hS) ?_
  intro r s' h
  cases r with
  | error e => exact h.elim
  | ok fl =>
    cases fl with
    | next => exact h.elim
    | brk => exact h.elim
    | cont => exact h.elim
    | ret u =>
      obtain ⟨v, H', os, bare, un, hok', rv, isT⟩ := h
      subst isT
      cases rv
      refine ⟨rfl, OldK.of_keep ?_, os, bare⟩
      intro b o e
      cases z : H b with
      | none => exact un.keep b o e z (fun y => nomatch y) (fun y => nomatch y)
      | some u =>
        rcases hO b with y | ⟨ob, xs, y⟩
        · rw [z] at y
          cases y
        · have y2 := un.frzs b ob _ y
          obtain ⟨e1, _⟩ := hok b _ y
          obtain ⟨e2, _⟩ := hok' b _ y2
          rw [e] at e1
          cases e1
          exact e2
/-! ### defs that ask for repr: the guards are carried -/
structure FnOkG (P : Program) (w : World) (K : PySem.W.Frag) (mg : Str → Option Value) (base : Heap) (k : Nat) (f : Addr) (fd : FuncData) (ps : List Str) (sp : Sp) : Prop where
  len : ∀ vs H Q E, sp vs H Q E → vs.length = ps.length
  run : ∀ (A : Around) (outer : List Env) (s : Shared) (H : Hp) (args : Args) (us : List Value) (vs : List V) (Q : VK) (E : XK), A.guards = some [] → Room k A → Env0 P w K mg base A outer s H →
    BindsTo s fd args (ps.zip us) → Vals vs us → sp vs H Q E → codeAny (model P w) A (.call (.ref f) args) (CR CX0 outer P w H s Q E) s
theorem fnG {P : Program} {w : World} {K : PySem.W.Frag} {mg : Str → Option Value} {base : Heap} {f : Addr} {fd : FuncData} {N ps : List Str} {k : Nat} {x qual : Str} {st : Stmt} {sp : Sp} (F : Fun K x qual st f fd) (S : FnScope N ps (defScope st))
    (len : ∀ vs H Q E, sp vs H Q E → vs.length = ps.length)
    (body : ∀ (cdv : Value) (A : Around) (outer : List Env) (s : Shared) (H : Hp) (vs : List V) (Q : VK) (E : XK), A.guards = some [] → Room k (A.deeper (envOfC qual (defScope st) s.heap.objs.size f cdv)) → sp vs H Q E →
      ∃ t, PSs (cxOf CX0 P w K mg base N qual (defScope st) f cdv A outer s H E).nox (defBody st) t ∧ t { nx := fun _ H' => Q .non H', rt := Q } (start N vs) H) :
    FnOkG P w K mg base (k + 1) f fd ps sp := by
  refine ⟨len, ?_⟩
  intro A outer s H args us vs Q E gs room en bd rel hsp
  exact enter_def F S room en bd rel (len _ _ _ _ hsp) fun cdv hr => body cdv A outer s H vs Q E gs hr hsp
theorem pe_callG {X : Cx} {k : Nat} {f : Addr} {fd : FuncData} {ps : List Str} {sp : Sp} {x : Str} {p pos : Pos} {e : Expr} {es : List Expr} {t : TA}
    (G : FnOkG X.prog X.w X.K X.mg X.base k f fd ps sp) (gs : X.A.guards = some []) (room : Room k X.A) (isG : Gl X x) (at0 : X.mg x = some (.ref f)) (kp : PySem.W.keepIn X.K (.ref f) = true) (bd : Binds X.K fd ps []) (args : PA X (e :: es) t)
    (nd : (x == ("__debug__" : Str)) = false := by decide) (he : starEach (e :: es) X.env = (false, eval e X.env) :: starEach es X.env := by rfl) (hp : (backTo pos (starEach es X.env)).any (·.1) = false := by rfl) :
    PE X (.Call (.Name x p) (e :: es) [] pos) (tCall sp [] E0 t) := by
  constructor
  intro pins s σ H Q I h
  refine wpAny_Call_Name_kw (ld_glob I isG at0 ?_ nd)
  refine PySem.W.callWith_K (h₀ := X.base) I.ok.mod.kin kp (thn (args.run pos pins s σ H _ I h) ?_) he hp
  rintro us s1 ⟨vs, H1, I1, rel, q⟩
  refine ⟨I1.kIn, ?_⟩
  have q' : sp vs H1 Q E0 := by
    rw [List.append_nil] at q
    exact q
  have hl : (us ++ []).length = ps.length := by
    rw [List.append_nil, ← rel.length]
    exact G.len _ _ _ _ q'
  have bd' := bd s1 us I1.kIn hl
  rw [List.append_nil] at bd'
  refine wpAny_call (codeAny_mono (G.run X.A X.stack s1 H1 ⟨us, []⟩ us vs Q E0 gs room I1.env0 bd' rel q') ?_)
  intro r s' done
  cases r with
  | error e => exact done.elim
  | ok fl =>
    cases fl with
    | ret u => exact I1.after done
    | next => exact done.elim
    | brk => exact done.elim
    | cont => exact done.elim
/-- a def that asks for repr, with its promise -/
structure DfG (P : Program) (w : World) (K : PySem.W.Frag) (mg : Str → Option Value) (base : Heap) (k : Nat) (nm : Str) (ps : List Str) (sp : Sp) where
  f : Addr
  fd : FuncData
  ok : FnOkG P w K mg base k f fd ps sp
  b : Binds K fd ps []
  kp : PySem.W.keepIn K (.ref f) = true
  g : mg nm = some (.ref f)
/-! ### repr of data without dicts -/
mutual
def okR : PyData → Bool
  | .none => true
  | .bool _ => true
  | .int i => decide (0 ≤ i) && decide (i < 64)
  | .str x => decide (x.length ≤ 64) && x.cps.toList.all (· < 128)
  | .list xs => okRs xs
  | .tuple xs => okRs xs
  | .dict _ => false
def okRs : List PyData → Bool
  | [] => true
  | x :: xs => okR x && okRs xs
end
mutual
def wtR : PyData → Nat
  | .none => 4
  | .bool _ => 5
  | .int _ => 31
  | .str x => 10 * x.length + 2
  | .list xs => 3 + wtRs xs
  | .tuple xs => 3 + wtRs xs
  | .dict _ => 0
def wtRs : List PyData → Nat
  | [] => 0
  | x :: xs => wtR x + 2 + wtRs xs
end
theorem small_shown : ∀ n : Nat, n < 64 → (Str.ofString (toString (n : Int))).length ≤ 31 ∧ (n : Int).natAbs.log2 < 1920 := by decide +kernel
theorem listText_leR (ts : List Str) : (listText ts).length ≤ piled ts + 3 := by
  have h := textFrom_len_le ts 0 "["
  have e : (listText ts).length = (textFrom 0 "[" ts).length + 1 := by
    show (textFrom 0 "[" ts ++ "]").length = _
    rw [strLen_append]
    rfl
  have z : ∀ l : List Str, (l.map (·.length)).sum + 2 * l.length = piled l := by
    intro l
    induction l with
    | nil => rfl
    | cons t l ih =>
      rw [piled_cons, List.map_cons, List.sum_cons, List.length_cons]
      omega
  have z2 := z ts
  have z3 : (("[" : String) : Str).length = 1 := rfl
  omega
mutual
theorem shownR : ∀ d : PyData, okR d = true → d.shown.length ≤ wtR d ∧ d.showable = true ∧ d.hasDict = false
  | .none, _ => by
    simp only [PyData.shown, wtR, PyData.showable, PyData.hasDict, and_true]
    decide +kernel
  | .bool b, _ => by
    simp only [PyData.shown, wtR, PyData.showable, PyData.hasDict, and_true]
    cases b <;> decide +kernel
  | .int i, h => by
    simp only [okR, Bool.and_eq_true, decide_eq_true_eq] at h
    obtain ⟨h1, h2⟩ := small_shown i.toNat (by omega)
    rw [show ((i.toNat : Nat) : Int) = i by omega] at h1 h2
    simp only [PyData.shown, wtR, PyData.showable, PyData.hasDict, decide_eq_true_eq, and_true]
    exact ⟨h1, h2⟩
  | .str x, h => by
    simp only [okR, Bool.and_eq_true, decide_eq_true_eq, List.all_eq_true] at h
    have h1 := StrLaws.reprText_len x (fun c hc => Nat.lt_of_lt_of_le (h.2 c hc) (by decide))
    simp only [PyData.shown, wtR, PyData.showable, PyData.hasDict, and_true]
    omega
  | .list xs, h => by
    simp only [okR] at h
    obtain ⟨h1, h2, h3⟩ := shownRs xs h
    simp only [PyData.shown, wtR, PyData.showable, PyData.hasDict]
    exact ⟨Nat.le_trans (listText_leR _) (by omega), h2, h3⟩
  | .tuple xs, h => by
    simp only [okR] at h
    obtain ⟨h1, h2, h3⟩ := shownRs xs h
    simp only [PyData.shown, wtR, PyData.showable, PyData.hasDict]
    exact ⟨Nat.le_trans (fmt_text _) (by omega), h2, h3⟩
  | .dict _, h => by
    simp only [okR] at h
    exact absurd h Bool.false_ne_true
theorem shownRs : ∀ ds : List PyData, okRs ds = true → piled (PyData.shownAll ds) ≤ wtRs ds ∧ PyData.showableAll ds = true ∧ PyData.hasDictAll ds = false
  | [], _ => by
    simp only [PyData.shownAll, wtRs, PyData.showableAll, PyData.hasDictAll, and_true]
    exact Nat.le_refl _
  | d :: ds, h => by
    simp only [okRs, Bool.and_eq_true] at h
    obtain ⟨h1, h2, h5⟩ := shownR d h.1
    obtain ⟨h3, h4, h6⟩ := shownRs ds h.2
    simp only [PyData.shownAll, wtRs, PyData.showableAll, PyData.hasDictAll, h2, h4, h5, h6, Bool.and_self, Bool.or_self, and_true]
    rw [piled_cons]
    omega
end
def rReprR (K : PySem.W.Frag) : List V → Hp → VK → Prop := fun xs H Q => ∃ (a : Addr) (d : PyData), xs = [.ref a] ∧ Dp K H (.ref a) d ∧ okR d = true ∧ wtR d ≤ 1000000 ∧ d.depth ≤ 60 ∧ Q (.str d.shown) H
theorem call_reprR {X : Cx} (hg : X.A.guards = some []) (hu : X.A.units + 64 < cLine) : CallR X (.builtin "repr") (rReprR X.K) := by
  intro pins s σ H xs us Q I r h
  obtain ⟨a, d, rfl, hd, hs, hw, hz, q⟩ := h
  obtain ⟨u, rfl, rx⟩ := vals1 r
  cases rx
  obtain ⟨h1, h2, h3⟩ := shownR d hs
  obtain ⟨as, rd⟩ := Dp.reads I d _ _ hd rfl
  exact repr_of_reads' rd h2 (PyData.noDict_hsm h3) hg (by omega) (fun _ _ e => e) (fun h' u tk hk => ⟨.str d.shown, H, I.kept (t' := tk) hk, ⟨u, rfl⟩, q⟩) (by show _ ≤ 16777216; omega)
/-! ### grown trees -/
theorem B.ins_perm (t : B) (c : Nat) : (t.ins c).pre.Perm (c :: t.pre) := by
  induction t with
  | nil => exact List.Perm.refl _
  | node l x r h1 h2 =>
    show (if c < x then B.node (l.ins c) x r else .node l x (r.ins c)).pre.Perm _
    split
    · show (x :: ((l.ins c).pre ++ r.pre)).Perm (c :: x :: (l.pre ++ r.pre))
      exact ((h1.append_right r.pre).cons x).trans (List.Perm.swap _ _ _)
    · show (x :: (l.pre ++ (r.ins c).pre)).Perm (c :: x :: (l.pre ++ r.pre))
      exact (((h2.append_left l.pre).trans List.perm_middle).cons x).trans (List.Perm.swap _ _ _)
theorem foldl_ins_perm (zs : List Nat) : ∀ t : B, (zs.foldl B.ins t).pre.Perm (zs ++ t.pre) := by
  induction zs with
  | nil => intro t; exact List.Perm.refl _
  | cons c r ih =>
    intro t
    rw [List.foldl_cons]
    exact (ih _).trans (((B.ins_perm t c).append_left r).trans List.perm_middle)
theorem gr_perm (zs : List Nat) : (gr zs).pre.Perm zs := by
  have := foldl_ins_perm zs .nil
  rw [show B.nil.pre = [] from rfl, List.append_nil] at this
  exact this
theorem B.nar_data : ∀ t : B, nar t.data = true
  | .nil => by simp only [B.data, nar]
  | .node l x r => by
    simp only [B.data, nar, narAll, l.nar_data, r.nar_data, Bool.and_self, Bool.and_true, List.length_cons, List.length_nil]
    exact decide_eq_true (by omega)
theorem B.data_depth : ∀ t : B, t.data.depth = t.deep
  | .nil => by simp only [B.data, PyData.depth, B.deep]
  | .node l x r => by
    simp only [B.data, PyData.depth, PyData.depthAll, B.deep, l.data_depth, r.data_depth]
    omega
/-! ### sorted of any number of texts -/
def rSortedSA (K : PySem.W.Frag) : List V → Hp → VK → Prop := fun vs H Q => ∃ (a : Addr) (xs : List Str), vs = [V.ref a] ∧ SqL K H a (xs.map V.str) ∧
  ∀ (ys : List Str) (p : Addr), ys.Perm xs → sortedS ys = true → H p = none → Q (.ref p) (upd H p (.lst (ys.map V.str)))
theorem cr_sortedSA {X : Cx} : CallR X (.builtin "sorted") (rSortedSA X.K) := by
  intro pins s σ H vs us Q I r h
  obtain ⟨a, xs, rfl, hs, q⟩ := h
  obtain ⟨its, rv, hl, hz⟩ := I.list hs
  rw [Vals.ref1 r]
  have hlen0 := rv.length
  rw [List.length_map] at hlen0
  rw [List.length_map] at hz
  refine PyProof.Rows.sorted_strsAny hl.isList rv.strs (by rw [← hlen0]; exact hz) fun out ys h1 h2 h3 => ?_
  obtain ⟨ep, he'⟩ := PyProof.Rows.sortedAll_at s.heap its out
  have hlen : (ys.map V.str).length ≤ sizeLine := by rw [List.length_map, h2.length_eq]; exact hz
  exact ⟨.ref _, upd H (s.heap.objs.size + 1) (.lst (ys.map V.str)), I.laid (t' := s.toks) (fun _ _ => PyProof.Rows.sortedAll_old) (Nat.le_succ _) ⟨hlen, out.toList, ep, vals_of_strs h1, he'⟩, rfl, q ys _ h2 h3 (I.hok.fresh (Nat.le_succ _))⟩
/-! ### numbers of orders -/
def facN : Nat → Nat
  | 0 => 1
  | n + 1 => facN n * (n + 1)
theorem facN_pos : ∀ n, 0 < facN n
  | 0 => Nat.one_pos
  | n + 1 => Nat.mul_pos (facN_pos n) (Nat.succ_pos n)
def prodN : List Nat → Nat
  | [] => 1
  | h :: t => h * prodN t
theorem prodN_app : ∀ a b : List Nat, prodN (a ++ b) = prodN a * prodN b
  | [], b => (Nat.one_mul _).symm
  | h :: a, b => by
    show h * prodN (a ++ b) = h * prodN a * prodN b
    rw [prodN_app a b, Nat.mul_assoc]
def cho : Nat → Nat → Nat
  | _, 0 => 1
  | 0, _ + 1 => 0
  | n + 1, k + 1 => cho n k + cho n (k + 1)
theorem cho_over : ∀ n k, n < k → cho n k = 0
  | 0, 0, h => absurd h (by omega)
  | 0, k + 1, _ => rfl
  | n + 1, 0, h => absurd h (by omega)
  | n + 1, k + 1, h => by
    show cho n k + cho n (k + 1) = 0
    rw [cho_over n k (by omega), cho_over n (k + 1) (by omega)]
theorem cho_self : ∀ n, cho n n = 1
  | 0 => rfl
  | n + 1 => by
    show cho n n + cho n (n + 1) = 1
    rw [cho_self n, cho_over n (n + 1) (by omega)]
theorem cho_0 (n : Nat) : cho n 0 = 1 := by cases n <;> rfl
theorem cho_fac : ∀ n a b : Nat, a + b = n → cho (a + b) a * (facN a * facN b) = facN (a + b) := by
  intro n
  induction n with
  | zero =>
    intro a b h
    have ha : a = 0 := by omega
    have hb : b = 0 := by omega
    subst ha hb
    rfl
  | succ n ih =>
    intro a b h
    cases a with
    | zero => rw [Nat.zero_add, cho_0, Nat.one_mul]; exact Nat.one_mul _
    | succ a =>
      cases b with
      | zero => rw [Nat.add_zero, cho_self, Nat.one_mul]; exact Nat.mul_one _
      | succ b =>
        have e1 := ih a (b + 1) (by omega)
        have e2 := ih (a + 1) b (by omega)
        have es : a + 1 + (b + 1) = (a + (b + 1)) + 1 := by omega
        rw [es]
        show (cho (a + (b + 1)) a + cho (a + (b + 1)) (a + 1)) * (facN a * (a + 1) * facN (b + 1)) = facN (a + (b + 1)) * (a + (b + 1) + 1)
        have e3 : a + (b + 1) = a + 1 + b := by omega
        rw [Nat.add_mul]
        have f1 : cho (a + (b + 1)) a * (facN a * (a + 1) * facN (b + 1)) = (a + 1) * facN (a + (b + 1)) := by
          rw [← e1]
          ac_rfl
        have f2 : cho (a + (b + 1)) (a + 1) * (facN a * (a + 1) * facN (b + 1)) = (b + 1) * facN (a + (b + 1)) := by
          rw [e3, ← e2]
          show cho (a + 1 + b) (a + 1) * (facN a * (a + 1) * (facN b * (b + 1))) = (b + 1) * (cho (a + 1 + b) (a + 1) * (facN a * (a + 1) * facN b))
          ac_rfl
        rw [f1, f2, ← Nat.add_mul, Nat.mul_comm]
        refine congrArg (facN (a + (b + 1)) * ·) ?_
        omega
def B.hooks : B → List Nat
  | .nil => []
  | .node l _ r => (l.size + r.size + 1) :: (l.hooks ++ r.hooks)
theorem B.hooks_len : ∀ t : B, t.hooks.length = t.size
  | .nil => rfl
  | .node l x r => by
    show (l.hooks ++ r.hooks).length + 1 = l.size + 1 + r.size
    rw [List.length_append, l.hooks_len, r.hooks_len]
    omega
theorem B.hooks_pos : ∀ (t : B), ∀ h ∈ t.hooks, 0 < h ∧ h ≤ t.size
  | .nil, h, hh => by cases hh
  | .node l x r, h, hh => by
    show 0 < h ∧ h ≤ l.size + 1 + r.size
    rcases List.mem_cons.mp hh with rfl | hh
    · omega
    · rcases List.mem_append.mp hh with hh | hh
      · have := l.hooks_pos h hh; omega
      · have := r.hooks_pos h hh; omega
def B.num : B → Nat
  | .nil => 1
  | .node l _ r => l.num * r.num * cho (l.size + r.size) l.size
theorem B.num_hooks : ∀ t : B, t.num * prodN t.hooks = facN t.size
  | .nil => rfl
  | .node l x r => by
    have h1 := l.num_hooks
    have h2 := r.num_hooks
    have h3 := cho_fac _ l.size r.size rfl
    show l.num * r.num * cho (l.size + r.size) l.size * ((l.size + r.size + 1) * prodN (l.hooks ++ r.hooks)) = facN (l.size + 1 + r.size)
    rw [prodN_app, show l.size + 1 + r.size = (l.size + r.size) + 1 by omega]
    show _ = facN (l.size + r.size) * (l.size + r.size + 1)
    rw [← h3, ← h1, ← h2]
    ac_rfl
theorem prodN_pos : ∀ l : List Nat, (∀ h ∈ l, 0 < h) → 0 < prodN l
  | [], _ => Nat.one_pos
  | h :: l, hh => Nat.mul_pos (hh h List.mem_cons_self) (prodN_pos l fun k hk => hh k (List.mem_cons_of_mem _ hk))
theorem B.num_le (t : B) : t.num ≤ facN t.size := by
  rw [← t.num_hooks]
  exact Nat.le_mul_of_pos_right _ (prodN_pos _ fun h hh => (t.hooks_pos h hh).1)
theorem foldl_div : ∀ (l : List Nat) (m : Nat), l.foldl (· / ·) m = m / prodN l
  | [], m => (Nat.div_one m).symm
  | h :: l, m => by
    rw [List.foldl_cons, foldl_div l]
    show m / h / prodN l = m / (h * prodN l)
    rw [Nat.div_div_eq_div_mul]
theorem B.num_div (t : B) : t.hooks.foldl (· / ·) (facN t.size) = t.num := by
  rw [foldl_div, ← t.num_hooks]
  exact Nat.mul_div_cancel _ (prodN_pos _ fun h hh => (t.hooks_pos h hh).1)
theorem facN_mono : ∀ {a b : Nat}, a ≤ b → facN a ≤ facN b := by
  intro a b h
  induction h with
  | refl => exact Nat.le_refl _
  | step _ ih => exact Nat.le_trans ih (Nat.le_mul_of_pos_right _ (Nat.succ_pos _))
/-- s (s - 1) .., k of them -/
def desc (s : Nat) : Nat → Nat
  | 0 => 1
  | k + 1 => desc s k * (s - k)
theorem desc_fac (s : Nat) : ∀ k, k ≤ s → desc s k * facN (s - k) = facN s
  | 0, _ => Nat.one_mul _
  | k + 1, h => by
    rw [← desc_fac s k (by omega)]
    show desc s k * (s - k) * facN (s - (k + 1)) = desc s k * facN (s - k)
    rw [show s - k = (s - (k + 1)) + 1 by omega]
    show _ = desc s k * (facN (s - (k + 1)) * (s - (k + 1) + 1))
    ac_rfl
theorem desc_cho (a b : Nat) : desc (a + b) a = cho (a + b) a * facN a := by
  have h1 := desc_fac (a + b) a (by omega)
  rw [show a + b - a = b by omega, ← cho_fac _ a b rfl, ← Nat.mul_assoc] at h1
  exact Nat.eq_of_mul_eq_mul_right (facN_pos b) h1
def divs (m : Nat) : Nat → Nat
  | 0 => m
  | k + 1 => divs m k / (k + 1)
theorem divs_fac (m : Nat) : ∀ k, divs m k = m / facN k
  | 0 => (Nat.div_one m).symm
  | k + 1 => by
    show divs m k / (k + 1) = m / (facN k * (k + 1))
    rw [divs_fac m k, Nat.div_div_eq_div_mul]
theorem num_node (l : B) (x : Nat) (r : B) : divs (l.num * r.num * desc (l.size + r.size) l.size) l.size = (B.node l x r).num := by
  rw [divs_fac, desc_cho, ← Nat.mul_assoc]
  exact Nat.mul_div_cancel _ (facN_pos _)
theorem desc_le (s : Nat) : ∀ k, k ≤ s → desc s k ≤ facN s := fun k h => by
  rw [← desc_fac s k h]
  exact Nat.le_mul_of_pos_right _ (facN_pos _)
/-! all orders -/
def insAll (c : Nat) (o : List Nat) : List (List Nat) := (List.range (o.length + 1)).map fun k => o.take k ++ [c] ++ o.drop k
def allP (zs : List Nat) : List (List Nat) := zs.foldl (fun F c => F.flatMap (insAll c)) [[]]
theorem allP_snoc (zs : List Nat) (c : Nat) : allP (zs ++ [c]) = (allP zs).flatMap (insAll c) := by
  unfold allP
  rw [List.foldl_append]
  rfl
theorem ins_perm' (c : Nat) (o : List Nat) : ∀ p ∈ insAll c o, p.Perm (c :: o) := fun p hp => by
  obtain ⟨k, _, rfl⟩ := List.mem_map.mp hp
  have h1 : (o.take k ++ [c] ++ o.drop k).Perm ([c] ++ o.take k ++ o.drop k) := List.Perm.append_right _ List.perm_append_comm
  rw [List.append_assoc, List.append_assoc, List.take_append_drop] at h1
  rw [List.append_assoc]
  exact h1
theorem snoc_ind {P : List Nat → Prop} (h0 : P []) (hs : ∀ l c, P l → P (l ++ [c])) (l : List Nat) : P l := by
  have : ∀ m : List Nat, P m.reverse := by
    intro m
    induction m with
    | nil => exact h0
    | cons c m ih => rw [List.reverse_cons]; exact hs _ c ih
  have := this l.reverse
  rwa [List.reverse_reverse] at this
theorem allP_perm (zs : List Nat) : ∀ p ∈ allP zs, p.Perm zs := by
  induction zs using snoc_ind with
  | h0 => intro p hp; rw [List.mem_singleton.mp hp]
  | hs zs c ih =>
    intro p hp
    rw [allP_snoc] at hp
    obtain ⟨o, ho, hp⟩ := List.mem_flatMap.mp hp
    exact (ins_perm' c o p hp).trans (((ih o ho).cons c).trans (List.perm_append_comm (l₁ := [c])))
theorem allP_all (zs : List Nat) : ∀ p : List Nat, p.Perm zs → p ∈ allP zs := by
  induction zs using snoc_ind with
  | h0 => intro p hp; rw [hp.eq_nil]; exact List.mem_singleton.mpr rfl
  | hs zs c ih =>
    intro p hp
    have hc : c ∈ p := hp.mem_iff.mpr (List.mem_append_right _ (List.mem_singleton.mpr rfl))
    obtain ⟨a, b, rfl⟩ := List.append_of_mem hc
    have h1 : (c :: (a ++ b)).Perm (c :: zs) := (List.perm_middle.symm.trans hp).trans (List.perm_append_comm (l₂ := [c]))
    rw [allP_snoc]
    refine List.mem_flatMap.mpr ⟨a ++ b, ih _ h1.cons_inv, List.mem_map.mpr ⟨a.length, List.mem_range.mpr (by rw [List.length_append]; omega), ?_⟩⟩
    rw [List.take_left, List.drop_left, List.append_assoc]
    rfl
def B.mapT (g : Nat → Nat) : B → B
  | .nil => .nil
  | .node l x r => .node (l.mapT g) (g x) (r.mapT g)
theorem B.mapT_size (g : Nat → Nat) : ∀ t : B, (t.mapT g).size = t.size
  | .nil => rfl
  | .node l x r => by show (l.mapT g).size + 1 + (r.mapT g).size = _; rw [l.mapT_size, r.mapT_size]; rfl
theorem B.mapT_num (g : Nat → Nat) : ∀ t : B, (t.mapT g).num = t.num
  | .nil => rfl
  | .node l x r => by
    show (l.mapT g).num * (r.mapT g).num * cho ((l.mapT g).size + (r.mapT g).size) (l.mapT g).size = _
    rw [l.mapT_num, r.mapT_num, B.mapT_size, B.mapT_size]
    rfl
theorem B.mapT_ins (g : Nat → Nat) (c : Nat) : ∀ t : B, (∀ d ∈ t.pre, (c < d ↔ g c < g d)) → (t.ins c).mapT g = (t.mapT g).ins (g c)
  | .nil, _ => rfl
  | .node l x r, h => by
    have hx := h x List.mem_cons_self
    have h1 := l.mapT_ins g c fun d hd => h d (List.mem_cons_of_mem _ (List.mem_append_left _ hd))
    have h2 := r.mapT_ins g c fun d hd => h d (List.mem_cons_of_mem _ (List.mem_append_right _ hd))
    show (if c < x then B.node (l.ins c) x r else .node l x (r.ins c)).mapT g = if g c < g x then B.node ((l.mapT g).ins (g c)) (g x) (r.mapT g) else .node (l.mapT g) (g x) ((r.mapT g).ins (g c))
    by_cases hc : c < x
    · rw [if_pos hc, if_pos (hx.mp hc), ← h1]; rfl
    · rw [if_neg hc, if_neg (fun z => hc (hx.mpr z)), ← h2]; rfl
theorem gr_mem' (zs : List Nat) (d : Nat) : d ∈ (gr zs).pre ↔ d ∈ zs := (gr_perm zs).mem_iff
theorem gr_snoc (zs : List Nat) (c : Nat) : gr (zs ++ [c]) = (gr zs).ins c := by
  unfold gr
  rw [List.foldl_append]
  rfl
theorem gr_map (g : Nat → Nat) (S : List Nat) (mono : ∀ c ∈ S, ∀ d ∈ S, (c < d ↔ g c < g d)) (zs : List Nat) (h : ∀ c ∈ zs, c ∈ S) : gr (zs.map g) = (gr zs).mapT g := by
  induction zs using snoc_ind with
  | h0 => rfl
  | hs zs c ih =>
    have hc := h c (List.mem_append_right _ (List.mem_singleton.mpr rfl))
    have hz : ∀ d ∈ zs, d ∈ S := fun d hd => h d (List.mem_append_left _ hd)
    rw [List.map_append]
    show gr (zs.map g ++ [g c]) = _
    rw [gr_snoc, gr_snoc, B.mapT_ins g c (gr zs) fun d hd => mono c hc d (hz d ((gr_mem' zs d).mp hd)), ih hz]
theorem insAll_map (g : Nat → Nat) (c : Nat) (o : List Nat) : insAll (g c) (o.map g) = (insAll c o).map (List.map g) := by
  unfold insAll
  rw [List.length_map, List.map_map]
  refine List.map_congr_left fun k _ => ?_
  show List.take k (o.map g) ++ [g c] ++ List.drop k (o.map g) = (o.take k ++ [c] ++ o.drop k).map g
  rw [List.map_append, List.map_append, List.map_take, List.map_drop]
  rfl
theorem allP_map (g : Nat → Nat) (zs : List Nat) : allP (zs.map g) = (allP zs).map (List.map g) := by
  induction zs using snoc_ind with
  | h0 => rfl
  | hs zs c ih =>
    rw [List.map_append]
    show allP (zs.map g ++ [g c]) = _
    rw [allP_snoc, allP_snoc, ih, List.flatMap_map, List.map_flatMap]
    refine congrArg (fun f => (allP zs).flatMap f) (funext fun o => ?_)
    exact insAll_map g c o
theorem mapT_inj (g : Nat → Nat) (S : List Nat) (inj : ∀ c ∈ S, ∀ d ∈ S, g c = g d → c = d) : ∀ (t u : B), (∀ c ∈ t.pre, c ∈ S) → (∀ c ∈ u.pre, c ∈ S) → t.mapT g = u.mapT g → t = u
  | .nil, .nil, _, _, _ => rfl
  | .nil, .node _ _ _, _, _, h => by cases h
  | .node _ _ _, .nil, _, _, h => by cases h
  | .node l x r, .node l' x' r', h1, h2, h => by
    injection h with e1 e2 e3
    rw [mapT_inj g S inj l l' (fun c hc => h1 c (List.mem_cons_of_mem _ (List.mem_append_left _ hc))) (fun c hc => h2 c (List.mem_cons_of_mem _ (List.mem_append_left _ hc))) e1,
      mapT_inj g S inj r r' (fun c hc => h1 c (List.mem_cons_of_mem _ (List.mem_append_right _ hc))) (fun c hc => h2 c (List.mem_cons_of_mem _ (List.mem_append_right _ hc))) e3,
      inj x (h1 x List.mem_cons_self) x' (h2 x' List.mem_cons_self) e2]
def B.beq : B → B → Bool
  | .nil, .nil => true
  | .node l x r, .node l' x' r' => Nat.beq x x' && (l.beq l' && r.beq r')
  | _, _ => false
theorem B.beq_eq : ∀ t u : B, t.beq u = decide (t = u)
  | .nil, .nil => by rw [decide_eq_true rfl]; rfl
  | .nil, .node _ _ _ => by rw [decide_eq_false (by simp)]; rfl
  | .node _ _ _, .nil => by rw [decide_eq_false (by simp)]; rfl
  | .node l x r, .node l' x' r' => by
    show (Nat.beq x x' && (l.beq l' && r.beq r')) = _
    rw [l.beq_eq l', r.beq_eq r']
    have e : Nat.beq x x' = decide (x = x') := by
      by_cases h : x = x'
      · subst h; rw [decide_eq_true rfl]; exact Nat.beq_refl x
      · rw [decide_eq_false h]
        cases hb : Nat.beq x x' with
        | false => rfl
        | true => exact absurd (Nat.eq_of_beq_eq_true hb) h
    rw [e]
    by_cases h1 : x = x' <;> by_cases h2 : l = l' <;> by_cases h3 : r = r' <;> simp [h1, h2, h3]
def many (zs : List Nat) : Nat := ((allP zs).filter fun p => (gr p).beq (gr zs)).length
theorem few_orders : ∀ n, n ≤ 5 → ∀ rs ∈ allP (List.range n), many rs = (gr rs).num := by
  have h : ((List.range 6).all fun n => (allP (List.range n)).all fun rs => Nat.beq (many rs) (gr rs).num) = true := by decide +kernel
  intro n hn rs hr
  have h1 := List.all_eq_true.mp h n (List.mem_range.mpr (by omega))
  exact Nat.eq_of_beq_eq_true (List.all_eq_true.mp h1 rs hr)
theorem nodup_le {α : Type} [DecidableEq α] : ∀ {l m : List α}, l.Nodup → (∀ x ∈ l, x ∈ m) → l.length ≤ m.length
  | [], m, _, _ => Nat.zero_le _
  | x :: l, m, nd, h => by
    obtain ⟨n1, n2⟩ := List.nodup_cons.mp nd
    have hx := h x List.mem_cons_self
    have := nodup_le (l := l) (m := m.erase x) n2 fun y hy => (List.mem_erase_of_ne (fun z : y = x => n1 (z ▸ hy))).mpr (h y (List.mem_cons_of_mem _ hy))
    rw [List.length_erase_of_mem hx] at this
    have : 0 < m.length := List.length_pos_of_mem hx
    rw [List.length_cons]
    omega
theorem perm_of_le {α : Type} [DecidableEq α] : ∀ {l m : List α}, l.Nodup → (∀ x ∈ l, x ∈ m) → m.length ≤ l.length → l.Perm m
  | [], m, _, _, h => by
    have : m = [] := List.length_eq_zero_iff.mp (by simpa using h)
    rw [this]
  | x :: l, m, nd, h, hl => by
    obtain ⟨n1, n2⟩ := List.nodup_cons.mp nd
    have hx := h x List.mem_cons_self
    have e := List.length_erase_of_mem hx
    rw [List.length_cons] at hl
    have := perm_of_le (l := l) (m := m.erase x) n2 (fun y hy => (List.mem_erase_of_ne (fun z : y = x => n1 (z ▸ hy))).mpr (h y (List.mem_cons_of_mem _ hy))) (by omega)
    exact (this.cons x).trans (List.perm_cons_erase hx).symm
theorem many_num {zs : List Nat} (nd : zs.Nodup) (h5 : zs.length ≤ 5) : many zs = (gr zs).num := by
  let g : Nat → Nat := fun c => (zs.filter fun d => decide (d < c)).length
  have gle : ∀ c ∈ zs, ∀ d ∈ zs, c < d → g c < g d := fun c hc d hd hlt => by
    have n1 : (c :: zs.filter fun e => decide (e < c)).Nodup := List.nodup_cons.mpr ⟨fun z => by have := of_decide_eq_true (List.mem_filter.mp z).2; omega, nd.sublist List.filter_sublist⟩
    have := nodup_le n1 (m := zs.filter fun e => decide (e < d)) fun e he => by
      rcases List.mem_cons.mp he with rfl | he
      · exact List.mem_filter.mpr ⟨hc, decide_eq_true hlt⟩
      · obtain ⟨a, b⟩ := List.mem_filter.mp he
        have := of_decide_eq_true b
        exact List.mem_filter.mpr ⟨a, decide_eq_true (by omega)⟩
    exact this
  have mono : ∀ c ∈ zs, ∀ d ∈ zs, (c < d ↔ g c < g d) := fun c hc d hd => by
    constructor
    · exact gle c hc d hd
    · intro h
      rcases Nat.lt_trichotomy c d with e | e | e
      · exact e
      · rw [e] at h; omega
      · have := gle d hd c hc e; omega
  have inj : ∀ c ∈ zs, ∀ d ∈ zs, g c = g d → c = d := fun c hc d hd e => by
    rcases Nat.lt_trichotomy c d with h | h | h
    · have := gle c hc d hd h; omega
    · exact h
    · have := gle d hd c hc h; omega
  have glt : ∀ c ∈ zs, g c < zs.length := fun c hc => by
    have n1 : (c :: zs.filter fun e => decide (e < c)).Nodup := List.nodup_cons.mpr ⟨fun z => by have := of_decide_eq_true (List.mem_filter.mp z).2; omega, nd.sublist List.filter_sublist⟩
    have := nodup_le n1 (m := zs) fun e he => by
      rcases List.mem_cons.mp he with rfl | he
      · exact hc
      · exact (List.mem_filter.mp he).1
    exact this
  have pr : (zs.map g).Perm (List.range zs.length) := by
    refine perm_of_le ?_ ?_ ?_
    · rw [List.nodup_iff_pairwise_ne, List.pairwise_map]
      exact List.Pairwise.imp_of_mem (fun {a b} ha hb (h : a ≠ b) e => h (inj a ha b hb e)) nd
    · intro x hx
      obtain ⟨c, hc, rfl⟩ := List.mem_map.mp hx
      exact List.mem_range.mpr (glt c hc)
    · rw [List.length_map, List.length_range]; exact Nat.le_refl _
  have key := few_orders zs.length h5 (zs.map g) (allP_all _ _ pr)
  unfold many at key ⊢
  have eg : gr (zs.map g) = (gr zs).mapT g := gr_map g zs mono zs fun c hc => hc
  rw [allP_map, List.filter_map, List.length_map, eg, B.mapT_num] at key
  rw [← key]
  refine congrArg List.length (List.filter_congr fun p hp => ?_)
  show _ = (gr (p.map g)).beq ((gr zs).mapT g)
  have pp := allP_perm zs p hp
  have hpz : ∀ c ∈ p, c ∈ zs := fun c hc => pp.mem_iff.mp hc
  rw [gr_map g zs mono p hpz, B.beq_eq, B.beq_eq]
  by_cases e : gr p = gr zs
  · rw [e, decide_eq_true rfl, decide_eq_true rfl]
  · rw [decide_eq_false e, decide_eq_false fun z => e (mapT_inj g zs inj _ _ (fun c hc => hpz c ((gr_mem' p c).mp hc)) (fun c hc => (gr_mem' zs c).mp hc) z)]
/-! ### sizes_in, count_together, count_orders -/
theorem lc2_it {J : It} {n : Nat} {G : Hp → Prop} {Y : Nat → Hp → V → Hp → Prop} (w : Walk J n G Y) {g : TG} {tt : TT} {wi1 : TI} {g1 : TG} {tt1 : TT} {te : TE} {vs vs1 : List Nat} {σ : L2.St} {H1 : Hp} {D : Addr} {Qd : Hp → Prop} (Pv : Nat → Hp → Prop) (h0 : Pv 0 (upd H1 D (.lst []))) (hG : ∀ i H, i ≤ n → Pv i H → G H)
    (hs : ∀ i x H H', i < n → Pv i H → Y i H x H' → g x (wipe σ vs) H' fun σ2 H2 => wipe σ2 vs = wipe σ vs ∧ tt σ2 H2 fun b H3 =>
      if b = true then wi1 σ2 H3 fun J1 H4 => ∃ W1 : Nat → Nat → Hp → Prop, (∃ m, W1 0 m H4) ∧ ∀ j k H, W1 j k H →
        (J1.stop j H ∧ Pv (i + 1) H) ∨ (J1.go j H ∧ ∃ Nx1 : Hp → Prop, (∀ H', Nx1 H' → ∃ k', k' < k ∧ W1 (j + 1) k' H') ∧ ∀ x H', J1.yld j H x H' → g1 x (wipe σ2 vs1) H' fun σ3 H5 => wipe σ3 vs1 = wipe σ2 vs1 ∧ tt1 σ3 H5 fun b H6 =>
          if b = true then te σ3 H6 fun y H7 => ∃ acc, H7 D = some (.lst acc) ∧ acc.length < sizeLine ∧ Nx1 (upd H7 D (.lst (acc ++ [y]))) else Nx1 H6)
      else Pv (i + 1) H3) (hd : ∀ H, Pv n H → Qd H) :
    ∃ W : Nat → Nat → Hp → Prop, (∃ m, W 0 m (upd H1 D (.lst []))) ∧ ∀ i m H, W i m H →
      (J.stop i H ∧ Qd H) ∨ (J.go i H ∧ ∃ Nx : Hp → Prop, (∀ H', Nx H' → ∃ m', m' < m ∧ W (i + 1) m' H') ∧ ∀ x H', J.yld i H x H' → g x (wipe σ vs) H' fun σ2 H2 => wipe σ2 vs = wipe σ vs ∧ tt σ2 H2 fun b H3 =>
        if b = true then wi1 σ2 H3 fun J1 H4 => ∃ W1 : Nat → Nat → Hp → Prop, (∃ m, W1 0 m H4) ∧ ∀ j k H, W1 j k H →
          (J1.stop j H ∧ Nx H) ∨ (J1.go j H ∧ ∃ Nx1 : Hp → Prop, (∀ H', Nx1 H' → ∃ k', k' < k ∧ W1 (j + 1) k' H') ∧ ∀ x H', J1.yld j H x H' → g1 x (wipe σ2 vs1) H' fun σ3 H5 => wipe σ3 vs1 = wipe σ2 vs1 ∧ tt1 σ3 H5 fun b H6 =>
            if b = true then te σ3 H6 fun y H7 => ∃ acc, H7 D = some (.lst acc) ∧ acc.length < sizeLine ∧ Nx1 (upd H7 D (.lst (acc ++ [y]))) else Nx1 H6)
        else Nx H3) := by
  refine ⟨fun i m H => m = n - i ∧ i ≤ n ∧ Pv i H, ⟨n, by simp, Nat.zero_le _, h0⟩, ?_⟩
  rintro i m H ⟨rfl, hi, p⟩
  have q := hG i H hi p
  by_cases hlt : i < n
  · exact .inr ⟨w.goes i H hlt q, Pv (i + 1), fun H' p' => ⟨n - (i + 1), by omega, rfl, hlt, p'⟩, fun x H' y => hs i x H H' hlt p (w.yields i H x H' hlt q y)⟩
  · have e : i = n := by omega
    subst e
    exact .inl ⟨w.stops H q, hd H p⟩
theorem in_it {J : It} {n : Nat} {G : Hp → Prop} {Y : Nat → Hp → V → Hp → Prop} (w : Walk J n G Y) {g : TG} {tt : TT} {te : TE} {vs : List Nat} {σ : L2.St} {H4 : Hp} {D : Addr} {Nx : Hp → Prop} (Pv : Nat → Hp → Prop) (h0 : Pv 0 H4) (hG : ∀ i H, i ≤ n → Pv i H → G H)
    (hs : ∀ i x H H', i < n → Pv i H → Y i H x H' → g x (wipe σ vs) H' fun σ2 H2 => wipe σ2 vs = wipe σ vs ∧ tt σ2 H2 fun b H3 =>
      if b = true then te σ2 H3 fun y H4 => ∃ acc, H4 D = some (.lst acc) ∧ acc.length < sizeLine ∧ Pv (i + 1) (upd H4 D (.lst (acc ++ [y]))) else Pv (i + 1) H3) (hd : ∀ H, Pv n H → Nx H) :
    ∃ W : Nat → Nat → Hp → Prop, (∃ m, W 0 m H4) ∧ ∀ i m H, W i m H →
      (J.stop i H ∧ Nx H) ∨ (J.go i H ∧ ∃ Nx1 : Hp → Prop, (∀ H', Nx1 H' → ∃ m', m' < m ∧ W (i + 1) m' H') ∧ ∀ x H', J.yld i H x H' → g x (wipe σ vs) H' fun σ2 H2 => wipe σ2 vs = wipe σ vs ∧ tt σ2 H2 fun b H3 =>
        if b = true then te σ2 H3 fun y H4 => ∃ acc, H4 D = some (.lst acc) ∧ acc.length < sizeLine ∧ Nx1 (upd H4 D (.lst (acc ++ [y]))) else Nx1 H3) := by
  refine ⟨fun i m H => m = n - i ∧ i ≤ n ∧ Pv i H, ⟨n, by simp, Nat.zero_le _, h0⟩, ?_⟩
  rintro i m H ⟨rfl, hi, p⟩
  have q := hG i H hi p
  by_cases hlt : i < n
  · exact .inr ⟨w.goes i H hlt q, Pv (i + 1), fun H' p' => ⟨n - (i + 1), by omega, rfl, hlt, p'⟩, fun x H' y => hs i x H H' hlt p (w.yields i H x H' hlt q y)⟩
  · have e : i = n := by omega
    subst e
    exact .inl ⟨w.stops H q, hd H p⟩
abbrev vn (n : Nat) : V := .int (n : Int)
/-- trees at vs -/
inductive TsAt (H : Hp) : List V → List B → Prop
  | nil : TsAt H [] []
  | cons {v : V} {t : B} {vs : List V} {ts : List B} : BAt H v t → TsAt H vs ts → TsAt H (v :: vs) (t :: ts)
theorem TsAt.same {H H' : Hp} (k : Same H H') {vs : List V} {ts : List B} (h : TsAt H vs ts) : TsAt H' vs ts := by
  induction h with
  | nil => exact .nil
  | cons a _ ih => exact .cons (a.same k) ih
theorem TsAt.len {H : Hp} {vs : List V} {ts : List B} (h : TsAt H vs ts) : vs.length = ts.length := by
  induction h with
  | nil => rfl
  | cons _ _ ih => rw [List.length_cons, List.length_cons, ih]
theorem TsAt.get {H : Hp} {vs : List V} {ts : List B} (h : TsAt H vs ts) : ∀ {i : Nat} {v : V}, vs[i]? = some v → ∃ t, ts[i]? = some t ∧ BAt H v t := by
  induction h with
  | nil => intro i v e; simp at e
  | cons a _ ih =>
    intro i v e
    cases i with
    | zero => cases e; exact ⟨_, rfl, a⟩
    | succ i => exact ih e
def hooksL (ts : List B) : List Nat := ts.flatMap B.hooks
def together (ts : List B) : Nat := (hooksL ts).foldl (· / ·) (facN (hooksL ts).length)
theorem together_one (t : B) : together [t] = t.num := by
  unfold together hooksL
  rw [List.flatMap_cons, List.flatMap_nil, List.append_nil, B.hooks_len, B.num_div]
def spSizesIn (N : Nat) : Sp := fun vs H Q _ => ∃ (v : V) (t : B), vs = [v] ∧ BAt H v t ∧ t.size < N ∧ t.size ≤ 500 ∧ ∀ (p : Addr) (H' : Hp), Same H H' → H p = none → H' p = some (.lst (t.hooks.map vn)) → Q (.ref p) H'
def spTogether (K : PySem.W.Frag) : Sp := fun vs H Q _ => ∃ (a : Addr) (us : List V) (ts : List B), vs = [.ref a] ∧ SqL K H a us ∧ TsAt H us ts ∧ (hooksL ts).length ≤ 15 ∧ ∀ (H' : Hp), Same H H' → Q (vn (together ts)) H'
theorem hooksL_pos (ts : List B) : ∀ h ∈ hooksL ts, 0 < h := fun h hh => by
  obtain ⟨t, _, h2⟩ := List.mem_flatMap.mp hh
  exact (t.hooks_pos h h2).1
theorem hooksL_snoc (ts : List B) (t : B) : hooksL (ts ++ [t]) = hooksL ts ++ t.hooks := by
  unfold hooksL
  rw [List.flatMap_append, List.flatMap_cons, List.flatMap_nil, List.append_nil]
theorem hooksL_take {ts : List B} (k : Nat) : (hooksL (ts.take k)).length ≤ (hooksL ts).length := by
  have h : hooksL ts = hooksL (ts.take k) ++ hooksL (ts.drop k) := by
    unfold hooksL
    rw [← List.flatMap_append, List.take_append_drop]
  rw [h, List.length_append]
  omega
theorem hook_le {ts : List B} {h : Nat} (hh : h ∈ hooksL ts) : h ≤ (hooksL ts).length := by
  obtain ⟨t, h1, h2⟩ := List.mem_flatMap.mp hh
  have := (t.hooks_pos h h2).2
  have l : t.hooks.length ≤ (hooksL ts).length := by
    obtain ⟨a, b, e⟩ := List.append_of_mem h1
    rw [e]
    unfold hooksL
    rw [List.flatMap_append, List.flatMap_cons, List.length_append, List.length_append]
    omega
  rw [B.hooks_len] at l
  omega
theorem fac15 {n : Nat} (h : n ≤ 15) : facN n ≤ 1307674368000 := Nat.le_trans (facN_mono h) (by decide)
theorem foldl_div_le : ∀ (l : List Nat) (m : Nat), l.foldl (· / ·) m ≤ m
  | [], m => Nat.le_refl _
  | h :: l, m => Nat.le_trans (foldl_div_le l (m / h)) (Nat.div_le_self _ _)
theorem take_nextG {α : Type} {zs : List α} {i : Nat} {c : α} (h : zs[i]? = some c) : zs.take (i + 1) = zs.take i ++ [c] := by
  rw [List.take_add_one, h]
  rfl
section
variable {P : Program} {w : World} {K : PySem.W.Frag} {mg : Str → Option Value} {base : Heap} {f : Addr} {fd : FuncData}
theorem ok_sizesIn (F : Fun K "sizes_in" "sizes_in" s_sizes_in f fd) (M : Mgs mg) (b : Binds K fd ["tree"] []) (g : mg "sizes_in" = some (.ref f)) : ∀ N : Nat, FnOk P w K mg base CX0 N f fd ["tree"] (spSizesIn N)
  | 0 => by
    have no : ∀ vs H Q E, ¬ spSizesIn 0 vs H Q E := fun vs H Q E h => by
      obtain ⟨v, t, _, _, h1, _⟩ := h
      omega
    exact ⟨fun vs H Q E h => absurd h (no vs H Q E), fun A outer s H args us vs Q E _ _ _ _ h => absurd h (no vs H Q E)⟩
  | N + 1 => by
    have Dself : Df P w K mg base N "sizes_in" ["tree"] (spSizesIn N) := ⟨f, fd, ok_sizesIn F M b g N, b, F.kp, g⟩
    refine F.ok sc_sizes_in (fun vs H Q E h => ?_) (fun cdv A outer s H vs Q E hr h => ?_)
    · obtain ⟨v, t, rfl, _⟩ := h
      rfl
    obtain ⟨v, t, rfl, hv, hn, hz, q⟩ := h
    refine ⟨_, (pss_cons (ps_if (pt_cmpR op_isN (pv 0) pe_non (nomark _))
      (pss_one (ps_ret (pe_lst pa_nil))) pss_nil)
    (pss_cons (ps_asg (pv 0) (pg_tup rfl (pgs_cons (pg_name (i := 1) sc_sizes_in.nd rfl (.inl rfl)) (pgs_cons (pg_name (i := 2) sc_sizes_in.nd rfl (.inl rfl)) (pgs_cons (pg_name (i := 3) sc_sizes_in.nd rfl (.inl rfl)) pgs_nil)))))
    (pss_cons (ps_set (i := 4) sc_sizes_in.nd rfl (.inl rfl) (pe_op op_cat (pe_call Dself.ok (hr.mono (by omega)) rfl Dself.g Dself.kp Dself.b .nil pass0 (pa_cons (pv 1) pa_nil)) (pe_call Dself.ok (hr.mono (by omega)) rfl Dself.g Dself.kp Dself.b .nil pass0 (pa_cons (pv 3) pa_nil))))
    (pss_one (ps_ret (pe_lst (pa_cons (pe_op op_add (pe_callB call_len_seq rfl M.len PySem.boot_len (pa_cons (pv 4) pa_nil)) pe_int) (StX.pa_star (pv 4) pa_nil)))))))), ?_⟩
    rcases hv.inv with ⟨rfl, rfl⟩ | ⟨a, l, r, x, tl, tr, rfl, rfl, ea, hl, hr'⟩
    · refine ⟨_, rfl, rfl, _, rfl, iteT ⟨(by show 0 ≤ sizeLine; decide), fun p np => ?_⟩⟩
      exact q p _ (same_new np _) np upd_same
    · have sz : tl.size + 1 + tr.size < N + 1 := hn
      have sz2 : tl.size + 1 + tr.size ≤ 500 := hz
      refine ⟨_, rfl, rfl, _, rfl, iteF ?_⟩
      refine ⟨_, rfl, a, _, rfl, SqT.of ea, rfl, _, _, rfl, _, _, rfl, _, _, rfl, rfl, ?_⟩
      refine ⟨_, rfl, l, tl, rfl, hl, by omega, by omega, fun p1 H1 s1 n1 e1 => ?_⟩
      refine ⟨_, rfl, r, tr, rfl, hr'.same s1, by omega, by omega, fun p2 H2 s2 n2 e2 => ?_⟩
      have h1 := tl.hooks_len
      have h2 := tr.hooks_len
      refine ⟨p1, p2, _, _, rfl, rfl, s2 _ _ e1, e2, small (by rw [List.length_map, List.length_map]; omega), fun p3 n3 => ?_⟩
      have k3 := same_new n3 (.lst (tl.hooks.map vn ++ tr.hooks.map vn))
      have e3 := upd_same (H := H2) (a := p3) (o := .lst (tl.hooks.map vn ++ tr.hooks.map vn))
      have s3 := (s1.trans s2).trans k3
      generalize upd H2 p3 (.lst (tl.hooks.map vn ++ tr.hooks.map vn)) = H3 at e3 s3 ⊢
      refine ⟨_, rfl, p3, _, rfl, .inl (SqL.of e3), _, _, rfl, rfl, _, rfl, p3, _, rfl, .inr (SqL.of e3), ?_⟩
      refine ⟨small ?_, fun p4 n4 => ?_⟩
      · rw [List.length_cons, List.length_append, List.length_append, List.length_map, List.length_map, List.length_nil]; omega
      have e5 : (fun i j : Int => V.int (i + j)) (((tl.hooks.map vn ++ tr.hooks.map vn).length : Nat) : Int) 1 :: ((tl.hooks.map vn ++ tr.hooks.map vn) ++ []) = (B.node tl x tr).hooks.map vn := by
        show _ = ((tl.size + tr.size + 1) :: (tl.hooks ++ tr.hooks)).map vn
        rw [List.append_nil, List.map_cons, List.map_append]
        refine congrArg (fun z => V.int z :: (tl.hooks.map vn ++ tr.hooks.map vn)) ?_
        rw [List.length_append, List.length_map, List.length_map, h1, h2]
        omega
      have k4 := same_new n4 (.lst ((fun i j : Int => V.int (i + j)) (((tl.hooks.map vn ++ tr.hooks.map vn).length : Nat) : Int) 1 :: ((tl.hooks.map vn ++ tr.hooks.map vn) ++ [])))
      exact q p4 _ (s3.trans k4) (s3.free n4) (upd_same.trans (congrArg (fun z => some (HO.lst z)) e5))
theorem ok_together (F : Fun K "count_together" "count_together" s_count_together f fd) (M : Mgs mg) (Dsizes_in : Df P w K mg base 20 "sizes_in" ["tree"] (spSizesIn 20)) : FnOk P w K mg base CX0 21 f fd ["parts"] (spTogether K) := by
  refine F.ok sc_count_together (fun vs H Q E h => ?_) (fun cdv A outer s H vs Q E hr h => ?_)
  · obtain ⟨a, us, ts, rfl, _⟩ := h
    rfl
  obtain ⟨a, us, ts, rfl, ea, ta, h15, q⟩ := h
  refine ⟨_, (pss_cons (ps_setLc2 (i := 3) (own := [("part", 1), ("size", 2)]) (vs1 := [2]) (g := gName 1) (tt := tYes) (g1 := gName 2) (tt1 := tYes) (by rfl) sc_count_together.nd rfl rfl (sw_true rfl rfl rfl (by decide +kernel)) (pi_list (pv 0)) (blkOk_by (N := ["parts", "part", "size", "sizes", "orders", "at"]) (sc := defScope s_count_together) (by decide +kernel)) (by decide) (fun _ _ _ _ _ => (pg_name (i := 1) sc_count_together.nd rfl (.inl rfl))) (fun _ _ _ _ _ => pts_nil) (fun _ _ _ _ _ => (show PI _ _ _ (iList K _) from pi_list (pe_call Dsizes_in.ok (hr.mono (by omega)) rfl Dsizes_in.g Dsizes_in.kp Dsizes_in.b .nil pass0 (pa_cons (pv 1) pa_nil)))) (fun _ _ _ _ _ => (pg_name (i := 2) sc_count_together.nd rfl (.inl rfl))) (fun _ _ _ _ _ => pts_nil) (fun _ _ _ _ _ => (pv 2)))
    (pss_cons (ps_set (i := 4) sc_count_together.nd rfl (.inl rfl) pe_int)
    (pss_cons (ps_for PassesOwn.never rfl (pi_range1 rfl M.range (pa_cons (pe_callB call_len_seq rfl M.len PySem.boot_len (pa_cons (pv 3) pa_nil)) pa_nil)) (pg_name (i := 5) sc_count_together.nd rfl (.inl rfl))
      (pss_one (ps_aug (i := 4) sc_count_together.nd rfl (.inl rfl) (pe_op op_add (pv 5) pe_int) (show PIp _ .Mult _ from iop_mul))))
    (pss_cons (ps_for PassesOwn.never rfl (pi_list (pv 3)) (pg_name (i := 2) sc_count_together.nd rfl (.inl rfl))
      (pss_one (ps_aug (i := 4) sc_count_together.nd rfl (.inl rfl) (pv 2) (show PIp _ .FloorDiv _ from iop_fdiv))))
    (pss_one (ps_ret (pv 4))))))), ?_⟩
  refine ⟨_, rfl, a, rfl, ⟨_, ea⟩, fun D nD => ?_⟩
  have kD := same_new nD (.lst [])
  have tl := ta.len
  refine lc2_it (walk_list (K := K) (a := a) (xs := us)) (fun i H' => Same H H' ∧ H' D = some (.lst ((hooksL (ts.take i)).map vn))) ⟨kD, upd_same⟩ (fun i H' _ hp => hp.1.seq ea) (fun i x H1 H1' hi hp hy => ?_) (fun H1 hp => ?_)
  · obtain ⟨s1, eD⟩ := hp
    obtain ⟨rfl, hx⟩ := hy
    obtain ⟨t, ht, hat⟩ := ta.get hx
    have tz : t.size ≤ 15 := by
      have := hooksL_take (ts := ts) (i + 1)
      rw [take_nextG ht, hooksL_snoc, List.length_append, B.hooks_len] at this
      omega
    refine ⟨rfl, kept ?_⟩
    refine ⟨_, rfl, x, t, rfl, hat.same s1, by omega, by omega, fun p H2 s2 np e2 => ⟨p, rfl, ⟨_, SqL.of e2⟩, ?_⟩⟩
    have npD : p ≠ D := Ne.symm (ne_of_none eD np)
    refine in_it (walk_list (K := K) (a := p) (xs := t.hooks.map vn)) (fun j H' => Same H H' ∧ H' p = some (.lst (t.hooks.map vn)) ∧ H' D = some (.lst ((hooksL (ts.take i)).map vn ++ (t.hooks.map vn).take j))) ⟨s1.trans s2, e2, by rw [List.take_zero, List.append_nil]; exact s2 _ _ eD⟩ (fun j H' _ hp => SqL.of hp.2.1) (fun j y H3 H3' hj hp hy => ?_) (fun H3 hp => ?_)
    · obtain ⟨s3, e3, eD3⟩ := hp
      obtain ⟨rfl, hy⟩ := hy
      have hl1 := hooksL_take (ts := ts) i
      have hl2 := t.hooks_len
      refine ⟨rfl, kept ⟨_, rfl, _, eD3, ?_, fun b o e => ?_, ?_, ?_⟩⟩
      · rw [List.length_append, List.length_map, List.length_take, List.length_map]; exact small1000 (by omega)
      · rw [upd_ne (ne_of_none e nD)]; exact s3 _ _ e
      · rw [upd_ne npD]; exact e3
      · rw [upd_same, take_nextG hy, List.append_assoc]
    · obtain ⟨s3, e3, eD3⟩ := hp
      rw [List.take_of_length_le (Nat.le_refl _), ← List.map_append, ← hooksL_snoc, ← take_nextG ht] at eD3
      exact ⟨s3, eD3⟩
  obtain ⟨s1, eD⟩ := hp
  rw [tl, List.take_length] at eD
  refine ⟨_, rfl, D, _, rfl, .inl (SqL.of eD), ?_⟩
  refine ⟨(((hooksL ts).map vn).length : Int), rfl, by rw [List.length_map]; omega, by rw [List.length_map]; omega, ?_⟩
  rw [Int.toNat_natCast]
  refine for_range (lo := 0) (n := ((hooksL ts).map vn).length) (fun i σ H' => ∃ (o5 : Option V), σ = [some (.ref a), none, none, some (.ref D), some (vn (facN i)), o5] ∧ Same H1 H') ⟨_, rfl, Same.refl _⟩ (fun i σ H2 hi hp => ?_) (fun σ H2 hp => ?_)
  · obtain ⟨o5, rfl, s2⟩ := hp
    rw [List.length_map] at hi
    have := fac15 (show i ≤ 15 by omega)
    refine ⟨_, rfl, _, rfl, _, _, rfl, rfl, _, _, rfl, rfl, .inl ⟨by omega, by omega⟩, ?_⟩
    refine ⟨some (.int (0 + i)), ?_, s2⟩
    have e : vn (facN (i + 1)) = V.int ((facN i : Int) * ((0 : Int) + (i : Int) + 1)) := congrArg V.int (by rw [Int.zero_add]; exact Int.natCast_mul _ _)
    rw [e]
    rfl
  obtain ⟨o5, rfl, s2⟩ := hp
  rw [List.length_map] at *
  have eD2 := s2 _ _ eD
  refine ⟨_, rfl, D, rfl, ⟨_, SqL.of eD2⟩, ?_⟩
  refine for_list (K := K) (a := D) (xs := (hooksL ts).map vn) (fun i σ H' => ∃ (o2 : Option V), σ = [some (.ref a), none, o2, some (.ref D), some (vn (((hooksL ts).take i).foldl (· / ·) (facN (hooksL ts).length))), o5] ∧ Same H2 H') ⟨_, rfl, Same.refl _⟩ (fun i σ H' _ hp => by obtain ⟨_, _, sm⟩ := hp; exact SqL.of (sm _ _ eD2)) (fun i x σ H3 hx hp => ?_) (fun σ H3 hp => ?_)
  · obtain ⟨o2, rfl, s3⟩ := hp
    rw [List.getElem?_map] at hx
    obtain ⟨h, hh, rfl⟩ := Option.map_eq_some_iff.mp hx
    have hm := List.mem_of_getElem? hh
    have hpos := hooksL_pos ts h hm
    have hle := hook_le hm
    have fb := foldl_div_le ((hooksL ts).take i) (facN (hooksL ts).length)
    have := fac15 h15
    refine ⟨_, rfl, _, rfl, _, _, rfl, rfl, ⟨by omega, by omega⟩, ?_⟩
    refine ⟨some (vn h), ?_, s3⟩
    have e : vn (((hooksL ts).take (i + 1)).foldl (· / ·) (facN (hooksL ts).length)) = V.int (((((hooksL ts).take i).foldl (· / ·) (facN (hooksL ts).length) : Nat) : Int) / (h : Int)) := by
      rw [take_nextG hh, List.foldl_append]
      rfl
    rw [e]
    rfl
  · obtain ⟨o2, rfl, s3⟩ := hp
    rw [List.length_map, List.take_length]
    exact ⟨_, rfl, q H3 (s1.trans (s2.trans s3))⟩
def spCountO : Sp := fun vs H Q _ => ∃ (v : V) (t : B), vs = [v] ∧ BAt H v t ∧ t.size ≤ 15 ∧ ∀ (H' : Hp), Same H H' → Q (vn t.num) H'
theorem ok_countO (F : Fun K "count_orders" "count_orders" s_count_orders f fd) (Dcount_together : Df P w K mg base 21 "count_together" ["parts"] (spTogether K)) : FnOk P w K mg base CX0 22 f fd ["tree"] spCountO := by
  refine F.ok sc_count_orders (fun vs H Q E h => ?_) (fun cdv A outer s H vs Q E hr h => ?_)
  · obtain ⟨v, t, rfl, _⟩ := h
    rfl
  obtain ⟨v, t, rfl, hv, hz, q⟩ := h
  refine ⟨_, (pss_one (ps_ret (pe_call Dcount_together.ok (hr.mono (by omega)) rfl Dcount_together.g Dcount_together.kp Dcount_together.b .nil pass0 (pa_cons (pe_lst (pa_cons (pv 0) pa_nil)) pa_nil)))), ?_⟩
  refine ⟨_, rfl, (by show 1 ≤ sizeLine; decide), fun p np => ?_⟩
  have k1 := same_new np (.lst [v])
  refine ⟨p, [v], [t], rfl, SqL.of upd_same, .cons (hv.same k1) .nil, ?_, fun H' s' => ?_⟩
  · unfold hooksL
    rw [List.flatMap_cons, List.flatMap_nil, List.append_nil, B.hooks_len]
    exact hz
  · rw [together_one]
    exact q H' (k1.trans s')
end
/-! ### _law_all -/
abbrev vt (z : List Nat) : V := .str (tx z)
theorem str_0 : Str.ofString "" = tx [] := by decide +kernel
theorem flat_len (c n : Nat) : ∀ F : List (List Nat), (∀ o ∈ F, o.length = n) → (F.flatMap (insAll c)).length = F.length * (n + 1)
  | [], _ => (Nat.zero_mul _).symm
  | o :: F, h => by
    rw [List.flatMap_cons, List.length_append, flat_len c n F fun p hp => h p (List.mem_cons_of_mem _ hp), List.length_cons, Nat.add_mul, Nat.one_mul]
    unfold insAll
    rw [List.length_map, List.length_range, h o List.mem_cons_self]
    omega
theorem allP_len (zs : List Nat) : (allP zs).length = facN zs.length := by
  induction zs using snoc_ind with
  | h0 => rfl
  | hs zs c ih =>
    rw [allP_snoc, flat_len c zs.length _ fun o ho => (allP_perm zs o ho).length_eq, ih, List.length_append]
    rfl
def spAll : Sp := fun vs H Q _ => ∃ zs : List Nat, vs = [vt zs] ∧ zs.length ≤ 5 ∧ ∀ (p : Addr) (ys : List (List Nat)) (H' : Hp), Same H H' → H' p = some (.lst (ys.map vt)) → ys.Perm (allP zs) → Q (.ref p) H'
theorem perm_tx {ys : List Str} {P : List (List Nat)} (h : ys.Perm (P.map tx)) : ∃ Z : List (List Nat), ys = Z.map tx ∧ Z.Perm P := by
  refine ⟨ys.map fun s => s.cps.toList, ?_, ?_⟩
  · rw [List.map_map]
    have : (tx ∘ fun s : Str => s.cps.toList) = id := by
      funext s
      show (⟨s.cps.toList.toArray⟩ : Str) = s
      rw [Array.toArray_toList]
    rw [this, List.map_id]
  · have := h.map fun s : Str => s.cps.toList
    rw [List.map_map] at this
    have e : ((fun s : Str => s.cps.toList) ∘ tx) = id := rfl
    rw [e, List.map_id] at this
    exact this
section
variable {P : Program} {w : World} {K : PySem.W.Frag} {mg : Str → Option Value} {base : Heap} {f : Addr} {fd : FuncData}
theorem ok_all {k : Nat} (F : Fun K "_law_all" "_law_all" s__law_all f fd) (M : Mgs mg) : FnOk P w K mg base CX0 (k + 1) f fd ["_law_letters"] spAll := by
  refine F.ok sc__law_all (fun vs H Q E h => ?_) (fun cdv A outer s H vs Q E hr h => ?_)
  · obtain ⟨zs, rfl, _⟩ := h
    rfl
  obtain ⟨zs, rfl, h5, q⟩ := h
  refine ⟨_, (pss_cons (ps_set (i := 1) sc__law_all.nd rfl (.inl rfl) (pe_lst (pa_cons pe_str pa_nil)))
    (pss_cons (ps_for PassesOwn.never rfl (pi_str (pv 0)) (pg_name (i := 2) sc__law_all.nd rfl (.inr rfl))
      (pss_cons (ps_set (i := 3) sc__law_all.nd rfl (.inl rfl) (pe_lst pa_nil))
    (pss_cons (ps_for PassesOwn.never rfl (pi_list (pv 1)) (pg_name (i := 4) sc__law_all.nd rfl (.inr rfl))
      (pss_one (ps_expr (pe_bm PySem.F.plainAttrs_list PySem.F.slot_list_extend PySem.F.type_list_extend mt_extend (pv 3) (pa_cons (pe_lc (own := [("_law_k", 5)]) (g := gName 5) (tt := tYes) rfl sc__law_all.nd (pi_range1 rfl M.range (pa_cons (pe_op op_add (pe_callB call_len_str rfl M.len PySem.boot_len (pa_cons (pv 4) pa_nil)) pe_int) pa_nil)) (blkOk_by (N := ["_law_letters", "_law_found", "_law_letter", "_law_longer", "_law_order_here", "_law_k"]) (sc := defScope s__law_all) (by decide +kernel)) (fun _ _ _ _ _ => (pg_name (i := 5) sc__law_all.nd rfl (.inl rfl))) (fun _ _ _ _ _ => pts_nil) (fun _ _ _ _ _ => (pe_op op_add_str (pe_op op_add_str (pe_slice sl_str (pv 4) po_none (po_some (pv 5))) (pv 2)) (pe_slice sl_str (pv 4) (po_some (pv 5)) po_none)))) pa_nil)))))
    (pss_one (ps_set (i := 1) sc__law_all.nd rfl (.inl rfl) (pv 3))))))
    (pss_one (ps_ret (pe_callB cr_sortedSA rfl M.sorted (by decide +kernel) (pa_cons (pv 1) pa_nil)))))), ?_⟩
  refine ⟨(by show 1 ≤ sizeLine; decide), fun p0 np0 => ?_⟩
  rw [str_0]
  have k0 := same_new np0 (.lst [vt []])
  have e0 : (upd H p0 (.lst [vt []])) p0 = some (.lst ((allP (zs.take 0)).map vt)) := by rw [upd_same, List.take_zero]; rfl
  generalize upd H p0 (.lst [vt []]) = H0 at k0 e0 ⊢
  refine ⟨_, rfl, _, rfl, ?_⟩
  refine for_text (x := tx zs) (fun i σ H' => ∃ (pf : Addr) (o2 o3 o4 : Option V), σ = [some (vt zs), some (.ref pf), o2, o3, o4, none] ∧ Same H H' ∧ H' pf = some (.lst ((allP (zs.take i)).map vt))) ⟨p0, none, none, none, rfl, k0, e0⟩ (fun i c σ H1 hc hp => ?_) (fun σ H1 hp => ?_)
  · obtain ⟨pf, o2, o3, o4, rfl, s1, ef⟩ := hp
    rw [tx_cps] at hc
    have hi := (List.getElem?_eq_some_iff.mp hc).1
    have tl : (zs.take i).length = i := by rw [List.length_take]; omega
    have fl := allP_len (zs.take i)
    have fl1 := allP_len (zs.take (i + 1))
    have tl1 : (zs.take (i + 1)).length = i + 1 := by rw [List.length_take]; omega
    rw [tl] at fl
    rw [tl1] at fl1
    have f120 : facN (i + 1) ≤ 120 := Nat.le_trans (facN_mono (show i + 1 ≤ 5 by omega)) (by decide)
    have tk := take_nextG hc
    refine ⟨(by show 0 ≤ sizeLine; decide), fun pl npl => ?_⟩
    have k2 := same_new npl (.lst [])
    have el := upd_same (H := H1) (a := pl) (o := .lst [])
    have ef2 := k2 _ _ ef
    have s2 := s1.trans k2
    have nlf : pf ≠ pl := ne_of_none ef npl
    have nplH := s1.free npl
    generalize upd H1 pl (.lst []) = H2 at el ef2 s2 ⊢
    refine ⟨_, rfl, pf, rfl, ⟨_, SqL.of ef2⟩, ?_⟩
    refine for_list (K := K) (a := pf) (xs := (allP (zs.take i)).map vt) (fun j σ H' => ∃ (o4 : Option V), σ = [some (vt zs), some (.ref pf), some (.str (ch c)), some (.ref pl), o4, none] ∧ (∀ b o, b ≠ pl → H2 b = some o → H' b = some o) ∧ H' pl = some (.lst ((((allP (zs.take i)).take j).flatMap (insAll c)).map vt))) ⟨_, rfl, (fun b o _ e => e), el⟩ (fun j σ H' _ hp => by obtain ⟨_, _, sm, _⟩ := hp; exact SqL.of (sm _ _ nlf ef2)) (fun j x σ H3 hx hp => ?_) (fun σ H3 hp => ?_)
    · obtain ⟨o4, rfl, s3, el3⟩ := hp
      rw [List.getElem?_map] at hx
      obtain ⟨o, ho, rfl⟩ := Option.map_eq_some_iff.mp hx
      have hj := (List.getElem?_eq_some_iff.mp ho).1
      have ol : o.length = i := by rw [(allP_perm _ o (List.mem_of_getElem? ho)).length_eq, tl]
      have lz : (tx o).length ≤ sizeLine := small (by rw [tx_len]; omega)
      refine ⟨_, rfl, .inl ⟨rfl, _, SqL.of el3⟩, ?_⟩
      refine ⟨_, rfl, _, rfl, lz, _, _, rfl, rfl, ((o.length + 1 : Nat) : Int), ?_, by omega, by omega, fun D nD => ?_⟩
      · rw [tx_len]; rfl
      rw [Int.toNat_natCast]
      have kD := same_new nD (.lst [])
      have nlD : pl ≠ D := ne_of_none el3 nD
      refine lc_range (lo := 0) (n := o.length + 1) (fun t H' => Same H3 H' ∧ H' D = some (.lst (((insAll c o).take t).map vt))) ⟨kD, upd_same⟩ (fun t H4 ht hp => ?_) (fun H4 hp => ?_)
      · obtain ⟨s4, eD⟩ := hp
        have hg : (insAll c o)[t]? = some (o.take t ++ [c] ++ o.drop t) := by
          unfold insAll
          rw [List.getElem?_map, List.getElem?_range ht]
          rfl
        refine ⟨rfl, kept ?_⟩
        refine ⟨_, rfl, _, rfl, _, rfl, _, rfl, lz, _, rfl, _, _, rfl, rfl, ?_, _, rfl, _, rfl, _, rfl, _, rfl, lz, _, _, rfl, rfl, ?_, ?_⟩
        · rw [Int.zero_add, tx_to, tx_len, List.length_take]; exact small (by show _ + 1 ≤ 1000; omega)
        · rw [Int.zero_add, tx_to, tx_from, show tx (o.take t) ++ ch c = tx (o.take t ++ [c]) from tx_app _ [c], tx_len, tx_len, List.length_append, List.length_take, List.length_drop]; exact small (by show _ + 1 + _ ≤ 1000; omega)
        rw [Int.zero_add, tx_to, tx_from, show tx (o.take t) ++ ch c = tx (o.take t ++ [c]) from tx_app _ [c], tx_app]
        refine ⟨_, eD, ?_, fun b o' e => ?_, ?_⟩
        · rw [List.length_map, List.length_take]; exact small1000 (by omega)
        · rw [upd_ne (ne_of_none e nD)]; exact s4 _ _ e
        · rw [upd_same, take_nextG hg, List.map_append]; rfl
      obtain ⟨s4, eD⟩ := hp
      have il : (insAll c o).length = o.length + 1 := by unfold insAll; rw [List.length_map, List.length_range]
      rw [List.take_of_length_le (Nat.le_of_eq il)] at eD
      have fj : (((allP (zs.take i)).take j).flatMap (insAll c)).length ≤ 120 := by
        rw [flat_len c i _ fun o' ho' => by rw [(allP_perm _ o' (List.mem_of_mem_take ho')).length_eq, tl], List.length_take]
        refine Nat.le_trans (Nat.mul_le_mul_right _ (Nat.min_le_right _ _)) ?_
        rw [fl]
        exact f120
      refine ⟨pl, D, _, _, rfl, rfl, s4 _ _ el3, eD, ?_, some (vt o), rfl, fun b o' nb e => ?_, ?_⟩
      · rw [List.length_map, List.length_map, il]; exact small (by omega)
      · rw [upd_ne nb]; exact s4 _ _ (s3 _ _ nb e)
      · rw [upd_same, take_nextG ho, List.flatMap_append, List.map_append]
        show _ = some (HO.lst (_ ++ List.map vt (insAll c o ++ [])))
        rw [List.append_nil]
    · obtain ⟨o4, rfl, s3, el3⟩ := hp
      rw [List.length_map, List.take_length, ← allP_snoc, ← tk] at el3
      refine ⟨_, rfl, pl, some (.str (ch c)), some (.ref pl), o4, rfl, fun b o e => ?_, el3⟩
      exact s3 _ _ (ne_of_none e nplH) (s2 _ _ e)
  · obtain ⟨pf, o2, o3, o4, rfl, s1, ef⟩ := hp
    rw [tx_cps, List.take_length] at ef
    refine ⟨_, rfl, pf, (allP zs).map tx, rfl, by rw [List.map_map]; exact SqL.of ef, fun ys p perm _ np => ?_⟩
    obtain ⟨Z, rfl, pz⟩ := perm_tx perm
    refine q p Z _ (s1.trans (same_new np _)) ?_ pz
    rw [upd_same, List.map_map]
    rfl
def spNumber (N : Nat) : Sp := fun vs H Q _ => ∃ (v : V) (t : B), vs = [v] ∧ BAt H v t ∧ t.size < N ∧ t.size ≤ 15 ∧ ∀ (p : Addr) (H' : Hp), Same H H' → H' p = some (.lst [vn t.size, vn t.num]) → Q (.ref p) H'
theorem ok_number (F : Fun K "_law_number" "_law_number" s__law_number f fd) (M : Mgs mg) (b : Binds K fd ["_law_tree"] []) (g : mg "_law_number" = some (.ref f)) : ∀ N : Nat, FnOk P w K mg base CX0 N f fd ["_law_tree"] (spNumber N)
  | 0 => by
    have no : ∀ vs H Q E, ¬ spNumber 0 vs H Q E := fun vs H Q E h => by
      obtain ⟨v, t, _, _, h1, _⟩ := h
      omega
    exact ⟨fun vs H Q E h => absurd h (no vs H Q E), fun A outer s H args us vs Q E _ _ _ _ h => absurd h (no vs H Q E)⟩
  | N + 1 => by
    have Dself : Df P w K mg base N "_law_number" ["_law_tree"] (spNumber N) := ⟨f, fd, ok_number F M b g N, b, F.kp, g⟩
    refine F.ok sc__law_number (fun vs H Q E h => ?_) (fun cdv A outer s H vs Q E hr h => ?_)
    · obtain ⟨v, t, rfl, _⟩ := h
      rfl
    obtain ⟨v, t, rfl, hv, hn, hz, q⟩ := h
    refine ⟨_, (pss_cons (ps_if (pt_cmpR op_isN (pv 0) pe_non (nomark _))
      (pss_one (ps_ret (pe_lst (pa_cons pe_int (pa_cons pe_int pa_nil))))) pss_nil)
    (pss_cons (ps_par (i := 1) (j := 2) (by rfl) sc__law_number.nd rfl rfl (by decide) rfl rfl (pa_cons (pe_call Dself.ok (hr.mono (by omega)) rfl Dself.g Dself.kp Dself.b .nil pass0 (pa_cons (pe_ix ix_tup (pv 0) pe_int (fun _ _ => rfl)) pa_nil)) (pa_cons (pe_call Dself.ok (hr.mono (by omega)) rfl Dself.g Dself.kp Dself.b .nil pass0 (pa_cons (pe_ix ix_tup (pv 0) pe_int (fun _ _ => rfl)) pa_nil)) pa_nil)) (by rfl))
    (pss_cons (ps_par (i := 3) (j := 4) (by rfl) sc__law_number.nd rfl rfl (by decide) rfl rfl (pa_cons (pe_op op_add (pe_ix ix_list (pv 1) pe_int (fun _ _ => rfl)) (pe_ix ix_list (pv 2) pe_int (fun _ _ => rfl))) (pa_cons (pe_op op_mul (pe_ix ix_list (pv 1) pe_int (fun _ _ => rfl)) (pe_ix ix_list (pv 2) pe_int (fun _ _ => rfl))) pa_nil)) (by rfl))
    (pss_cons (ps_for PassesOwn.never rfl (pi_range1 rfl M.range (pa_cons (pe_ix ix_list (pv 1) pe_int (fun _ _ => rfl)) pa_nil)) (pg_name (i := 5) sc__law_number.nd rfl (.inl rfl))
      (pss_one (ps_set (i := 4) sc__law_number.nd rfl (.inl rfl) (pe_op op_mul (pv 4) (pe_op op_sub (pv 3) (pv 5))))))
    (pss_cons (ps_for PassesOwn.never rfl (pi_range1 rfl M.range (pa_cons (pe_ix ix_list (pv 1) pe_int (fun _ _ => rfl)) pa_nil)) (pg_name (i := 5) sc__law_number.nd rfl (.inl rfl))
      (pss_one (ps_set (i := 4) sc__law_number.nd rfl (.inl rfl) (pe_op op_fdiv (pv 4) (pe_op op_add (pv 5) pe_int)))))
    (pss_one (ps_ret (pe_lst (pa_cons (pe_op op_add (pv 3) pe_int) (pa_cons (pv 4) pa_nil)))))))))), ?_⟩
    rcases hv.inv with ⟨rfl, rfl⟩ | ⟨a, l, r, x, tl, tr, rfl, rfl, ea, hl, hr'⟩
    · refine ⟨_, rfl, rfl, _, rfl, iteT ⟨(by show 2 ≤ sizeLine; decide), fun p np => ?_⟩⟩
      exact q p _ (same_new np _) upd_same
    · have sz : tl.size + 1 + tr.size < N + 1 := hn
      have sz2 : tl.size + 1 + tr.size ≤ 15 := hz
      refine ⟨_, rfl, rfl, _, rfl, iteF ?_⟩
      refine ⟨_, rfl, a, _, _, _, rfl, rfl, SqT.of ea, atI_nat (j := 0) rfl, l, tl, rfl, hl, by omega, by omega, fun p1 H1 s1 e1 => ?_⟩
      refine ⟨_, rfl, a, _, _, _, rfl, rfl, SqT.of (s1 _ _ ea), atI_nat (j := 2) rfl, r, tr, rfl, hr'.same s1, by omega, by omega, fun p2 H2 s2 e2 => ⟨_, _, rfl, ?_⟩⟩
      have e1' := s2 _ _ e1
      have b1 := Nat.le_trans tl.num_le (fac15 (show tl.size ≤ 15 by omega))
      have b2 := Nat.le_trans tr.num_le (fac15 (show tr.size ≤ 15 by omega))
      refine ⟨_, rfl, p1, _, _, _, rfl, rfl, SqL.of e1', atI_nat (j := 0) rfl, _, rfl, p2, _, _, _, rfl, rfl, SqL.of e2, atI_nat (j := 0) rfl, _, _, rfl, rfl, ?_⟩
      refine ⟨_, rfl, p1, _, _, _, rfl, rfl, SqL.of e1', atI_nat (j := 1) rfl, _, rfl, p2, _, _, _, rfl, rfl, SqL.of e2, atI_nat (j := 1) rfl, _, _, rfl, rfl, .inl ⟨by omega, by omega⟩, ⟨_, _, rfl, ?_⟩⟩
      have ez : vn (tl.size + tr.size) = V.int ((tl.size : Int) + (tr.size : Int)) := congrArg V.int (by omega)
      have em : vn (tl.num * tr.num) = V.int ((tl.num : Int) * (tr.num : Int)) := congrArg V.int (Int.natCast_mul _ _)
      refine ⟨_, rfl, p1, _, _, _, rfl, rfl, SqL.of e1', atI_nat (j := 0) rfl, (tl.size : Int), rfl, by omega, by omega, ?_⟩
      rw [Int.toNat_natCast]
      have dle : ∀ k, k ≤ tl.size → desc (tl.size + tr.size) k ≤ 1307674368000 := fun k hk => Nat.le_trans (desc_le _ _ (by omega)) (fac15 (by omega))
      refine for_range (lo := 0) (n := tl.size) (fun i σ H' => ∃ (o5 : Option V), σ = [some (.ref a), some (.ref p1), some (.ref p2), some (vn (tl.size + tr.size)), some (vn (tl.num * tr.num * desc (tl.size + tr.size) i)), o5] ∧ H' = H2) ⟨none, by rw [ez, show tl.num * tr.num * desc (tl.size + tr.size) 0 = tl.num * tr.num from Nat.mul_one _, em]; rfl, rfl⟩ (fun i σ H3 hi hp => ?_) (fun σ H3 hp => ?_)
      · obtain ⟨o5, rfl, rfl⟩ := hp
        refine ⟨_, rfl, _, rfl, _, rfl, _, _, rfl, rfl, _, _, rfl, rfl, .inr ⟨by omega, by omega⟩, ?_⟩
        refine ⟨some (.int (0 + i)), ?_, rfl⟩
        have e : vn (tl.num * tr.num * desc (tl.size + tr.size) (i + 1)) = V.int (((tl.num * tr.num * desc (tl.size + tr.size) i : Nat) : Int) * (((tl.size + tr.size : Nat) : Int) - ((0 : Int) + (i : Int)))) := by
          refine congrArg V.int ?_
          rw [Int.zero_add, ← Int.ofNat_sub (by omega : i ≤ tl.size + tr.size), ← Int.natCast_mul]
          refine congrArg (fun n : Nat => (n : Int)) ?_
          show tl.num * tr.num * (desc (tl.size + tr.size) i * (tl.size + tr.size - i)) = _
          rw [Nat.mul_assoc (tl.num * tr.num)]
        rw [e]
        rfl
      obtain ⟨o5, rfl, rfl⟩ := hp
      refine ⟨_, rfl, p1, _, _, _, rfl, rfl, SqL.of e1', atI_nat (j := 0) rfl, (tl.size : Int), rfl, by omega, by omega, ?_⟩
      rw [Int.toNat_natCast]
      refine for_range (lo := 0) (n := tl.size) (fun i σ H' => ∃ (o5 : Option V), σ = [some (.ref a), some (.ref p1), some (.ref p2), some (vn (tl.size + tr.size)), some (vn (divs (tl.num * tr.num * desc (tl.size + tr.size) tl.size) i)), o5] ∧ H' = H3) ⟨o5, rfl, rfl⟩ (fun i σ H4 hi hp => ?_) (fun σ H4 hp => ?_)
      · obtain ⟨o5, rfl, rfl⟩ := hp
        refine ⟨_, rfl, _, rfl, _, _, rfl, rfl, _, _, rfl, rfl, ⟨by omega, by omega⟩, ?_⟩
        refine ⟨some (.int (0 + i)), ?_, rfl⟩
        have e : vn (divs (tl.num * tr.num * desc (tl.size + tr.size) tl.size) (i + 1)) = V.int (((divs (tl.num * tr.num * desc (tl.size + tr.size) tl.size) i : Nat) : Int) / ((0 : Int) + (i : Int) + 1)) := by
          refine congrArg V.int ?_
          rw [Int.zero_add]
          rfl
        rw [e]
        rfl
      obtain ⟨o5, rfl, rfl⟩ := hp
      rw [num_node tl x tr]
      refine ⟨_, rfl, _, _, rfl, rfl, _, rfl, (by show 2 ≤ sizeLine; decide), fun p np => ?_⟩
      refine q p _ ((s1.trans s2).trans (same_new np _)) (upd_same.trans ?_)
      refine congrArg (fun z : Int => some (HO.lst [V.int z, vn (B.node tl x tr).num])) ?_
      show ((tl.size + tr.size : Nat) : Int) + 1 = ((tl.size + 1 + tr.size : Nat) : Int)
      omega
end
/-! ### law -/
def ltB (t : B) : Prop := ∀ c ∈ t.pre, 97 ≤ c ∧ c ≤ 122
theorem ch_ok {c : Nat} (h : 97 ≤ c ∧ c ≤ 122) : (PyData.str (ch c)).canLay0 = true := by
  have : ∀ c : Nat, c < 123 → 97 ≤ c → (PyData.str (ch c)).canLay0 = true := by decide +kernel
  exact this c (by omega) h.1
theorem B.lay : ∀ t : B, ltB t → t.data.canLay0 = true
  | .nil, _ => by simp only [B.data, PyData.canLay0]
  | .node l x r, h => by
    have h1 := l.lay fun c hc => h c (List.mem_cons_of_mem _ (List.mem_append_left _ hc))
    have h2 := r.lay fun c hc => h c (List.mem_cons_of_mem _ (List.mem_append_right _ hc))
    have h3 := ch_ok (h x List.mem_cons_self)
    rw [show (B.node l x r).data.canLay0 = (l.data.canLay0 && ((PyData.str (ch x)).canLay0 && (r.data.canLay0 && true))) by simp only [B.data, PyData.canLay0, PyData.canLayAll0], h1, h2, h3]
    rfl
theorem B.shaped {t : B} (h : ltB t) (hd : t.size ≤ 60) : SeqAt.shaped t.data = true := by
  unfold SeqAt.shaped
  rw [t.lay h, B.data_depth, Bool.true_and]
  have := t.deep_le
  exact decide_eq_true (by omega)
theorem B.eqv_data : ∀ t u : B, PyData.eqv t.data u.data = t.beq u
  | .nil, .nil => by simp only [B.data, PyData.eqv, B.beq]
  | .nil, .node _ _ _ => by simp only [B.data, PyData.eqv, B.beq]
  | .node _ _ _, .nil => by simp only [B.data, PyData.eqv, B.beq]
  | .node l x r, .node l' x' r' => by
    have h1 := l.eqv_data l'
    have h2 := r.eqv_data r'
    have e : PyData.eqv (.str (ch x)) (.str (ch x')) = Nat.beq x x' := by
      simp only [PyData.eqv]
      by_cases h : x = x'
      · subst h; rw [beq_self_eq_true, Nat.beq_refl]
      · rw [beq_eq_false_iff_ne.mpr fun z => h (ch_inj z)]
        cases hb : Nat.beq x x' with
        | false => rfl
        | true => exact absurd (Nat.eq_of_beq_eq_true hb) h
    rw [show PyData.eqv (B.node l x r).data (B.node l' x' r').data = (PyData.eqv l.data l'.data && (PyData.eqv (.str (ch x)) (.str (ch x')) && (PyData.eqv r.data r'.data && true))) by simp only [B.data, PyData.eqv, PyData.eqvAll], h1, h2, e, Bool.and_true]
    show _ = (Nat.beq x x' && (l.beq l' && r.beq r'))
    cases Nat.beq x x' <;> cases l.beq l' <;> rfl
theorem okR_ch {c : Nat} (h : c < 128) : okR (.str (ch c)) = true := by
  simp only [okR, Bool.and_eq_true, decide_eq_true_eq, List.all_eq_true]
  refine ⟨by show 1 ≤ 64; decide, fun z hz => ?_⟩
  have : z = c := by simpa using hz
  omega
theorem okR_tree : ∀ t : B, ltB t → okR t.data = true ∧ wtR t.data ≤ 25 * t.size + 4
  | .nil, _ => by simp only [B.data, okR, wtR]; exact ⟨trivial, Nat.le_add_left ..⟩
  | .node l x r, h => by
    obtain ⟨a1, a2⟩ := okR_tree l fun c hc => h c (List.mem_cons_of_mem _ (List.mem_append_left _ hc))
    obtain ⟨b1, b2⟩ := okR_tree r fun c hc => h c (List.mem_cons_of_mem _ (List.mem_append_right _ hc))
    have hx := h x List.mem_cons_self
    have e1 : okR (.str (ch x)) = true := okR_ch (by omega)
    have e2 : wtR (.str (ch x)) = 12 := rfl
    simp only [B.data, okR, okRs, a1, b1, Bool.and_true, Bool.true_and]
    refine ⟨by simpa only [okR] using e1, ?_⟩
    show wtR (.tuple [l.data, .str (ch x), r.data]) ≤ 25 * (l.size + 1 + r.size) + 4
    have e3 : wtR (.tuple [l.data, .str (ch x), r.data]) = 3 + (wtR l.data + 2 + (wtR (.str (ch x)) + 2 + (wtR r.data + 2 + 0))) := by simp only [wtR, wtRs]
    rw [e3, e2]
    omega
def twoD (m : Nat) : PyData := .list [.int (m : Int), .int (m : Int)]
theorem two_ok (m : Nat) : (twoD m).depth < 20 ∧ nar (twoD m) = true := by
  refine ⟨by simp only [twoD, PyData.depth, PyData.depthAll]; decide, ?_⟩
  simp only [twoD, nar, narAll, Bool.and_self, Bool.and_true, List.length_cons, List.length_nil]
  exact decide_eq_true (by omega)
section
variable {P : Program} {w : World} {K : PySem.W.Frag} {mg : Str → Option Value} {base : Heap} {f : Addr} {fd : FuncData}
theorem run_law {s : Shared} {H : Hp} {a : Addr} {ns : List Int} (F : Fun K "law" "law" s_law f fd) (bd : BindsTo s fd ⟨[.ref a], []⟩ [("_law_script", .ref a)]) (en : Env0 P w K mg base callerA [] s H) (hS : SqL K H a (ns.map V.int)) (hn : ns.length ≤ 63)
    (M : Mgs mg) (D_law_begin : Df P w K mg base 1 "_law_begin" ["_law_script"] (spBegin K)) (D_law_order : Df P w K mg base 32 "_law_order" ["_law_deck", "_law_low", "_law_high"] spOrder) (D_law_grown : Df P w K mg base 41 "_law_grown" ["_law_order_here"] spGr)
    (D_law_same : Df P w K mg base 20 "_law_same" ["_law_found", "_law_due"] (spSame K 20)) (D_law_all : Df P w K mg base 1 "_law_all" ["_law_letters"] spAll) (D_law_number : Df P w K mg base 20 "_law_number" ["_law_tree"] (spNumber 20)) (Dcount_orders : Df P w K mg base 22 "count_orders" ["tree"] spCountO) :
    codeAny (model P w) callerA (.call (.ref f) ⟨[.ref a], []⟩) (CR CX0 [] P w H s (fun v _ => v = .bl true) fun _ _ _ => False) s := by
  refine enter_def (k := 64) (vs := [.ref a]) (us := [.ref a]) F sc_law ⟨rfl, by decide, by decide⟩ en bd (.cons rfl .nil) rfl fun cdv hr => ?_
  refine ⟨_, (pss_cons (ps_set (i := 1) sc_law.nd rfl (.inl rfl) (pe_call D_law_begin.ok (hr.mono (by omega)) rfl D_law_begin.g D_law_begin.kp D_law_begin.b .nil pass0 (pa_cons (pv 0) pa_nil)))
    (pss_cons (ps_for PassesOwn.never rfl (pi_range1 rfl M.range (pa_cons pe_int pa_nil)) (pg_name (i := 2) sc_law.nd rfl (.inl rfl))
      (pss_cons (ps_set (i := 3) sc_law.nd rfl (.inl rfl) (pe_call D_law_order.ok (hr.mono (by omega)) rfl D_law_order.g D_law_order.kp D_law_order.b .nil pass0 (pa_cons (pv 1) (pa_cons pe_int (pa_cons pe_int pa_nil)))))
    (pss_cons (ps_set (i := 4) sc_law.nd rfl (.inr rfl) (pe_call D_law_grown.ok (hr.mono (by omega)) rfl D_law_grown.g D_law_grown.kp D_law_grown.b .nil pass0 (pa_cons (pv 3) pa_nil)))
    (pss_cons (ps_set (i := 6) sc_law.nd rfl (.inl rfl) (pe_callB call_len_seq rfl M.len PySem.boot_len (pa_cons (pe_lc (own := [("_law_other", 5)]) (g := gName 5) rfl sc_law.nd (pi_list (pe_call D_law_all.ok (hr.mono (by omega)) rfl D_law_all.g D_law_all.kp D_law_all.b .nil pass0 (pa_cons (pv 3) pa_nil))) (blkOk_by (N := ["_law_script", "_law_deck", "_law_turn", "_law_order_here", "_law_tree", "_law_other", "_law_due", "_law_kept"]) (sc := defScope s_law) (by decide +kernel)) (fun _ _ _ _ _ => (pg_name (i := 5) sc_law.nd rfl (.inl rfl))) (fun _ _ _ _ _ => pts_one (pt_cmpR (show OpR _ (compareOp .Eq) (rEqD K) from op_eqD hr.units) (pe_call D_law_grown.ok (hr.mono (by omega)) rfl D_law_grown.g D_law_grown.kp D_law_grown.b .nil pass0 (pa_cons (pv 5) pa_nil)) (pv 4) (nomark _))) (fun _ _ _ _ _ => (pv 5))) pa_nil)))
    (pss_one (ps_if (pt_not (pt_val (pe_call D_law_same.ok (hr.mono (by omega)) rfl D_law_same.g D_law_same.kp D_law_same.b .nil pass0 (pa_cons (pe_lst (pa_cons (pe_call Dcount_orders.ok (hr.mono (by omega)) rfl Dcount_orders.g Dcount_orders.kp Dcount_orders.b .nil pass0 (pa_cons (pv 4) pa_nil)) (pa_cons (pe_ix ix_list (pe_call D_law_number.ok (hr.mono (by omega)) rfl D_law_number.g D_law_number.kp D_law_number.b .nil pass0 (pa_cons (pv 4) pa_nil)) pe_int (fun _ _ => rfl)) pa_nil))) (pa_cons (pe_lst (pa_cons (pv 6) (pa_cons (pv 6) pa_nil))) pa_nil)))))
      (pss_one (ps_ret pe_bl)) pss_nil))))))
    (pss_cons (ps_for PassesOwn.never rfl (pi_range1 rfl M.range (pa_cons pe_int pa_nil)) (pg_name (i := 2) sc_law.nd rfl (.inl rfl))
      (pss_cons (ps_set (i := 4) sc_law.nd rfl (.inr rfl) (pe_call D_law_grown.ok (hr.mono (by omega)) rfl D_law_grown.g D_law_grown.kp D_law_grown.b .nil pass0 (pa_cons (pe_call D_law_order.ok (hr.mono (by omega)) rfl D_law_order.g D_law_order.kp D_law_order.b .nil pass0 (pa_cons (pv 1) (pa_cons pe_int (pa_cons pe_int pa_nil)))) pa_nil)))
    (pss_cons (ps_par (i := 7) (j := 6) (by rfl) sc_law.nd rfl rfl (by decide) rfl rfl (pa_cons (pe_callB (call_reprR rfl hr.units) rfl M.repr (by decide +kernel) (pa_cons (pv 4) pa_nil)) (pa_cons (pe_ix ix_list (pe_call D_law_number.ok (hr.mono (by omega)) rfl D_law_number.g D_law_number.kp D_law_number.b .nil pass0 (pa_cons (pv 4) pa_nil)) pe_int (fun _ _ => rfl)) pa_nil)) (by rfl))
    (pss_one (ps_if (PW.pt (pw_or (pt_not (pt_val (pe_call D_law_same.ok (hr.mono (by omega)) rfl D_law_same.g D_law_same.kp D_law_same.b .nil pass0 (pa_cons (pe_lst (pa_cons (pe_call Dcount_orders.ok (hr.mono (by omega)) rfl Dcount_orders.g Dcount_orders.kp Dcount_orders.b .nil pass0 (pa_cons (pv 4) pa_nil)) (pa_cons (pe_call Dcount_orders.ok (hr.mono (by omega)) rfl Dcount_orders.g Dcount_orders.kp Dcount_orders.b .nil pass0 (pa_cons (pv 4) pa_nil)) pa_nil))) (pa_cons (pe_lst (pa_cons (pv 6) (pa_cons (pv 6) pa_nil))) pa_nil))))) (pw_or1 (pt_cmpR op_ne (pe_callB (call_reprR rfl hr.units) rfl M.repr (by decide +kernel) (pa_cons (pv 4) pa_nil)) (pv 7) (nomark _)))))
      (pss_one (ps_ret pe_bl)) pss_nil)))))
    (pss_one (ps_ret pe_bl))))), ?_⟩
  refine ⟨_, rfl, a, ns, rfl, hS, hn, fun D H1 d1 s1 => ?_⟩
  refine ⟨4, rfl, by decide, by decide, ?_⟩
  refine for_range (lo := 0) (n := 4) (fun i σ H' => ∃ o2 o3 o4 o6 o7, σ = [some (.ref a), some (.ref D.dk), o2, o3, o4, none, o6, o7] ∧ DeckOk H' D) ⟨_, _, _, _, _, rfl, d1⟩ (fun i σ H2 hi hp => ?_) (fun σ H2 hp => ?_)
  · obtain ⟨o2, o3, o4, o6, o7, rfl, d2⟩ := hp
    refine ⟨_, rfl, D, 1, 5, rfl, d2, by decide, by decide, fun zs H3 d3 s3 lz z1 z5 => ?_⟩
    refine ⟨_, rfl, zs, rfl, by omega, fun v H4 s4 hv => ?_⟩
    have gs : (gr zs).size = zs.length := gr_size zs
    have lb : ltB (gr zs) := fun c hc => lz.2 c ((gr_mem' zs c).mp hc)
    refine ⟨_, rfl, zs, rfl, z5, fun pa ys H5 s5 ea perm => ⟨pa, rfl, ⟨_, SqL.of ea⟩, fun DL nDL => ?_⟩⟩
    have kD := same_new nDL (.lst [])
    have yl : ys.length ≤ 120 := by
      rw [perm.length_eq, allP_len]
      exact Nat.le_trans (facN_mono z5) (by decide)
    refine lc_list (K := K) (a := pa) (xs := ys.map vt) (fun j H' => Same H5 H' ∧ H' DL = some (.lst (((ys.take j).filter fun p => (gr p).beq (gr zs)).map vt))) ⟨kD, upd_same⟩ (fun j H' _ hp => SqL.of (hp.1 _ _ ea)) (fun j x H6 hx hp => ?_) (fun H6 hp => ?_)
    · obtain ⟨s6, eD⟩ := hp
      rw [List.getElem?_map] at hx
      obtain ⟨p, hpj, rfl⟩ := Option.map_eq_some_iff.mp hx
      have hj := (List.getElem?_eq_some_iff.mp hpj).1
      have pp := allP_perm zs p (perm.mem_iff.mp (List.mem_of_getElem? hpj))
      have pl := pp.length_eq
      have lp : ltB (gr p) := fun c hc => lz.2 c (pp.mem_iff.mp ((gr_mem' p c).mp hc))
      have gp : (gr p).size = p.length := gr_size p
      have fl : ((ys.take j).filter fun p => (gr p).beq (gr zs)).length ≤ 120 := by
        have h1 := List.length_filter_le (fun p => (gr p).beq (gr zs)) (ys.take j)
        rw [List.length_take] at h1
        omega
      refine ⟨rfl, ⟨_, rfl, p, rfl, by omega, fun v' H7 s7 hv' => ⟨_, rfl, (gr p).data, (gr zs).data, hv'.dp, ((hv.same s5).same (s6.trans s7)).dp, B.shaped lp (by omega), B.shaped lb (by omega), ?_⟩⟩⟩
      refine ⟨_, rfl, ?_⟩
      rw [B.eqv_data]
      have tk := take_nextG hpj
      have s67 := s6.trans s7
      cases hb : (gr p).beq (gr zs) with
      | true =>
        refine iteT ⟨_, rfl, _, s7 _ _ eD, by rw [List.length_map]; exact small1000 (by omega), fun b o e => ?_, ?_⟩
        · rw [upd_ne (ne_of_none e nDL)]; exact s67 _ _ e
        · rw [upd_same, tk, List.filter_append, List.map_append, show [p].filter (fun p => (gr p).beq (gr zs)) = [p] by simp [hb]]
          rfl
      | false =>
        refine iteF ⟨s67, ?_⟩
        rw [tk, List.filter_append, show [p].filter (fun p => (gr p).beq (gr zs)) = [] by simp [hb], List.append_nil]
        exact s7 _ _ eD
    obtain ⟨s6, eD⟩ := hp
    rw [List.length_map, List.take_length] at eD
    have hmany : (ys.filter fun p => (gr p).beq (gr zs)).length = (gr zs).num := by
      rw [(perm.filter _).length_eq]
      exact many_num lz.1 z5
    refine ⟨DL, _, rfl, .inl (SqL.of eD), ?_⟩
    have em : V.int ((((ys.filter fun p => (gr p).beq (gr zs)).map vt).length : Nat) : Int) = vn (gr zs).num := congrArg V.int (by rw [List.length_map, hmany])
    rw [em]
    have s46 := s5.trans s6
    have hv6 := hv.same s46
    refine ⟨_, rfl, v, gr zs, rfl, hv6, by omega, fun H7 s7 => ?_⟩
    refine ⟨_, rfl, v, gr zs, rfl, hv6.same s7, by omega, by omega, fun pn H8 s8 en8 => ?_⟩
    refine ⟨pn, _, _, _, rfl, rfl, SqL.of en8, atI_nat (j := 1) rfl, (by show 2 ≤ sizeLine; decide), fun p1 n1 => ?_⟩
    have q1 := same_new n1 (.lst [vn (gr zs).num, vn (gr zs).num])
    refine ⟨_, rfl, _, rfl, (by show 2 ≤ sizeLine; decide), fun p2 n2 => ?_⟩
    have q2 := same_new n2 (.lst [vn (gr zs).num, vn (gr zs).num])
    have e1 := q2 _ _ (upd_same (H := H8) (a := p1) (o := .lst [vn (gr zs).num, vn (gr zs).num]))
    have e2 := upd_same (H := upd H8 p1 (.lst [vn (gr zs).num, vn (gr zs).num])) (a := p2) (o := .lst [vn (gr zs).num, vn (gr zs).num])
    obtain ⟨t1, t2⟩ := two_ok (gr zs).num
    refine ⟨_, _, twoD (gr zs).num, rfl, .lst (SqL.of e1) (.cons (.int _) (.cons (.int _) .nil)), .lst (SqL.of e2) (.cons (.int _) (.cons (.int _) .nil)), t1, t2, fun H9 s9 => ?_⟩
    refine ⟨_, rfl, iteF ?_⟩
    exact ⟨_, _, _, _, _, rfl, (d3.same s4).same ((s46.trans (s7.trans s8)).trans ((q1.trans q2).trans s9))⟩
  obtain ⟨o2, o3, o4, o6, o7, rfl, d2⟩ := hp
  refine ⟨8, rfl, by decide, by decide, ?_⟩
  refine for_range (lo := 0) (n := 8) (fun i σ H' => ∃ o2 o3 o4 o6 o7, σ = [some (.ref a), some (.ref D.dk), o2, o3, o4, none, o6, o7] ∧ DeckOk H' D) ⟨_, _, _, _, _, rfl, d2⟩ (fun i σ H3 hi hp => ?_) (fun σ H3 hp => ?_)
  · obtain ⟨o2, o3, o4, o6, o7, rfl, d3⟩ := hp
    refine ⟨_, rfl, D, 1, 12, rfl, d3, by decide, by decide, fun zs H4 d4 s4 lz z1 z12 => ?_⟩
    refine ⟨zs, rfl, by omega, fun v H5 s5 hv => ?_⟩
    have gs : (gr zs).size = zs.length := gr_size zs
    have lb : ltB (gr zs) := fun c hc => lz.2 c ((gr_mem' zs c).mp hc)
    obtain ⟨r1, r2⟩ := okR_tree (gr zs) lb
    obtain ⟨ta, l, r, x, tl, tr, rfl, eg, _⟩ : ∃ ta l r x tl tr, v = .ref ta ∧ gr zs = B.node tl x tr ∧ True := by
      rcases hv.inv with ⟨_, h⟩ | ⟨ta, l, r, x, tl, tr, h1, h2, _⟩
      · rw [h] at gs; exact absurd gs (by show ¬ 0 = zs.length; omega)
      · exact ⟨ta, l, r, x, tl, tr, h1, h2, trivial⟩
    have gd := (gr zs).deep_le
    have rd : (gr zs).data.depth ≤ 60 := by rw [B.data_depth]; omega
    refine ⟨_, rfl, ta, (gr zs).data, rfl, hv.dp, r1, by omega, rd, ?_⟩
    refine ⟨_, rfl, .ref ta, gr zs, rfl, hv, by omega, by omega, fun pn H6 s6 en6 => ?_⟩
    refine ⟨pn, _, _, _, rfl, rfl, SqL.of en6, atI_nat (j := 1) rfl, ⟨_, _, rfl, ?_⟩⟩
    have hv6 := hv.same s6
    refine ⟨_, rfl, .ref ta, gr zs, rfl, hv6, by omega, fun H7 s7 => ?_⟩
    have hv7 := hv6.same s7
    refine ⟨_, rfl, .ref ta, gr zs, rfl, hv7, by omega, fun H8 s8 => ⟨(by show 2 ≤ sizeLine; decide), fun p1 n1 => ?_⟩⟩
    have q1 := same_new n1 (.lst [vn (gr zs).num, vn (gr zs).num])
    refine ⟨_, rfl, _, rfl, (by show 2 ≤ sizeLine; decide), fun p2 n2 => ?_⟩
    have q2 := same_new n2 (.lst [vn (gr zs).num, vn (gr zs).num])
    have e1 := q2 _ _ (upd_same (H := H8) (a := p1) (o := .lst [vn (gr zs).num, vn (gr zs).num]))
    have e2 := upd_same (H := upd H8 p1 (.lst [vn (gr zs).num, vn (gr zs).num])) (a := p2) (o := .lst [vn (gr zs).num, vn (gr zs).num])
    obtain ⟨t1, t2⟩ := two_ok (gr zs).num
    refine ⟨_, _, twoD (gr zs).num, rfl, .lst (SqL.of e1) (.cons (.int _) (.cons (.int _) .nil)), .lst (SqL.of e2) (.cons (.int _) (.cons (.int _) .nil)), t1, t2, fun H9 s9 => ?_⟩
    refine ⟨_, rfl, iteF ?_⟩
    have s59 := s6.trans ((s7.trans s8).trans ((q1.trans q2).trans s9))
    refine ⟨_, rfl, ta, (gr zs).data, rfl, (hv.same s59).dp, r1, by omega, rd, _, rfl, rfl, _, rfl, iteNS rfl ?_⟩
    exact ⟨_, _, _, _, _, rfl, (d4.same s5).same s59⟩
  · exact rfl
end
/-! ### what the top has left -/
theorem all_mk {l : PySem.W.OpenLaw} {w : World} {K : PySem.W.Frag} {h : Heap} {mg : Str → Option Value} {fa f1 f2 f3 f4 f5 f6 f7 f8 f9 f10 f11 f12 f13 f14  : Addr} (X : K.In h) (G : h.Ns mainGlobals mg) (hfa : mg "law" = some (.ref fa))
    {od1 an1 od2 an2 od3 an3 od4 an4 od5 an5 od6 an6 od7 an7 od8 an8 od9 an9 od10 an10 od11 an11 od12 an12 od13 an13 od14 an14 : Option Addr} {sl1 sl2 sl3 sl4 sl5 sl6 sl7 sl8 sl9 sl10 sl11 sl12 sl13 sl14 : Array (Option Value)}
    {oc1 kV1 dc1 pm1 cd1 ct1 oc2 kV2 dc2 pm2 cd2 ct2 oc3 kV3 dc3 pm3 cd3 ct3 oc4 kV4 dc4 pm4 cd4 ct4 oc5 kV5 dc5 pm5 cd5 ct5 oc6 kV6 dc6 pm6 cd6 ct6 oc7 kV7 dc7 pm7 cd7 ct7 oc8 kV8 dc8 pm8 cd8 ct8 oc9 kV9 dc9 pm9 cd9 ct9 oc10 kV10 dc10 pm10 cd10 ct10 oc11 kV11 dc11 pm11 cd11 ct11 oc12 kV12 dc12 pm12 cd12 ct12 oc13 kV13 dc13 pm13 cd13 ct13 oc14 kV14 dc14 pm14 cd14 ct14 : Value}
    (a1 : PySem.W.nsIn K mainGlobals "sizes_in" = some (some (.ref f1)))
    (l1 : K.lookup f1 = some ⟨oc1, od1, .func (PySem.W.fnOf "sizes_in" "sizes_in" (defArgs s_sizes_in) (defBody s_sizes_in) (defScope s_sizes_in) .none kV1 dc1 pm1 an1 cd1 ct1), sl1⟩)
    (c1 : PySem.W.codeIn K cd1 "sizes_in" = true)
    (k1 : PySem.W.keepIn K (.ref f1) = true)
    (a2 : PySem.W.nsIn K mainGlobals "count_together" = some (some (.ref f2)))
    (l2 : K.lookup f2 = some ⟨oc2, od2, .func (PySem.W.fnOf "count_together" "count_together" (defArgs s_count_together) (defBody s_count_together) (defScope s_count_together) .none kV2 dc2 pm2 an2 cd2 ct2), sl2⟩)
    (c2 : PySem.W.codeIn K cd2 "count_together" = true)
    (k2 : PySem.W.keepIn K (.ref f2) = true)
    (a3 : PySem.W.nsIn K mainGlobals "count_orders" = some (some (.ref f3)))
    (l3 : K.lookup f3 = some ⟨oc3, od3, .func (PySem.W.fnOf "count_orders" "count_orders" (defArgs s_count_orders) (defBody s_count_orders) (defScope s_count_orders) .none kV3 dc3 pm3 an3 cd3 ct3), sl3⟩)
    (c3 : PySem.W.codeIn K cd3 "count_orders" = true)
    (k3 : PySem.W.keepIn K (.ref f3) = true)
    (a4 : PySem.W.nsIn K mainGlobals "_law_begin" = some (some (.ref f4)))
    (l4 : K.lookup f4 = some ⟨oc4, od4, .func (PySem.W.fnOf "_law_begin" "_law_begin" (defArgs s__law_begin) (defBody s__law_begin) (defScope s__law_begin) .none kV4 dc4 pm4 an4 cd4 ct4), sl4⟩)
    (c4 : PySem.W.codeIn K cd4 "_law_begin" = true)
    (k4 : PySem.W.keepIn K (.ref f4) = true)
    (a5 : PySem.W.nsIn K mainGlobals "_law_next" = some (some (.ref f5)))
    (l5 : K.lookup f5 = some ⟨oc5, od5, .func (PySem.W.fnOf "_law_next" "_law_next" (defArgs s__law_next) (defBody s__law_next) (defScope s__law_next) .none kV5 dc5 pm5 an5 cd5 ct5), sl5⟩)
    (c5 : PySem.W.codeIn K cd5 "_law_next" = true)
    (k5 : PySem.W.keepIn K (.ref f5) = true)
    (a6 : PySem.W.nsIn K mainGlobals "_law_same" = some (some (.ref f6)))
    (l6 : K.lookup f6 = some ⟨oc6, od6, .func (PySem.W.fnOf "_law_same" "_law_same" (defArgs s__law_same) (defBody s__law_same) (defScope s__law_same) .none kV6 dc6 pm6 an6 cd6 ct6), sl6⟩)
    (c6 : PySem.W.codeIn K cd6 "_law_same" = true)
    (k6 : PySem.W.keepIn K (.ref f6) = true)
    (a7 : PySem.W.nsIn K mainGlobals "_law_mixed" = some (some (.ref f7)))
    (l7 : K.lookup f7 = some ⟨oc7, od7, .func (PySem.W.fnOf "_law_mixed" "_law_mixed" (defArgs s__law_mixed) (defBody s__law_mixed) (defScope s__law_mixed) .none kV7 dc7 pm7 an7 cd7 ct7), sl7⟩)
    (c7 : PySem.W.codeIn K cd7 "_law_mixed" = true)
    (k7 : PySem.W.keepIn K (.ref f7) = true)
    (a8 : PySem.W.nsIn K mainGlobals "_law_free" = some (some (.ref f8)))
    (l8 : K.lookup f8 = some ⟨oc8, od8, .func (PySem.W.fnOf "_law_free" "_law_free" (defArgs s__law_free) (defBody s__law_free) (defScope s__law_free) .none kV8 dc8 pm8 an8 cd8 ct8), sl8⟩)
    (c8 : PySem.W.codeIn K cd8 "_law_free" = true)
    (k8 : PySem.W.keepIn K (.ref f8) = true)
    (a9 : PySem.W.nsIn K mainGlobals "_law_order" = some (some (.ref f9)))
    (l9 : K.lookup f9 = some ⟨oc9, od9, .func (PySem.W.fnOf "_law_order" "_law_order" (defArgs s__law_order) (defBody s__law_order) (defScope s__law_order) .none kV9 dc9 pm9 an9 cd9 ct9), sl9⟩)
    (c9 : PySem.W.codeIn K cd9 "_law_order" = true)
    (k9 : PySem.W.keepIn K (.ref f9) = true)
    (a10 : PySem.W.nsIn K mainGlobals "_law_put" = some (some (.ref f10)))
    (l10 : K.lookup f10 = some ⟨oc10, od10, .func (PySem.W.fnOf "_law_put" "_law_put" (defArgs s__law_put) (defBody s__law_put) (defScope s__law_put) .none kV10 dc10 pm10 an10 cd10 ct10), sl10⟩)
    (c10 : PySem.W.codeIn K cd10 "_law_put" = true)
    (k10 : PySem.W.keepIn K (.ref f10) = true)
    (a11 : PySem.W.nsIn K mainGlobals "_law_grown" = some (some (.ref f11)))
    (l11 : K.lookup f11 = some ⟨oc11, od11, .func (PySem.W.fnOf "_law_grown" "_law_grown" (defArgs s__law_grown) (defBody s__law_grown) (defScope s__law_grown) .none kV11 dc11 pm11 an11 cd11 ct11), sl11⟩)
    (c11 : PySem.W.codeIn K cd11 "_law_grown" = true)
    (k11 : PySem.W.keepIn K (.ref f11) = true)
    (a12 : PySem.W.nsIn K mainGlobals "_law_all" = some (some (.ref f12)))
    (l12 : K.lookup f12 = some ⟨oc12, od12, .func (PySem.W.fnOf "_law_all" "_law_all" (defArgs s__law_all) (defBody s__law_all) (defScope s__law_all) .none kV12 dc12 pm12 an12 cd12 ct12), sl12⟩)
    (c12 : PySem.W.codeIn K cd12 "_law_all" = true)
    (k12 : PySem.W.keepIn K (.ref f12) = true)
    (a13 : PySem.W.nsIn K mainGlobals "_law_number" = some (some (.ref f13)))
    (l13 : K.lookup f13 = some ⟨oc13, od13, .func (PySem.W.fnOf "_law_number" "_law_number" (defArgs s__law_number) (defBody s__law_number) (defScope s__law_number) .none kV13 dc13 pm13 an13 cd13 ct13), sl13⟩)
    (c13 : PySem.W.codeIn K cd13 "_law_number" = true)
    (k13 : PySem.W.keepIn K (.ref f13) = true)
    (a14 : PySem.W.nsIn K mainGlobals "law" = some (some (.ref f14)))
    (l14 : K.lookup f14 = some ⟨oc14, od14, .func (PySem.W.fnOf "law" "law" (defArgs s_law) (defBody s_law) (defScope s_law) .none kV14 dc14 pm14 an14 cd14 ct14), sl14⟩)
    (c14 : PySem.W.codeIn K cd14 "law" = true)
    (k14 : PySem.W.keepIn K (.ref f14) = true)
    (z1 : PySem.W.nsIn K mainGlobals "zip" = some none)
    (z2 : PySem.W.nsIn K mainGlobals "all" = some none)
    (z3 : PySem.W.nsIn K mainGlobals "repr" = some none)
    (z4 : PySem.W.nsIn K mainGlobals "len" = some none)
    (z5 : PySem.W.nsIn K mainGlobals "isinstance" = some none)
    (z6 : PySem.W.nsIn K mainGlobals "list" = some none)
    (z7 : PySem.W.nsIn K mainGlobals "tuple" = some none)
    (z8 : PySem.W.nsIn K mainGlobals "str" = some none)
    (z9 : PySem.W.nsIn K mainGlobals "int" = some none)
    (z10 : PySem.W.nsIn K mainGlobals "bool" = some none)
    (z11 : PySem.W.nsIn K mainGlobals "dict" = some none)
    (z12 : PySem.W.nsIn K mainGlobals "range" = some none)
    (z13 : PySem.W.nsIn K mainGlobals "sorted" = some none)
    (z14 : PySem.W.nsIn K mainGlobals "abs" = some none)
    (z15 : PySem.W.nsIn K mainGlobals "min" = some none)
    (z16 : PySem.W.nsIn K mainGlobals "max" = some none)
    : ∀ (base : Heap) (H : Hp) (s : Shared) (a : Addr) (ns : List Int), K.In base → base.Ns mainGlobals mg → Env0 l.prog w K mg base callerA [] s H → SqL K H a (ns.map V.int) → ns.length ≤ 63 →
      codeAny (model l.prog w) callerA (.call (.ref fa) ⟨[.ref a], []⟩) (CR CX0 [] l.prog w H s (fun v _ => v = .bl true) fun _ _ _ => False) s := by
  intro base H s a ns _ _ en hS hn
  have e := hfa.symm.trans (PySem.W.mg_of X G a14)
  cases e
  have F1 := fun_mk (st := s_sizes_in) l1 c1 k1
  have g1 := PySem.W.mg_of X G a1
  have F2 := fun_mk (st := s_count_together) l2 c2 k2
  have g2 := PySem.W.mg_of X G a2
  have F3 := fun_mk (st := s_count_orders) l3 c3 k3
  have g3 := PySem.W.mg_of X G a3
  have F4 := fun_mk (st := s__law_begin) l4 c4 k4
  have g4 := PySem.W.mg_of X G a4
  have F5 := fun_mk (st := s__law_next) l5 c5 k5
  have g5 := PySem.W.mg_of X G a5
  have F6 := fun_mk (st := s__law_same) l6 c6 k6
  have g6 := PySem.W.mg_of X G a6
  have F7 := fun_mk (st := s__law_mixed) l7 c7 k7
  have g7 := PySem.W.mg_of X G a7
  have F8 := fun_mk (st := s__law_free) l8 c8 k8
  have g8 := PySem.W.mg_of X G a8
  have F9 := fun_mk (st := s__law_order) l9 c9 k9
  have g9 := PySem.W.mg_of X G a9
  have F10 := fun_mk (st := s__law_put) l10 c10 k10
  have g10 := PySem.W.mg_of X G a10
  have F11 := fun_mk (st := s__law_grown) l11 c11 k11
  have g11 := PySem.W.mg_of X G a11
  have F12 := fun_mk (st := s__law_all) l12 c12 k12
  have g12 := PySem.W.mg_of X G a12
  have F13 := fun_mk (st := s__law_number) l13 c13 k13
  have g13 := PySem.W.mg_of X G a13
  have F14 := fun_mk (st := s_law) l14 c14 k14
  have m_zip := PySem.W.mg_none_of X G z1
  have m_all := PySem.W.mg_none_of X G z2
  have m_repr := PySem.W.mg_none_of X G z3
  have m_len := PySem.W.mg_none_of X G z4
  have m_isinstance := PySem.W.mg_none_of X G z5
  have m_list := PySem.W.mg_none_of X G z6
  have m_tuple := PySem.W.mg_none_of X G z7
  have m_str := PySem.W.mg_none_of X G z8
  have m_int := PySem.W.mg_none_of X G z9
  have m_bool := PySem.W.mg_none_of X G z10
  have m_dict := PySem.W.mg_none_of X G z11
  have m_range := PySem.W.mg_none_of X G z12
  have m_sorted := PySem.W.mg_none_of X G z13
  have m_abs := PySem.W.mg_none_of X G z14
  have m_min := PySem.W.mg_none_of X G z15
  have m_max := PySem.W.mg_none_of X G z16
  have b1 := F1.binds (ps := ["tree"]) fun _ _ _ _ _ _ us hl => match us, hl with | [_], _ => rfl
  have b2 := F2.binds (ps := ["parts"]) fun _ _ _ _ _ _ us hl => match us, hl with | [_], _ => rfl
  have b3 := F3.binds (ps := ["tree"]) fun _ _ _ _ _ _ us hl => match us, hl with | [_], _ => rfl
  have b4 := F4.binds (ps := ["_law_script"]) fun _ _ _ _ _ _ us hl => match us, hl with | [_], _ => rfl
  have b5 := F5.binds (ps := ["_law_deck", "_law_many"]) fun _ _ _ _ _ _ us hl => match us, hl with | [_, _], _ => rfl
  have b6 := F6.binds (ps := ["_law_found", "_law_due"]) fun _ _ _ _ _ _ us hl => match us, hl with | [_, _], _ => rfl
  have b7 := F7.binds (ps := ["_law_deck", "_law_items"]) fun _ _ _ _ _ _ us hl => match us, hl with | [_, _], _ => rfl
  have b8 := F8.binds (ps := ["_law_deck", "_law_letters"]) fun _ _ _ _ _ _ us hl => match us, hl with | [_, _], _ => rfl
  have b9 := F9.binds (ps := ["_law_deck", "_law_low", "_law_high"]) fun _ _ _ _ _ _ us hl => match us, hl with | [_, _, _], _ => rfl
  have b10 := F10.binds (ps := ["_law_tree", "_law_letter"]) fun _ _ _ _ _ _ us hl => match us, hl with | [_, _], _ => rfl
  have b11 := F11.binds (ps := ["_law_order_here"]) fun _ _ _ _ _ _ us hl => match us, hl with | [_], _ => rfl
  have b12 := F12.binds (ps := ["_law_letters"]) fun _ _ _ _ _ _ us hl => match us, hl with | [_], _ => rfl
  have b13 := F13.binds (ps := ["_law_tree"]) fun _ _ _ _ _ _ us hl => match us, hl with | [_], _ => rfl
  have M : Mgs mg := ⟨m_zip, m_all, m_repr, m_len, m_isinstance, m_list, m_tuple, m_str, m_int, m_bool, m_dict, m_range, m_sorted, m_abs, m_min, m_max⟩
  have D_law_begin : Df l.prog w K mg base 1 "_law_begin" ["_law_script"] (spBegin K) := ⟨f4, _, ok_begin (k := 0) F4 M, b4, k4, g4⟩
  have D_law_next : Df l.prog w K mg base 1 "_law_next" ["_law_deck", "_law_many"] spNext := ⟨f5, _, ok_next (k := 0) F5, b5, k5, g5⟩
  have D_law_same : Df l.prog w K mg base 20 "_law_same" ["_law_found", "_law_due"] (spSame K 20) := ⟨f6, _, ok_same F6 b6 g6 M 20, b6, k6, g6⟩
  have D_law_mixed : Df l.prog w K mg base 2 "_law_mixed" ["_law_deck", "_law_items"] spMixed := ⟨f7, _, ok_mixed F7 M D_law_next, b7, k7, g7⟩
  have D_law_free : Df l.prog w K mg base 31 "_law_free" ["_law_deck", "_law_letters"] (spFree 30) := ⟨f8, _, ok_free F8 b8 g8 M D_law_next 30, b8, k8, g8⟩
  have D_law_order : Df l.prog w K mg base 32 "_law_order" ["_law_deck", "_law_low", "_law_high"] spOrder := ⟨f9, _, ok_order F9 M D_law_next D_law_mixed D_law_free, b9, k9, g9⟩
  have D_law_put : Df l.prog w K mg base 40 "_law_put" ["_law_tree", "_law_letter"] (spPut 40) := ⟨f10, _, ok_put F10 b10 g10 40, b10, k10, g10⟩
  have D_law_grown : Df l.prog w K mg base 41 "_law_grown" ["_law_order_here"] spGr := ⟨f11, _, ok_grown F11 D_law_put, b11, k11, g11⟩
  have Dsizes_in : Df l.prog w K mg base 20 "sizes_in" ["tree"] (spSizesIn 20) := ⟨f1, _, ok_sizesIn F1 M b1 g1 20, b1, k1, g1⟩
  have Dcount_together : Df l.prog w K mg base 21 "count_together" ["parts"] (spTogether K) := ⟨f2, _, ok_together F2 M Dsizes_in, b2, k2, g2⟩
  have Dcount_orders : Df l.prog w K mg base 22 "count_orders" ["tree"] spCountO := ⟨f3, _, ok_countO F3 Dcount_together, b3, k3, g3⟩
  have D_law_all : Df l.prog w K mg base 1 "_law_all" ["_law_letters"] spAll := ⟨f12, _, ok_all (k := 0) F12 M, b12, k12, g12⟩
  have D_law_number : Df l.prog w K mg base 20 "_law_number" ["_law_tree"] (spNumber 20) := ⟨f13, _, ok_number F13 M b13 g13 20, b13, k13, g13⟩
  exact run_law F14 (.of_eq rfl) en hS hn M D_law_begin D_law_order D_law_grown D_law_same D_law_all D_law_number Dcount_orders
theorem walk_at {l : PySem.W.OpenLaw} {q : Program} {loose : List Str} {XP : (Str → Option Value) → Heap → Prop} {YP : World → Heap → Prop} {d : DefRec} {K : Params → PySem.W.Frag} (most : l.most = some 63) (noDf : d.params.defaults = [])
    (inK : ∀ (w : World) (h : Heap), YP w h → (K w.params).In h)
    (F : ∀ (w : World) (mg : Str → Option Value) (fa : Addr) (h : Heap), (K w.params).In h → h.Ns mainGlobals mg → mg d.name = some (.ref fa) →
      ∀ (base : Heap) (H : Hp) (s : Shared) (a : Addr) (ns : List Int), (K w.params).In base → base.Ns mainGlobals mg → Env0 l.prog w (K w.params) mg base callerA [] s H → SqL (K w.params) H a (ns.map V.int) → ns.length ≤ 63 →
        codeAny (model l.prog w) callerA (.call (.ref fa) ⟨[.ref a], []⟩) (CR CX0 [] l.prog w H s (fun v _ => v = .bl true) fun _ _ _ => False) s) :
    PySem.W.WalkO q loose XP YP l.row.toRowW d [] (fun f vs => PySem.call f vs) := by
  refine Att.attach_call most noDf ?_
  intro w s₀ s₁ mg mb fa o pm cd doc a vs ns G Y ho hd hcd hmg hobj hints hlen hg
  exact law_at (inK w _ Y) G.T.g G.T.b G.T.builtins G.T.nolimit hg hobj hints (Nat.le_trans hlen (by decide)) fun base H h1 h2 en hS => F w mg fa _ (inK w _ Y) G.T.g hmg base H s₁ a ns h1 h2 en hS hlen
end Tw
open PySem PySem.W PyProof.Rows
set_option maxRecDepth 100000 in
set_option maxHeartbeats 0 in
theorem PySem.Challenge.cw_treewalks_k32_orders_counted_holds : PySem.Challenge.rw_treewalks_k32_orders_counted.Holds := by
  w_on; o_law; k_head; (case hw => w_witness2)
  k_fill
  refine Tw.walk_at (l := PySem.Challenge.rw_treewalks_k32_orders_counted) rfl rfl (fun w h Y => by first | exact PySem.W.kIn_of Y | exact PySem.W.km_in_of Y) ?F
  case F =>
    intro w mg fa h KX G hmg
    refine' Tw.all_mk KX G hmg ?a1 ?l1 ?c1 ?k1 ?a2 ?l2 ?c2 ?k2 ?a3 ?l3 ?c3 ?k3 ?a4 ?l4 ?c4 ?k4 ?a5 ?l5 ?c5 ?k5 ?a6 ?l6 ?c6 ?k6 ?a7 ?l7 ?c7 ?k7 ?a8 ?l8 ?c8 ?k8 ?a9 ?l9 ?c9 ?k9 ?a10 ?l10 ?c10 ?k10 ?a11 ?l11 ?c11 ?k11 ?a12 ?l12 ?c12 ?k12 ?a13 ?l13 ?c13 ?k13 ?a14 ?l14 ?c14 ?k14 ?z1 ?z2 ?z3 ?z4 ?z5 ?z6 ?z7 ?z8 ?z9 ?z10 ?z11 ?z12 ?z13 ?z14 ?z15 ?z16
    (case a1 => k_is)
    (case l1 => k_is)
    (case c1 => k_is)
    (case k1 => k_is)
    (case a2 => k_is)
    (case l2 => k_is)
    (case c2 => k_is)
    (case k2 => k_is)
    (case a3 => k_is)
    (case l3 => k_is)
    (case c3 => k_is)
    (case k3 => k_is)
    (case a4 => k_is)
    (case l4 => k_is)
    (case c4 => k_is)
    (case k4 => k_is)
    (case a5 => k_is)
    (case l5 => k_is)
    (case c5 => k_is)
    (case k5 => k_is)
    (case a6 => k_is)
    (case l6 => k_is)
    (case c6 => k_is)
    (case k6 => k_is)
    (case a7 => k_is)
    (case l7 => k_is)
    (case c7 => k_is)
    (case k7 => k_is)
    (case a8 => k_is)
    (case l8 => k_is)
    (case c8 => k_is)
    (case k8 => k_is)
    (case a9 => k_is)
    (case l9 => k_is)
    (case c9 => k_is)
    (case k9 => k_is)
    (case a10 => k_is)
    (case l10 => k_is)
    (case c10 => k_is)
    (case k10 => k_is)
    (case a11 => k_is)
    (case l11 => k_is)
    (case c11 => k_is)
    (case k11 => k_is)
    (case a12 => k_is)
    (case l12 => k_is)
    (case c12 => k_is)
    (case k12 => k_is)
    (case a13 => k_is)
    (case l13 => k_is)
    (case c13 => k_is)
    (case k13 => k_is)
    (case a14 => k_is)
    (case l14 => k_is)
    (case c14 => k_is)
    (case k14 => k_is)
    (case z1 => k_is)
    (case z2 => k_is)
    (case z3 => k_is)
    (case z4 => k_is)
    (case z5 => k_is)
    (case z6 => k_is)
    (case z7 => k_is)
    (case z8 => k_is)
    (case z9 => k_is)
    (case z10 => k_is)
    (case z11 => k_is)
    (case z12 => k_is)
    (case z13 => k_is)
    (case z14 => k_is)
    (case z15 => k_is)
    (case z16 => k_is)
