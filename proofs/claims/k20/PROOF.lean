import PyProof.Rows.All
import Wide.All
import OpenK.AllK
import Wide.FinOn
import HandS.ForMost
import HandS.ForExc
import HandS.Wide
import HandS.IsInst
import HandS.Flow
import HandS.FStrTup
import HandS.NoneIn
import HandS.TupAny
import HandS.Style
import HandS.TryMany
import HandS.ExcIs
import HandS.ExcField
import HandS.ExcOwn
import KE.KExcInit
import KE.KExcIs
import HandS.Walk
import HandS.Zip
import KE.GoesZip
import KE.GoesMore
import HandS.Sort
import HandS.Set
import HandS.SetFor
import HandS.Strs
import HandS.SetTxt0
import HandS.TupSets
import HandS.DictComp
import KE.KSortTupG
import KE.KSortTupUse
import HandS.More
import HandS.Replace
import KE.KParD
import HandS.Star
import PyProof.CollectStr
import PySem.Challenge.RW_treewalks_k20_trees_judged
set_option Elab.async false
set_option maxRecDepth 100000
set_option maxHeartbeats 4000000
namespace Tw
open PySem PySem.Spec PyProof.Rows L2
/-! ### trees over signs -/
abbrev ch (c : Nat) : Str := ⟨#[c]⟩
def tx (l : List Nat) : Str := ⟨l.toArray⟩
theorem tx_cps (l : List Nat) : (tx l).cps.toList = l := rfl
theorem tx_size (l : List Nat) : (tx l).cps.size = l.length := rfl
theorem tx_len (l : List Nat) : (tx l).length = l.length := rfl
theorem tx_one (c : Nat) : tx [c] = ch c := rfl
theorem tx_app (a b : List Nat) : tx a ++ tx b = tx (a ++ b) := by
  show (⟨(tx a).cps ++ (tx b).cps⟩ : Str) = _
  simp [tx]
theorem ch_app (c : Nat) (b : List Nat) : ch c ++ tx b = tx (c :: b) := tx_app [c] b
theorem tx_inj {a b : List Nat} (h : tx a = tx b) : a = b := congrArg (fun z : Str => z.cps.toList) h
theorem ch_inj {a b : Nat} (h : ch a = ch b) : a = b := by have := tx_inj (a := [a]) (b := [b]) h; simpa using this
theorem ch_lt (a b : Nat) : decide ((ch a).cps.toList < (ch b).cps.toList) = decide (a < b) := by
  have : ((ch a).cps.toList < (ch b).cps.toList) ↔ a < b := by
    show [a] < [b] ↔ _
    simp [List.cons_lt_cons_iff]
  simp only [this]
theorem tx_to (l : List Nat) (k : Nat) : cutS (tx l) none (some (k : Int)) = tx (l.take k) := by
  unfold cutS tx
  show (⟨_⟩ : Str) = ⟨_⟩
  rw [HT.sIx_nat, HT.sIx_none]
  show (⟨((l.drop 0).take (min k l.length - 0)).toArray⟩ : Str) = ⟨(l.take k).toArray⟩
  rw [List.drop_zero, Nat.sub_zero, Nat.min_def]
  split
  · rfl
  · rw [List.take_of_length_le (Nat.le_refl _), List.take_of_length_le (by omega)]
theorem tx_from (l : List Nat) (k : Nat) : cutS (tx l) (some (k : Int)) none = tx (l.drop k) := by
  unfold cutS tx
  show (⟨_⟩ : Str) = ⟨_⟩
  rw [HT.sIx_nat, HT.sIx_none]
  show (⟨((l.drop (min k l.length)).take (l.length - min k l.length)).toArray⟩ : Str) = ⟨(l.drop k).toArray⟩
  by_cases h : k ≤ l.length
  · rw [Nat.min_eq_left h, List.take_of_length_le (by rw [List.length_drop]; omega)]
  · rw [Nat.min_eq_right (by omega), List.drop_eq_nil_of_le (Nat.le_refl _), List.drop_eq_nil_of_le (by omega), List.take_nil]
theorem joinL_ones : ∀ l : List Nat, TL.joinL [] (l.map fun c => [c]) = l
  | [] => rfl
  | [c] => rfl
  | c :: d :: r => by
    have := joinL_ones (d :: r)
    show [c] ++ ([] ++ TL.joinL [] ((d :: r).map fun c => [c])) = _
    rw [this]; rfl
theorem tx_join (l : List Nat) : Txt.join (Str.ofString "") (l.map ch) = tx l := by
  rw [TL.join_eq]
  have e := TL.tl_join (Str.ofString "") (l.map ch)
  refine TL.ext_tl (e.trans ?_)
  rw [List.map_map]
  exact joinL_ones l
theorem tx_joinOk (l : List Nat) (h : l.length ≤ 1000) : ((l.map ch).map (·.length)).sum + (l.map ch).length * (Str.ofString "").length ≤ 16777216 := by
  have e0 : (Str.ofString "").length = 0 := by decide +kernel
  have e1 : ∀ l : List Nat, ((l.map ch).map (·.length)).sum = l.length := by
    intro l
    induction l with
    | nil => rfl
    | cons c r ih =>
      rw [List.map_cons, List.map_cons, List.sum_cons, ih, List.length_cons]
      show 1 + r.length = _
      omega
  rw [e0, e1]
  omega
inductive B where
  | nil
  | node (l : B) (x : Nat) (r : B)
  deriving DecidableEq
def B.size : B → Nat
  | .nil => 0
  | .node l _ r => l.size + 1 + r.size
def B.deep : B → Nat
  | .nil => 0
  | .node l _ r => 1 + max l.deep r.deep
def B.data : B → PyData
  | .nil => .none
  | .node l x r => .tuple [l.data, .str (ch x), r.data]
def B.pre : B → List Nat
  | .nil => []
  | .node l x r => x :: (l.pre ++ r.pre)
def B.mid : B → List Nat
  | .nil => []
  | .node l x r => l.mid ++ x :: r.mid
theorem B.deep_le : ∀ t : B, t.deep ≤ t.size
  | .nil => Nat.le_refl _
  | .node l _ r => by
    have h1 := l.deep_le
    have h2 := r.deep_le
    show 1 + max l.deep r.deep ≤ l.size + 1 + r.size
    omega
theorem B.pre_len : ∀ t : B, t.pre.length = t.size
  | .nil => rfl
  | .node l x r => by
    have h1 := l.pre_len
    have h2 := r.pre_len
    show (x :: (l.pre ++ r.pre)).length = l.size + 1 + r.size
    rw [List.length_cons, List.length_append]
    omega
theorem B.mid_len : ∀ t : B, t.mid.length = t.size
  | .nil => rfl
  | .node l x r => by
    have h1 := l.mid_len
    have h2 := r.mid_len
    show (l.mid ++ x :: r.mid).length = l.size + 1 + r.size
    rw [List.length_append, List.length_cons]
    omega
theorem B.mid_mem (t : B) (c : Nat) : c ∈ t.mid ↔ c ∈ t.pre := by
  induction t with
  | nil => exact Iff.rfl
  | node l x r h1 h2 =>
    show c ∈ l.mid ++ x :: r.mid ↔ c ∈ x :: (l.pre ++ r.pre)
    rw [List.mem_append, List.mem_cons, List.mem_cons, List.mem_append, h1, h2]
    constructor
    · rintro (h | h | h)
      · exact .inr (.inl h)
      · exact .inl h
      · exact .inr (.inr h)
    · rintro (h | h | h)
      · exact .inr (.inl h)
      · exact .inl h
      · exact .inr (.inr h)
/-- the tree t lies at v -/
inductive BAt (H : Hp) : V → B → Prop
  | nil : BAt H .non .nil
  | node {a : Addr} {l r : V} {x : Nat} {tl tr : B} : H a = some (.tup [l, .str (ch x), r]) → BAt H l tl → BAt H r tr → BAt H (.ref a) (.node tl x tr)
/-- tuples stand still -/
def KeepT (H H' : Hp) : Prop := ∀ b xs, H b = some (.tup xs) → H' b = some (.tup xs)
theorem KeepT.refl (H : Hp) : KeepT H H := fun _ _ h => h
theorem KeepT.trans {H H1 H2 : Hp} (a : KeepT H H1) (b : KeepT H1 H2) : KeepT H H2 := fun c xs h => b c xs (a c xs h)
theorem Same.keepT {H H' : Hp} (h : Same H H') : KeepT H H' := fun b xs e => h b _ e
theorem BAt.keep {H H' : Hp} (k : KeepT H H') {v : V} {t : B} (h : BAt H v t) : BAt H' v t := by
  induction h with
  | nil => exact .nil
  | node e _ _ h1 h2 => exact .node (k _ _ e) h1 h2
theorem BAt.same {H H' : Hp} (k : Same H H') {v : V} {t : B} (h : BAt H v t) : BAt H' v t := h.keep (Tw.Same.keepT k)
theorem BAt.dp {K : PySem.W.Frag} {H : Hp} {v : V} {t : B} (h : BAt H v t) : Dp K H v t.data := by
  induction h with
  | nil => exact .non
  | node e _ _ h1 h2 => exact .tup (SqT.of e) (.cons h1 (.cons (.str _) (.cons h2 .nil)))
theorem BAt.inv {H : Hp} {v : V} {t : B} (h : BAt H v t) : (v = .non ∧ t = .nil) ∨ ∃ a l r x tl tr, v = .ref a ∧ t = .node tl x tr ∧ H a = some (.tup [l, .str (ch x), r]) ∧ BAt H l tl ∧ BAt H r tr := by
  cases h with
  | nil => exact .inl ⟨rfl, rfl⟩
  | node e h1 h2 => exact .inr ⟨_, _, _, _, _, _, rfl, rfl, e, h1, h2⟩
theorem same_new {H : Hp} {p : Addr} (h : H p = none) (o : HO) : Same H (upd H p o) := fun b u q => by rw [upd_ne (ne_of_none q h)]; exact q
theorem small {n : Nat} (h : n ≤ 1000) : n ≤ sizeLine := Nat.le_of_lt (small1000 h)
theorem at_map {α : Type} {f : α → V} {ns : List α} {i : Int} {v : α} (h0 : 0 ≤ i) (h : ns[i.toNat]? = some v) : atI (ns.map f) i = some (f v) := by
  have e : i = ((i.toNat : Nat) : Int) := by omega
  rw [e]
  exact atI_nat (by rw [List.getElem?_map, h]; rfl)
theorem ixN_nat {n : Nat} {i : Int} (h0 : 0 ≤ i) (h : i < n) : ixN n i = some i.toNat := by
  unfold ixN
  first
    | rw [if_pos h0, if_pos h]
    | (rw [if_pos h0]; rw [if_pos (by omega)])
    | simp [h0, h]
theorem cut_to (xs : List V) (k : Nat) : cutV xs none (some (k : Int)) = xs.take k := by
  unfold cutV
  rw [HT.sIx_nat, HT.sIx_none, List.drop_zero, Nat.sub_zero]
  rw [Nat.min_def]
  split
  · rfl
  · rw [List.take_of_length_le (Nat.le_refl _), List.take_of_length_le (by omega)]
theorem cut_from (xs : List V) (k : Nat) : cutV xs (some (k : Int)) none = xs.drop k := by
  unfold cutV
  rw [HT.sIx_nat, HT.sIx_none]
  by_cases h : k ≤ xs.length
  · rw [Nat.min_eq_left h, List.take_of_length_le (by rw [List.length_drop]; omega)]
  · rw [Nat.min_eq_right (by omega), List.drop_eq_nil_of_le (Nat.le_refl _), List.drop_eq_nil_of_le (by omega), List.take_nil]
theorem kept {σ : L2.St} {H : Hp} {A B : Hp → Prop} (h : A H) : tYes σ H (fun b H3 => if b = true then A H3 else B H3) := by
  show if true = true then A H else B H
  exact iteT h
theorem erase_map {α β : Type} (f : α → β) : ∀ (l : List α) (i : Nat), (l.map f).eraseIdx i = (l.eraseIdx i).map f
  | [], _ => rfl
  | _ :: _, 0 => rfl
  | x :: l, i + 1 => congrArg (f x :: ·) (erase_map f l i)
/-- a def that stands at a name, with its promise -/
structure Df (P : Program) (w : World) (K : PySem.W.Frag) (mg : Str → Option Value) (base : Heap) (k : Nat) (nm : Str) (ps : List Str) (sp : Sp) where
  f : Addr
  fd : FuncData
  ok : FnOk P w K mg base CX0 k f fd ps sp
  b : Binds K fd ps []
  kp : PySem.W.keepIn K (.ref f) = true
  g : mg nm = some (.ref f)
structure Mgs (mg : Str → Option Value) : Prop where
  zip : mg "zip" = none
  all : mg "all" = none
  repr : mg "repr" = none
  sum : mg "sum" = none
  len : mg "len" = none
  isinstance : mg "isinstance" = none
  list : mg "list" = none
  tuple : mg "tuple" = none
  str : mg "str" = none
  int : mg "int" = none
  bool : mg "bool" = none
  dict : mg "dict" = none
  range : mg "range" = none
  sorted : mg "sorted" = none
  abs : mg "abs" = none
  min : mg "min" = none
  max : mg "max" = none
theorem vals_signs : ∀ (l : List Nat) (vs : List Value), vs.length = l.length → (∀ (j : Nat) (v : Value), vs[j]? = some v → ∃ c u, l[j]? = some c ∧ v = .str ⟨#[c]⟩ u) → Vals (l.map fun c => V.str ⟨#[c]⟩) vs
  | [], [], _, _ => .nil
  | [], _ :: _, h, _ => by simp at h
  | _ :: _, [], h, _ => by simp at h
  | c :: l, v :: vs, h, k => by
    obtain ⟨c', u, e, rfl⟩ := k 0 v rfl
    cases e
    exact .cons ⟨u, rfl⟩ (vals_signs l vs (by simpa using h) fun j v e => k (j + 1) v e)
theorem call_signs {X : Cx} (hc : X.calm = true) : CallR X (.type "list") (fun xs H Q => ∃ x : Str, xs = [.str x] ∧ x.cps.size ≤ 1000 ∧ ∀ p, H p = none → Q (.ref p) (upd H p (.lst (x.cps.toList.map fun c => V.str ⟨#[c]⟩)))) := by
  intro pins s σ H xs us Q I r h
  obtain ⟨x, rfl, hz, q⟩ := h
  obtain ⟨u, rfl, t, rfl⟩ := vals1 r
  have hz' : x.cps.size ≤ sizeLine := small hz
  refine call_list_str (I.ok.hd hc) x t (fun h' tk acc' c' hk hS hacc => ?_) hz'
  have hv : Vals (x.cps.toList.map fun c => V.str ⟨#[c]⟩) acc'.toList := vals_signs _ _ (by rw [Array.length_toList, Array.length_toList]; exact hacc.1) fun j v e => by
    obtain ⟨c, u, h1, h2⟩ := hacc.2 j v (by rw [← Array.getElem?_toList]; exact e)
    exact ⟨c, u, by rw [Array.getElem?_toList]; exact h1, h2⟩
  exact ⟨.ref s.heap.objs.size, _, I.laid (t' := tk) hk (Nat.le_refl _) (show ObjOk X.prog X.w _ h' _ (.lst _) from ⟨by rw [List.length_map, Array.length_toList]; exact hz', acc'.toList, c', hv, by rw [Array.toArray_toList]; exact hS⟩), rfl, q _ (I.hok.fresh (Nat.le_refl _))⟩
/-- for c in text -/
theorem for_text {x : Str} {g : TG} {tb : TS} {D : Ends} {σ : L2.St} {H : Hp} (Pv : Nat → L2.St → Hp → Prop) (h0 : Pv 0 σ H)
    (hs : ∀ i c σ H, x.cps.toList[i]? = some c → Pv i σ H → g (.str ⟨#[c]⟩) σ H fun σ2 H2 => tb { D with nx := Pv (i + 1), ct := Pv (i + 1), bk := D.nx } σ2 H2)
    (hd : ∀ σ H, Pv x.cps.toList.length σ H → D.nx σ H) :
    ∃ W : Nat → Nat → L2.St → Hp → Prop, (∃ m, W 0 m σ H) ∧ ∀ i m σ H, W i m σ H →
      ((Its x).stop i H ∧ D.nx σ H) ∨ ((Its x).go i H ∧ ∃ N : L2.St → Hp → Prop, (∀ σ' H', N σ' H' → ∃ m', m' < m ∧ W (i + 1) m' σ' H') ∧ ∀ v H', (Its x).yld i H v H' → g v σ H' fun σ2 H2 => tb { D with nx := N, ct := N, bk := D.nx } σ2 H2) := by
  refine for_it walk_str Pv h0 (fun _ _ _ _ _ => trivial) (fun i v σ H H' hi hp hy => ?_) (fun σ H hp => hd σ H (by rw [Array.length_toList]; exact hp))
  obtain ⟨rfl, c, hc, rfl⟩ := hy
  exact hs i c σ H' (by rw [Array.getElem?_toList]; exact hc) hp
theorem lc_text {x : Str} {g : TG} {tt : TT} {te : TE} {vs : List Nat} {σ : L2.St} {H1 : Hp} {D : Addr} {Qd : Hp → Prop} (Pv : Nat → Hp → Prop) (h0 : Pv 0 (upd H1 D (.lst [])))
    (hs : ∀ i c H, x.cps.toList[i]? = some c → Pv i H → g (.str ⟨#[c]⟩) (wipe σ vs) H fun σ2 H2 => wipe σ2 vs = wipe σ vs ∧ tt σ2 H2 fun b H3 =>
      if b = true then te σ2 H3 fun y H4 => ∃ acc, H4 D = some (.lst acc) ∧ acc.length < sizeLine ∧ Pv (i + 1) (upd H4 D (.lst (acc ++ [y]))) else Pv (i + 1) H3) (hd : ∀ H, Pv x.cps.toList.length H → Qd H) :
    ∃ W : Nat → Nat → Hp → Prop, (∃ m, W 0 m (upd H1 D (.lst []))) ∧ ∀ i m H, W i m H →
      ((Its x).stop i H ∧ Qd H) ∨ ((Its x).go i H ∧ ∃ Nx : Hp → Prop, (∀ H', Nx H' → ∃ m', m' < m ∧ W (i + 1) m' H') ∧ ∀ v H', (Its x).yld i H v H' → g v (wipe σ vs) H' fun σ2 H2 => wipe σ2 vs = wipe σ vs ∧ tt σ2 H2 fun b H3 =>
        if b = true then te σ2 H3 fun y H4 => ∃ acc, H4 D = some (.lst acc) ∧ acc.length < sizeLine ∧ Nx (upd H4 D (.lst (acc ++ [y]))) else Nx H3) := by
  refine lc_it walk_str Pv h0 (fun _ _ _ _ => trivial) (fun i v H H' hi hp hy => ?_) (fun H hp => hd H (by rw [Array.length_toList]; exact hp))
  obtain ⟨rfl, c, hc, rfl⟩ := hy
  exact hs i c H' (by rw [Array.getElem?_toList]; exact hc) hp
/-! ### the text by places -/
def top (i : Nat) : Stmt := PySem.Challenge.pw_treewalks_k20_trees_judged.main.body.getD i (.Pass ⟨0, 0, 0, 0⟩)
abbrev s_is_letter : Stmt := top 8
abbrev s_size_of : Stmt := top 10
abbrev s_is_kind : Stmt := top 13
abbrev s_ordered_steps : Stmt := top 14
abbrev s_deep_steps : Stmt := top 15
abbrev s_level_steps : Stmt := top 16
abbrev s_walk : Stmt := top 17
abbrev s_walks : Stmt := top 18
abbrev s_is_row : Stmt := top 21
abbrev s_three_rows : Stmt := top 22
abbrev s_tree_fits : Stmt := top 23
abbrev s_fits : Stmt := top 24
abbrev s__law_deck : Stmt := top 26
abbrev s__law_draw : Stmt := top 27
abbrev s__law_mixed : Stmt := top 28
abbrev s__law_size : Stmt := top 29
abbrev s__law_labelled : Stmt := top 30
abbrev s__law_shape : Stmt := top 31
abbrev s__law_tree : Stmt := top 32
abbrev s__law_walks : Stmt := top 33
abbrev s__law_hidden : Stmt := top 34
abbrev s__law_rows : Stmt := top 35
abbrev s__law_is_like : Stmt := top 36
abbrev s_law : Stmt := top 37
abbrev s_BadRow___init__ : Stmt := inClass (top 4) 0
abbrev s_NotAlike___init__ : Stmt := inClass (top 5) 0
abbrev s_NoKind___init__ : Stmt := inClass (top 6) 0
theorem sc_is_letter : FnScope ["value"] ["value"] (defScope s_is_letter) := ⟨rfl, rfl, rfl, by decide +kernel, rfl, by decide +kernel, by decide +kernel⟩
theorem sc_size_of : FnScope ["tree"] ["tree"] (defScope s_size_of) := ⟨rfl, rfl, rfl, by decide +kernel, rfl, by decide +kernel, by decide +kernel⟩
theorem sc_is_kind : FnScope ["value"] ["value"] (defScope s_is_kind) := ⟨rfl, rfl, rfl, by decide +kernel, rfl, by decide +kernel, by decide +kernel⟩
theorem sc_ordered_steps : FnScope ["tree", "kind"] ["tree", "kind"] (defScope s_ordered_steps) := ⟨rfl, rfl, rfl, by decide +kernel, rfl, by decide +kernel, by decide +kernel⟩
theorem sc_deep_steps : FnScope ["tree", "kind", "path", "left", "label", "right", "root", "lefts", "rights"] ["tree", "kind", "path"] (defScope s_deep_steps) := ⟨rfl, rfl, rfl, by decide +kernel, rfl, by decide +kernel, by decide +kernel⟩
theorem sc_level_steps : FnScope ["tree"] ["tree"] (defScope s_level_steps) := ⟨rfl, rfl, rfl, by decide +kernel, rfl, by decide +kernel, by decide +kernel⟩
theorem sc_walk : FnScope ["tree", "kind", "path", "label"] ["tree", "kind"] (defScope s_walk) := ⟨rfl, rfl, rfl, by decide +kernel, rfl, by decide +kernel, by decide +kernel⟩
theorem sc_is_row : FnScope ["value", "sign"] ["value"] (defScope s_is_row) := ⟨rfl, rfl, rfl, by decide +kernel, rfl, by decide +kernel, by decide +kernel⟩
theorem sc_three_rows : FnScope ["rows", "name", "names", "size", "kind"] ["rows"] (defScope s_three_rows) := ⟨rfl, rfl, rfl, by decide +kernel, rfl, by decide +kernel, by decide +kernel⟩
theorem sc_tree_fits : FnScope ["tree", "given", "told", "row", "text", "sign", "label"] ["tree", "given"] (defScope s_tree_fits) := ⟨rfl, rfl, rfl, by decide +kernel, rfl, by decide +kernel, by decide +kernel⟩
theorem sc__law_deck : FnScope ["_law_script", "_law_cells", "_law_cell"] ["_law_script"] (defScope s__law_deck) := ⟨rfl, rfl, rfl, by decide +kernel, rfl, by decide +kernel, by decide +kernel⟩
theorem sc__law_draw : FnScope ["_law_deck_here", "_law_many", "_law_at", "_law_digit", "_law_mixed_here"] ["_law_deck_here", "_law_many"] (defScope s__law_draw) := ⟨rfl, rfl, rfl, by decide +kernel, rfl, by decide +kernel, by decide +kernel⟩
theorem sc__law_mixed : FnScope ["_law_deck_here", "_law_row", "_law_left", "_law_found"] ["_law_deck_here", "_law_row"] (defScope s__law_mixed) := ⟨rfl, rfl, rfl, by decide +kernel, rfl, by decide +kernel, by decide +kernel⟩
theorem sc__law_size : FnScope ["_law_tree_here"] ["_law_tree_here"] (defScope s__law_size) := ⟨rfl, rfl, rfl, by decide +kernel, rfl, by decide +kernel, by decide +kernel⟩
theorem sc__law_labelled : FnScope ["_law_shape_here", "_law_letters", "_law_split"] ["_law_shape_here", "_law_letters"] (defScope s__law_labelled) := ⟨rfl, rfl, rfl, by decide +kernel, rfl, by decide +kernel, by decide +kernel⟩
theorem sc__law_shape : FnScope ["_law_deck_here", "_law_many", "_law_way", "_law_split"] ["_law_deck_here", "_law_many", "_law_way"] (defScope s__law_shape) := ⟨rfl, rfl, rfl, by decide +kernel, rfl, by decide +kernel, by decide +kernel⟩
theorem sc__law_tree : FnScope ["_law_deck_here", "_law_most", "_law_many", "_law_some", "_law_node", "_law_letters"] ["_law_deck_here", "_law_most"] (defScope s__law_tree) := ⟨rfl, rfl, rfl, by decide +kernel, rfl, by decide +kernel, by decide +kernel⟩
theorem sc__law_walks : FnScope ["_law_tree_here", "_law_one", "_law_other", "_law_label"] ["_law_tree_here"] (defScope s__law_walks) := ⟨rfl, rfl, rfl, by decide +kernel, rfl, by decide +kernel, by decide +kernel⟩
theorem sc__law_hidden : FnScope ["_law_deck_here", "_law_row", "_law_way", "_law_sign"] ["_law_deck_here", "_law_row"] (defScope s__law_hidden) := ⟨rfl, rfl, rfl, by decide +kernel, rfl, by decide +kernel, by decide +kernel⟩
theorem sc__law_rows : FnScope ["_law_deck_here", "_law_most", "_law_row", "_law_rows_here", "_law_which", "_law_spot"] ["_law_deck_here", "_law_most"] (defScope s__law_rows) := ⟨rfl, rfl, rfl, by decide +kernel, rfl, by decide +kernel, by decide +kernel⟩
theorem sc__law_is_like : FnScope ["_law_row", "_law_text", "_law_one", "_law_other"] ["_law_row", "_law_text"] (defScope s__law_is_like) := ⟨rfl, rfl, rfl, by decide +kernel, rfl, by decide +kernel, by decide +kernel⟩
theorem sc_law : FnScope ["_law_script", "_law_deck_here", "_law_turn", "_law_tree_here", "_law_other", "_law_row", "_law_rows_here", "_law_a", "_law_b", "_law_c", "_law_one", "_law_before", "_law_text", "_law_due", "_law_found", "_law_wanted"] ["_law_script"] (defScope s_law) := ⟨rfl, rfl, rfl, by decide +kernel, rfl, by decide +kernel, by decide +kernel⟩
theorem sc_BadRow___init__ : FnScope ["self", "name"] ["self", "name"] (defScope s_BadRow___init__) := ⟨rfl, rfl, rfl, by decide +kernel, rfl, by decide +kernel, by decide +kernel⟩
theorem sc_NotAlike___init__ : FnScope ["self", "name"] ["self", "name"] (defScope s_NotAlike___init__) := ⟨rfl, rfl, rfl, by decide +kernel, rfl, by decide +kernel, by decide +kernel⟩
theorem sc_NoKind___init__ : FnScope ["self", "value"] ["self", "value"] (defScope s_NoKind___init__) := ⟨rfl, rfl, rfl, by decide +kernel, rfl, by decide +kernel, by decide +kernel⟩
/-! ### def f(a, .., **d), called with keywords: a new dict of them -/
theorem push_last (h : Heap) (o : Obj) (f : Obj → Obj) : (h.push o).update h.objs.size f = h.push (f o) := by
  obtain ⟨objs, l⟩ := h
  show (⟨(objs.push o).modify objs.size f, l⟩ : Heap) = ⟨objs.push (f o), l⟩
  refine congrArg (fun z => (⟨z, l⟩ : Heap)) (Array.ext_getElem? fun i => ?_)
  rw [Array.getElem?_modify, Array.getElem?_push, Array.getElem?_push]
  by_cases e : objs.size = i
  · subst e
    simp
  · rw [if_neg e, if_neg (fun z => e z.symm), if_neg (fun z => e z.symm)]
section
variable {P : Program} {w : World} {A : Around} {E : Value → Shared → Prop}
/-- one entry more -/
theorem kw_put {z : Shared} {es : List DictEntry} {n t : Nat} {k : Str} {v : Value} {Q : Unit → Shared → Prop} (new : ∀ e ∈ es, ∃ k' u, e.key = .str k' u ∧ k' ≠ k)
    (h : ∀ n' t', Q () { z with heap := z.heap.push (PySem.W.dictOf (es ++ [⟨PyData.keyHash w.params k, .str k t, v⟩]) n'), toks := t' }) :
    wpAny (model P w) A (nsSet z.heap.objs.size k v) Q E { z with heap := z.heap.push (PySem.W.dictOf es n), toks := t } := by
  have here : (z.heap.push (PySem.W.dictOf es n)).get? z.heap.objs.size = some (PySem.W.dictOf es n) := Heap.get?_push_size _ rfl
  have other : ∀ e ∈ es, e.key.isStr k = false := fun e he => by
    obtain ⟨k', u, ek, ne⟩ := new e he
    rw [ek]
    exact beq_eq_false_iff_ne.mpr ne
  have named : aRefKeyMayBeTheName k es.toArray = false := by
    rw [aRefKeyMayBeTheName_at]
    have : es.toArray.any (·.refKey) = false := by
      rw [← Array.any_toList]
      refine List.any_eq_false.mpr fun e he => ?_
      obtain ⟨k', u, ek, _⟩ := new e he
      show ¬ e.refKey = true
      unfold DictEntry.refKey
      rw [ek]
      exact Bool.false_ne_true
    rw [this, Bool.and_false]
  unfold nsSet
  refine wpAny_bind (wpAny_bind (wpAny_askSetting (wpAny_pure ?_)))
  refine wpAny_bind (wpAny_mkText ?_)
  refine wpAny_bind (wpAny_loadPart here ?_)
  show wpAny _ _ (if aRefKeyMayBeTheName k es.toArray = true then _ else _) _ _ _
  rw [named]
  refine wpAny_updatePart (s := { z with heap := z.heap.push (PySem.W.dictOf es n), toks := t + 1 }) here ?_
  rw [push_last, PySem.W.putName_dict, PySem.W.putL_new other]
  exact h _ _
/-- all entries -/
theorem kw_fill {z : Shared} {Q : PUnit → Shared → Prop} : ∀ (ex : List (Str × Value)) (es : List DictEntry) (n t : Nat), (∀ e ∈ es, ∃ k' u, e.key = .str k' u ∧ ∀ x ∈ ex, k' ≠ x.1) → (ex.map (·.1)).Nodup →
    (∀ n' t' es', Pairs (mixKind P w) es' (ex.map fun x => ((.inr x.1 : Key), x.2)) → (∀ e ∈ es', ∃ k u, e.key = .str k u ∧ e.hash = PyData.keyHash w.params k) → Q ⟨⟩ { z with heap := z.heap.push (PySem.W.dictOf (es ++ es') n'), toks := t' }) →
    wpAny (model P w) A (forIn ex PUnit.unit fun x _ => (nsSet z.heap.objs.size x.1 x.2 >>= fun _ => pure (ForInStep.yield PUnit.unit))) Q E { z with heap := z.heap.push (PySem.W.dictOf es n), toks := t }
  | [], es, n, t, _, _, h => by
    rw [List.forIn_nil]
    refine wpAny_pure ?_
    have := h n t [] .nil (fun e he => by cases he)
    rw [List.append_nil] at this
    exact this
  | (k, v) :: ex, es, n, t, old, nd, h => by
    obtain ⟨nk, nd⟩ := List.nodup_cons.mp (show (k :: ex.map (·.1)).Nodup from nd)
    rw [List.forIn_cons]
    refine wpAny_bind (wpAny_bind (kw_put (fun e he => ?_) fun n1 t1 => wpAny_pure ?_))
    · obtain ⟨k', u, ek, ne⟩ := old e he
      exact ⟨k', u, ek, ne (k, v) List.mem_cons_self⟩
    refine kw_fill ex _ n1 t1 (fun e he => ?_) nd fun n' t' es' pr hs => ?_
    · rcases List.mem_append.mp he with he | he
      · obtain ⟨k', u, ek, ne⟩ := old e he
        exact ⟨k', u, ek, fun x hx => ne x (List.mem_cons_of_mem _ hx)⟩
      · rw [List.mem_singleton.mp he]
        exact ⟨k, t, rfl, fun x hx e => nk (List.mem_map.mpr ⟨x, hx, e.symm⟩)⟩
    · have := h n' t' (⟨PyData.keyHash w.params k, .str k t, v⟩ :: es') (.cons (mixKind_str P w k t) rfl pr) (fun e he => by
        rcases List.mem_cons.mp he with rfl | he
        · exact ⟨k, t, rfl, rfl⟩
        · exact hs e he)
      rw [List.append_assoc]
      exact this
end
/-- what such a def's binding comes to -/
structure KwBind (fd : FuncData) (ps : List Str) (pd : Str) (ks : List Str) : Prop where
  eq : ∀ us ws : List Value, us.length = ps.length → ws.length = ks.length → bindArgs fd ⟨us, ks.zip ws⟩ =
    ((alloc ({ cls := .type "dict", data := .dict #[] } : Obj) : Sem Addr) >>= fun d => (forIn (ks.zip ws) PUnit.unit fun x _ => (nsSet d x.1 x.2 >>= fun _ => pure (ForInStep.yield PUnit.unit))) >>= fun _ => pure (ps.zip us ++ [(pd, Value.ref d)]))
  nd : ks.Nodup
/-- its promise: vs the values, zs the keywords' -/
def FnKw (P : Program) (w : World) (K : PySem.W.Frag) (mg : Str → Option Value) (base : Heap) (k : Nat) (f : Addr) (n : Nat) (ks : List Str) (sp : List V → List V → Hp → VK → Prop) : Prop :=
  ∀ (A : Around) (outer : List Env) (s : Shared) (H : Hp) (us ws : List Value) (vs zs : List V) (Q : VK), Room k A → Env0 P w K mg base A outer s H → Vals vs us → vs.length = n → Vals zs ws → zs.length = ks.length → sp vs zs H Q →
    codeAny (model P w) A (.call (.ref f) ⟨us, ks.zip ws⟩) (CR CX0 outer P w H s Q E0) s
theorem kv_zip : ∀ {ks : List Str} {zs : List V} {ws : List Value}, Vals zs ws → zs.length = ks.length → KV ((ks.zip zs).map fun x => ((.inr x.1 : Key), x.2)) ((ks.zip ws).map fun x => ((.inr x.1 : Key), x.2))
  | [], _, _, .nil, _ => .nil
  | k :: ks, _, _, .cons r h, e => .cons ⟨rfl, r⟩ (kv_zip h (by simpa using e))
section
variable {P : Program} {w : World} {K : PySem.W.Frag} {mg : Str → Option Value} {base : Heap}
theorem fnKw {x qual : Str} {st : Stmt} {f : Addr} {fd : FuncData} {N ps ks : List Str} {pd : Str} {k : Nat} {sp : List V → List V → Hp → VK → Prop} (F : Fun K x qual st f fd) (B : KwBind fd ps pd ks) (few : ks.length ≤ 1000) (S : FnScope N (ps ++ [pd]) (defScope st))
    (body : ∀ (cdv : Value) (A : Around) (outer : List Env) (s : Shared) (H : Hp) (vs zs : List V) (d : Addr) (Q : VK), Room k (A.deeper (envOfC qual (defScope st) s.heap.objs.size f cdv)) → H d = some (.dK ((ks.zip zs).map fun x => ((.inr x.1 : Key), x.2))) → zs.length = ks.length →
      (∃ H0, H0 d = none ∧ H = upd H0 d (.dK ((ks.zip zs).map fun x => ((.inr x.1 : Key), x.2))) ∧ sp vs zs H0 Q) →
      ∃ t, PSs (cxOf CX0 P w K mg base N qual (defScope st) f cdv A outer s H E0).nox (defBody st) t ∧ t { nx := fun _ H' => Q .non H', rt := Q } (start N (vs ++ [.ref d])) H) :
    FnKw P w K mg base (k + 1) f ps.length ks sp := by
  intro A outer s H us ws vs zs Q room e0 rv lv rz lz q
  obtain ⟨oc, od, kV, doc, pm, an, cdv, ct, osl, e, look, code⟩ := F.ex
  subst e
  have lus : us.length = ps.length := by rw [← rv.length]; exact lv
  have lws : ws.length = ks.length := by rw [← rz.length]; exact lz
  have fresh : H s.heap.objs.size = none := e0.hok.fresh (Nat.le_refl _)
  refine StX.run_bnd look code S room e0 (G := fun xs H2 => ∃ d, H d = none ∧ xs = vs ++ [V.ref d] ∧ H2 = upd H d (.dK ((ks.zip zs).map fun x => ((.inr x.1 : Key), x.2)))) (fun A' Ex Q' fin => ?_) fun s2 H2 xs g room2 => ?_
  · rw [B.eq us ws lus lws]
    refine wpAny_bind (wpAny_alloc ?_)
    have names : ((ks.zip ws).map (·.1)) = ks := List.map_fst_zip (Nat.le_of_eq lws.symm)
    refine wpAny_bind (kw_fill (z := s) (ks.zip ws) [] 0 s.toks (fun e he => by cases he) (by rw [names]; exact B.nd) fun n' t' es' pr hs => wpAny_pure ?_)
    rw [List.nil_append]
    have ok : ObjOk P w (upd H s.heap.objs.size (.dK ((ks.zip zs).map fun x => ((.inr x.1 : Key), x.2)))) (s.heap.push (PySem.W.dictOf es' n')) s.heap.objs.size (.dK ((ks.zip zs).map fun x => ((.inr x.1 : Key), x.2))) := by
      refine ⟨?_, beq_eq_false_iff_ne.mpr (Ne.symm (Nat.ne_of_lt (StX.env0_big e0))), _, kv_zip rz lz, _, es'.toArray, n', Heap.get?_push_size _ rfl, ⟨rfl, rfl, rfl⟩, rfl, fun e he => ?_, pr, ?_⟩
      · rw [List.length_map, List.length_zip]
        exact small (by omega)
      · obtain ⟨k', u, ek, eh⟩ := hs e (List.mem_toArray.mp he)
        exact ⟨.inr k', by rw [ek]; exact mixKind_str P w k' u, eh⟩
      · rw [List.map_map]
        have : (ks.zip ws).map ((fun x : Key × Value => x.1) ∘ fun x => ((.inr x.1 : Key), x.2)) = ((ks.zip ws).map (·.1)).map Sum.inr := by rw [List.map_map]; rfl
        rw [this, names]
        exact List.Pairwise.map _ (fun _ _ ne e => ne (Sum.inr.inj e)) B.nd
    have en := StX.env0_laid e0 ok
    have un := StX.un_laid (fs := frs outer) (s := s) (o := PySem.W.dictOf es' n') (u := .dK ((ks.zip zs).map fun x => ((.inr x.1 : Key), x.2))) fresh
    have z := fin { s with heap := s.heap.push (PySem.W.dictOf es' n'), toks := t' } _ (vs ++ [V.ref s.heap.objs.size]) (us ++ [Value.ref s.heap.objs.size]) ⟨en.frames, en.mod, en.bs, en.bsz, en.funs, en.frf, en.hok, en.bare⟩ un rfl (fun _ _ h => h.elim)
      (rv.append (.cons rfl .nil)) (by rw [List.length_append, List.length_append, lv]; rfl) ⟨_, fresh, rfl, rfl⟩
    rw [List.zip_append lus.symm] at z
    exact z
  · obtain ⟨d, nd, rfl, rfl⟩ := g
    obtain ⟨t, rule, read⟩ := body cdv A outer s2 _ vs zs d Q room2 upd_same lz ⟨H, nd, rfl, q⟩
    exact ⟨t, rule.nox, read⟩
end
/-- f(e, .., k = v, ..) of such a def -/
def tCallKw (n m : Nat) (sp : List V → List V → Hp → VK → Prop) (t tk : TA) : TE := fun σ H Q => t σ H fun vs H1 => tk σ H1 fun zs H2 => vs.length = n ∧ zs.length = m ∧ sp vs zs H2 Q
theorem pe_callKw {X : Cx} {k n : Nat} {f : Addr} {ks : List Str} {sp : List V → List V → Hp → VK → Prop} {x : Str} {p pos : Pos} {e : Expr} {es : List Expr} {kws : List Keyword} {t tk : TA} (F : FnKw X.prog X.w X.K X.mg X.base k f n ks sp) (room : Room k X.A) (isG : Gl X x) (at0 : X.mg x = some (.ref f)) (kp : PySem.W.keepIn X.K (.ref f) = true)
    (args : PA X (e :: es) t) (kargs : PK X kws tk) (all : (backToKw pos (keywordEach kws X.env)).all (·.1.isSome) = true := by rfl) (names : (backToKw pos (keywordEach kws X.env)).filterMap (·.1) = ks := by rfl)
    (nd : (x == ("__debug__" : Str)) = false := by decide) (he : starEach (e :: es) X.env = (false, eval e X.env) :: starEach es X.env := by rfl)
    (plain : ((backTo pos (starEach (e :: es) X.env)).any (·.1) || (backToKw pos (keywordEach kws X.env)).any (·.1.isNone)) = false := by rfl) :
    PE X (.Call (.Name x p) (e :: es) kws pos) (tCallKw n ks.length sp t tk) := by
  refine ⟨fun pins s σ H Q I h => wpAny_Call_Name_kw (ld_glob I isG at0 ?_ nd)⟩
  refine PySem.W.callWith_KW (h₀ := X.base) I.ok.mod.kin kp all (thn (args.run pos pins s σ H _ I h) fun us s1 ⟨vs, H1, I1, rv, q1⟩ => ?_) plain he
  refine thn (kargs.run pos pins s1 σ H1 _ I1 q1) fun ws s2 ⟨zs, H2, I2, rz, l1, l2, q2⟩ => ⟨I2.kIn, ?_⟩
  rw [names]
  refine wpAny_call (codeAny_mono (F X.A X.stack s2 H2 us ws vs zs Q room I2.env0 rv l1 rz l2 q2) fun r z hq => ?_)
  match r, hq with
  | .ok (.ret u), hq => exact I2.after hq
/-! ### xs != [], xs == [] -/
section
variable {X : Cx}
theorem op_neL (hu : X.A.units < cLine) : OpR X (compareOp .NotEq) (fun x y H Q => ∃ a b xs, x = .ref a ∧ y = .ref b ∧ SqL X.K H a xs ∧ SqL X.K H b [] ∧ Q (.bl (!xs.isEmpty)) H) := by
  intro pins s σ H x y v u Q I rx ry h
  obtain ⟨a, b, xs, rfl, rfl, hx, hy, q⟩ := h
  cases rx
  cases ry
  obtain ⟨its, r1, t1, _⟩ := I.list hx
  obtain ⟨its2, r2, t2, _⟩ := I.list hy
  cases r2
  cases r1 with
  | nil =>
    have rc := SeqAt.RcNeAt.lists (A := X.A) (s := s) (items := ([] : List Value).toArray) (items2 := ([] : List Value).toArray) (e := fun _ => true) t1.isList t2.isList rfl hu (fun j h1 _ => absurd h1 (by simp))
    exact rc X.prog X.w X.xe _ ⟨.bl _, H, I, rfl, q⟩
  | cons _ _ =>
    have rc := SeqAt.RcNeAt.lists_lengths (A := X.A) (s := s) t1.isList t2.isList (by simp) hu
    exact rc X.prog X.w X.xe _ ⟨.bl _, H, I, rfl, q⟩
theorem cmpOf_ltS {prog : Program} {w : World} {A : Around} (x y : Str) (t u : Tok) :
    CmpOf prog w A .Lt (fun i v => (#[Value.str x t, Value.str y u])[i]? = some v) (fun i j => decide (([x, y].getD i x).cps.toList < ([x, y].getD j x).cps.toList)) := fun i j vi vj s Q E hi hj h => by
  have one : ∀ (i : Nat) (v : Value), (#[Value.str x t, Value.str y u])[i]? = some v → ∃ tk, v = .str ([x, y].getD i x) tk := fun i v e => by
    match i with
    | 0 => exact ⟨t, by simpa using e.symm⟩
    | 1 => exact ⟨u, by simpa using e.symm⟩
    | n + 2 => simp at e
  obtain ⟨t1, rfl⟩ := one i vi hi
  obtain ⟨t2, rfl⟩ := one j vj hj
  exact lt_str h
theorem cmpOf_gtS {prog : Program} {w : World} {A : Around} (x y : Str) (t u : Tok) :
    CmpOf prog w A .Gt (fun i v => (#[Value.str x t, Value.str y u])[i]? = some v) (fun i j => decide (([x, y].getD j x).cps.toList < ([x, y].getD i x).cps.toList)) := fun i j vi vj s Q E hi hj h => by
  have one : ∀ (i : Nat) (v : Value), (#[Value.str x t, Value.str y u])[i]? = some v → ∃ tk, v = .str ([x, y].getD i x) tk := fun i v e => by
    match i with
    | 0 => exact ⟨t, by simpa using e.symm⟩
    | 1 => exact ⟨u, by simpa using e.symm⟩
    | n + 2 => simp at e
  obtain ⟨t1, rfl⟩ := one i vi hi
  obtain ⟨t2, rfl⟩ := one j vj hj
  exact PySem.P.gt_str h
theorem argBest1 (bt : Nat → Nat → Bool) : argBest bt 1 = if bt 1 0 = true then 1 else 0 := rfl
theorem max_two_str {prog : Program} {w : World} {A : Around} {E : Value → Shared → Prop} {s : Shared} {Q : Value → Shared → Prop} {x y : Str} {t u : Tok} (hh : A.handled = none)
    (h : ∀ h' tk, (∀ c o, s.heap.get? c = some o → h'.get? c = some o) → Q (if x.cps.toList < y.cps.toList then .str y u else .str x t) { s with heap := h', toks := tk }) :
    wpAny (model prog w) A (call (.builtin "max") [.str x t, .str y u]) Q E s := by
  have hT : (s.heap.push { cls := .type "tuple", data := .seq #[.str x t, .str y u] }).IsTuple s.heap.objs.size #[.str x t, .str y u] := ⟨_, Heap.get?_push_size _ rfl, rfl, 0, rfl⟩
  refine call_max_two (wpAny_pyIter_tuple hT ?_)
  have hsz : (s.heap.push { cls := .type "tuple", data := .seq #[.str x t, .str y u] }).objs.size = s.heap.objs.size + 1 := Heap.size_push ..
  refine ⟨_, [_, s.heap.objs.size], [_], _, _, _, _, rfl, Walks.tuple (A := A.in1) hh _ s.heap.objs.size (by rw [hsz]; exact Nat.ne_of_lt (Nat.lt_succ_self _)) #[.str x t, .str y u],
    ⟨⟨_, Heap.get?_push_size _ rfl, rfl, rfl⟩, hT.push _⟩, fun c hc => ?_, by simp, cmpOf_gtS x y t u, fun v h' tk hP hk => ?_⟩
  · show c < ((s.heap.push _).push _).objs.size
    rw [Heap.size_push, hsz]
    rcases List.mem_cons.mp hc with rfl | hc
    · rw [hsz]; exact Nat.lt_succ_self _
    · rcases List.mem_cons.mp hc with rfl | hc
      · exact Nat.lt_succ_of_lt (Nat.lt_succ_self _)
      · cases hc
  · have hold : ∀ c o, s.heap.get? c = some o → h'.get? c = some o := fun c o e => by
      refine hk c o (fun hm => ?_) (Heap.get?_push_of_some _ (Heap.get?_push_of_some _ e))
      rcases List.mem_cons.mp hm with e1 | hm
      · have := Heap.lt_size e; rw [e1, hsz] at this; exact Nat.lt_irrefl _ (Nat.lt_of_succ_lt this)
      · cases hm
    have := h h' tk hold
    have hv : v = if x.cps.toList < y.cps.toList then .str y u else .str x t := by
      rw [show #[Value.str x t, Value.str y u].size - 1 = 1 from rfl, argBest1] at hP
      replace hP : #[Value.str x t, Value.str y u][if decide (x.cps.toList < y.cps.toList) = true then 1 else 0]? = some v := hP
      by_cases hc : x.cps.toList < y.cps.toList
      · rw [if_pos (decide_eq_true hc)] at hP
        rw [if_pos hc]
        exact (Option.some.inj hP).symm
      · rw [if_neg (fun z => hc (of_decide_eq_true z))] at hP
        rw [if_neg hc]
        exact (Option.some.inj hP).symm
    rw [hv]; exact this
theorem min_two_str {prog : Program} {w : World} {A : Around} {E : Value → Shared → Prop} {s : Shared} {Q : Value → Shared → Prop} {x y : Str} {t u : Tok} (hh : A.handled = none)
    (h : ∀ h' tk, (∀ c o, s.heap.get? c = some o → h'.get? c = some o) → Q (if y.cps.toList < x.cps.toList then .str y u else .str x t) { s with heap := h', toks := tk }) :
    wpAny (model prog w) A (call (.builtin "min") [.str x t, .str y u]) Q E s := by
  have hT : (s.heap.push { cls := .type "tuple", data := .seq #[.str x t, .str y u] }).IsTuple s.heap.objs.size #[.str x t, .str y u] := ⟨_, Heap.get?_push_size _ rfl, rfl, 0, rfl⟩
  refine call_min_two (wpAny_pyIter_tuple hT ?_)
  have hsz : (s.heap.push { cls := .type "tuple", data := .seq #[.str x t, .str y u] }).objs.size = s.heap.objs.size + 1 := Heap.size_push ..
  refine ⟨_, [_, s.heap.objs.size], [_], _, _, _, _, rfl, Walks.tuple (A := A.in1) hh _ s.heap.objs.size (by rw [hsz]; exact Nat.ne_of_lt (Nat.lt_succ_self _)) #[.str x t, .str y u],
    ⟨⟨_, Heap.get?_push_size _ rfl, rfl, rfl⟩, hT.push _⟩, fun c hc => ?_, by simp, cmpOf_ltS x y t u, fun v h' tk hP hk => ?_⟩
  · show c < ((s.heap.push _).push _).objs.size
    rw [Heap.size_push, hsz]
    rcases List.mem_cons.mp hc with rfl | hc
    · rw [hsz]; exact Nat.lt_succ_self _
    · rcases List.mem_cons.mp hc with rfl | hc
      · exact Nat.lt_succ_of_lt (Nat.lt_succ_self _)
      · cases hc
  · have hold : ∀ c o, s.heap.get? c = some o → h'.get? c = some o := fun c o e => by
      refine hk c o (fun hm => ?_) (Heap.get?_push_of_some _ (Heap.get?_push_of_some _ e))
      rcases List.mem_cons.mp hm with e1 | hm
      · have := Heap.lt_size e; rw [e1, hsz] at this; exact Nat.lt_irrefl _ (Nat.lt_of_succ_lt this)
      · cases hm
    have := h h' tk hold
    have hv : v = if y.cps.toList < x.cps.toList then .str y u else .str x t := by
      rw [show #[Value.str x t, Value.str y u].size - 1 = 1 from rfl, argBest1] at hP
      replace hP : #[Value.str x t, Value.str y u][if decide (y.cps.toList < x.cps.toList) = true then 1 else 0]? = some v := hP
      by_cases hc : y.cps.toList < x.cps.toList
      · rw [if_pos (decide_eq_true hc)] at hP
        rw [if_pos hc]
        exact (Option.some.inj hP).symm
      · rw [if_neg (fun z => hc (of_decide_eq_true z))] at hP
        rw [if_neg hc]
        exact (Option.some.inj hP).symm
    rw [hv]; exact this
theorem call_max2S (hc : X.calm = true) : CallR X (.builtin "max") (fun xs H Q => ∃ a b : Nat, xs = [.str (ch a), .str (ch b)] ∧ Q (.str (ch (max a b))) H) := by
  intro pins s σ H xs us Q I r h
  obtain ⟨a, b, rfl, q⟩ := h
  obtain ⟨u, w', rfl, ⟨t, rfl⟩, ⟨t', rfl⟩⟩ := vals2 r
  refine max_two_str (I.ok.hd hc) fun h' tk k => ⟨_, H, I.kept k, ?_, q⟩
  have e : ((ch a).cps.toList < (ch b).cps.toList) ↔ a < b := by
    have := ch_lt a b
    simpa using this
  by_cases hj : a < b
  · rw [if_pos (e.mpr hj), Nat.max_eq_right (Nat.le_of_lt hj)]; exact ⟨_, rfl⟩
  · rw [if_neg (fun z => hj (e.mp z)), Nat.max_eq_left (by omega)]; exact ⟨_, rfl⟩
theorem call_min2S (hc : X.calm = true) : CallR X (.builtin "min") (fun xs H Q => ∃ a b : Nat, xs = [.str (ch a), .str (ch b)] ∧ Q (.str (ch (min a b))) H) := by
  intro pins s σ H xs us Q I r h
  obtain ⟨a, b, rfl, q⟩ := h
  obtain ⟨u, w', rfl, ⟨t, rfl⟩, ⟨t', rfl⟩⟩ := vals2 r
  refine min_two_str (I.ok.hd hc) fun h' tk k => ⟨_, H, I.kept k, ?_, q⟩
  have e : ((ch b).cps.toList < (ch a).cps.toList) ↔ b < a := by
    have := ch_lt b a
    simpa using this
  by_cases hj : b < a
  · rw [if_pos (e.mpr hj), Nat.min_eq_right (Nat.le_of_lt hj)]; exact ⟨_, rfl⟩
  · rw [if_neg (fun z => hj (e.mp z)), Nat.min_eq_left (by omega)]; exact ⟨_, rfl⟩
end
/-! ### the deck -/
structure Deck where
  dk : Addr
  ca : Addr
  ra : Addr
structure DeckOk (H : Hp) (D : Deck) (n : Nat) : Prop where
  ex : ∃ cells rests : List Int, H D.dk = some (.lst [.ref D.ca, .int (n : Int), .ref D.ra]) ∧ H D.ca = some (.lst (cells.map V.int)) ∧ H D.ra = some (.lst (rests.map V.int)) ∧ 0 < cells.length ∧ rests.length = cells.length ∧ cells.length ≤ 64
  dc : D.dk ≠ D.ca
  dr : D.dk ≠ D.ra
  cr : D.ca ≠ D.ra
/-- all stands still but the deck's list and its rests -/
def SameD (D : Deck) (H H' : Hp) : Prop := ∀ b o, b ≠ D.dk → b ≠ D.ra → H b = some o → H' b = some o
theorem SameD.refl (D : Deck) (H : Hp) : SameD D H H := fun _ _ _ _ h => h
theorem SameD.trans {D : Deck} {H H1 H2 : Hp} (a : SameD D H H1) (b : SameD D H1 H2) : SameD D H H2 := fun c o h1 h2 h => b c o h1 h2 (a c o h1 h2 h)
theorem SameD.of {D : Deck} {H H' : Hp} (h : Same H H') : SameD D H H' := fun b o _ _ e => h b o e
theorem DeckOk.lists {H : Hp} {D : Deck} {n : Nat} (d : DeckOk H D n) : (∃ xs, H D.dk = some (.lst xs)) ∧ (∃ xs, H D.ra = some (.lst xs)) := by
  obtain ⟨c, r, h1, _, h3, _⟩ := d.ex
  exact ⟨⟨_, h1⟩, ⟨_, h3⟩⟩
theorem SameD.keepT {D : Deck} {H H' : Hp} {n : Nat} (h : SameD D H H') (d : DeckOk H D n) : KeepT H H' := fun b xs e => by
  obtain ⟨⟨x1, h1⟩, ⟨x2, h2⟩⟩ := d.lists
  exact h b _ (ne_of e h1 (by intro z; cases z)) (ne_of e h2 (by intro z; cases z)) e
theorem SameD.free {D : Deck} {H H' : Hp} {n : Nat} (h : SameD D H H') (d : DeckOk H' D n) {p : Addr} (e : H' p = none) : H p = none := by
  obtain ⟨⟨x1, h1⟩, ⟨x2, h2⟩⟩ := d.lists
  have n1 : p ≠ D.dk := fun z => by rw [z, h1] at e; cases e
  have n2 : p ≠ D.ra := fun z => by rw [z, h2] at e; cases e
  cases q : H p with
  | none => rfl
  | some o =>
    rw [h p o n1 n2 q] at e
    cases e
theorem DeckOk.same {H H' : Hp} {D : Deck} {n : Nat} (d : DeckOk H D n) (h : Same H H') : DeckOk H' D n := by
  obtain ⟨c, r, h1, h2, h3, h4⟩ := d.ex
  exact ⟨⟨c, r, h _ _ h1, h _ _ h2, h _ _ h3, h4⟩, d.dc, d.dr, d.cr⟩
structure Off (D : Deck) (p : Addr) : Prop where
  dk : p ≠ D.dk
  ca : p ≠ D.ca
  ra : p ≠ D.ra
theorem DeckOk.new {H : Hp} {D : Deck} {n : Nat} (d : DeckOk H D n) {p : Addr} (e : H p = none) : Off D p := by
  obtain ⟨c, r, h1, h2, h3, _⟩ := d.ex
  refine ⟨fun z => ?_, fun z => ?_, fun z => ?_⟩
  · rw [z, h1] at e
    cases e
  · rw [z, h2] at e
    cases e
  · rw [z, h3] at e
    cases e
theorem DeckOk.put {H : Hp} {D : Deck} {n : Nat} (d : DeckOk H D n) {p : Addr} (f : Off D p) (o : HO) : DeckOk (upd H p o) D n := by
  obtain ⟨c, r, h1, h2, h3, h4⟩ := d.ex
  exact ⟨⟨c, r, by rw [upd_ne f.dk.symm]; exact h1, by rw [upd_ne f.ca.symm]; exact h2, by rw [upd_ne f.ra.symm]; exact h3, h4⟩, d.dc, d.dr, d.cr⟩
theorem SameD.put {D : Deck} {H H' : Hp} {p : Addr} (s : SameD D H H') (e : H p = none) (o : HO) : SameD D H (upd H' p o) := fun b u h1 h2 h => by
  rw [upd_ne (ne_of_none h e)]
  exact s b u h1 h2 h
theorem SameD.at {D : Deck} {H H' : Hp} {p : Addr} {o : HO} (s : SameD D H H') (f : Off D p) (e : H p = some o) : H' p = some o := s p o f.dk f.ra e
theorem modB (z p : Int) (h0 : 0 < p) : 0 ≤ z % p ∧ z % p < p := ⟨Int.emod_nonneg z (by omega), Int.emod_lt_of_pos z h0⟩
def spDraw : Sp := fun vs H Q _ => ∃ (D : Deck) (n : Nat) (m : Int), vs = [.ref D.dk, .int m] ∧ DeckOk H D n ∧ n < 1000000 ∧ 0 < m ∧ m < 10000 ∧ ∀ (i : Int) (H' : Hp), 0 ≤ i → i < m → DeckOk H' D (n + 1) → SameD D H H' → Q (.int i) H'
theorem sq_le {n : Nat} (h : n ≤ 1000000) : 69621 * (n : Int) * (n : Int) ≤ 69621000000000000 ∧ 0 ≤ 69621 * (n : Int) * (n : Int) := by
  have h1 : (n : Int) * (n : Int) ≤ 1000000 * 1000000 := Int.mul_le_mul (by omega) (by omega) (by omega) (by omega)
  have h0 : 0 ≤ (n : Int) * (n : Int) := Int.mul_nonneg (by omega) (by omega)
  rw [Int.mul_assoc]
  omega
section
variable {P : Program} {w : World} {K : PySem.W.Frag} {mg : Str → Option Value} {base : Heap} {f : Addr} {fd : FuncData}
theorem ok_draw {k : Nat} (F : Fun K "_law_draw" "_law_draw" s__law_draw f fd) (M : Mgs mg) : FnOk P w K mg base CX0 (k + 1) f fd ["_law_deck_here", "_law_many"] spDraw := by
  refine F.ok sc__law_draw (fun vs H Q E h => ?_) (fun cdv A outer s H vs Q E hr h => ?_)
  · obtain ⟨D, n, m, rfl, _⟩ := h
    rfl
  obtain ⟨D, n, m, rfl, d, hn, m0, m1, q⟩ := h
  obtain ⟨cells, rests, e1, e2, e3, c0, cr, c1⟩ := d.ex
  have cl : ((cells.map V.int).length : Int) = (cells.length : Int) := by rw [List.length_map]
  have z0 : atI [V.ref D.ca, V.int (n : Int), V.ref D.ra] 0 = some (.ref D.ca) := atI_nat (j := 0) rfl
  have z1 : atI [V.ref D.ca, V.int (n : Int), V.ref D.ra] 1 = some (.int (n : Int)) := atI_nat (j := 1) rfl
  refine ⟨_, (pss_cons (ps_set (i := 2) sc__law_draw.nd rfl (.inl rfl) (pe_op op_mod (pe_ix ix_list (pv 0) pe_int (fun _ _ => rfl)) (pe_callB call_len_seq rfl M.len PySem.boot_len (pa_cons (pe_ix ix_list (pv 0) pe_int (fun _ _ => rfl)) pa_nil))))
    (pss_cons (ps_asg (pe_op op_add (pe_ix ix_list (pv 0) pe_int (fun _ _ => rfl)) pe_int) (pg_sub (pv 0) pe_int set_list))
    (pss_cons (ps_if (pt_cmpR op_gt (pe_ix ix_list (pe_ix ix_list (pv 0) pe_int (fun _ _ => rfl)) (pv 2) (fun _ _ => rfl)) pe_int (nomark _))
      (pss_cons (ps_set (i := 3) sc__law_draw.nd rfl (.inl rfl) (pe_op op_mod (pe_ix ix_list (pe_ix ix_list (pv 0) pe_int (fun _ _ => rfl)) (pv 2) (fun _ _ => rfl)) (pv 1)))
    (pss_cons (ps_asg (pe_op op_fdiv (pe_ix ix_list (pe_ix ix_list (pv 0) pe_int (fun _ _ => rfl)) (pv 2) (fun _ _ => rfl)) (pv 1)) (pg_sub (pe_ix ix_list (pv 0) pe_int (fun _ _ => rfl)) (pv 2) set_list))
    (pss_one (ps_ret (pv 3))))) pss_nil)
    (pss_cons (ps_set (i := 4) sc__law_draw.nd rfl (.inl rfl) (pe_op op_mod (pe_op op_pow (pe_op op_add (pe_op op_add (pe_op op_mod (pe_ix ix_list (pe_ix ix_list (pv 0) pe_int (fun _ _ => rfl)) (pv 2) (fun _ _ => rfl)) pe_int) (pe_op op_mul pe_int (pe_ix ix_list (pv 0) pe_int (fun _ _ => rfl)))) pe_int) pe_int) pe_int))
    (pss_cons (ps_set (i := 4) sc__law_draw.nd rfl (.inl rfl) (pe_op op_mod (pe_op op_pow (pe_op op_add (pv 4) (pe_op op_mul (pe_op op_mul pe_int (pe_ix ix_list (pv 0) pe_int (fun _ _ => rfl))) (pe_ix ix_list (pv 0) pe_int (fun _ _ => rfl)))) pe_int) pe_int))
    (pss_one (ps_ret (pe_op op_mod (pe_op op_fdiv (pv 4) pe_int) (pv 1))))))))), ?_⟩
  refine ⟨_, rfl, D.dk, _, _, _, rfl, rfl, SqL.of e1, z1, _, rfl, D.dk, _, _, _, rfl, rfl, SqL.of e1, z0, D.ca, _, rfl, .inl (SqL.of e2), _, _, rfl, rfl, (by show (0 : Int) < ((cells.map V.int).length : Int); rw [cl]; omega), ?_⟩
  have i0 : 0 ≤ (n : Int) % ((cells.map V.int).length : Int) := Int.emod_nonneg _ (by rw [cl]; omega)
  have i1 : (n : Int) % ((cells.map V.int).length : Int) < (cells.length : Int) := by
    rw [cl]
    exact Int.emod_lt_of_pos _ (by omega)
  have l1 : ((n : Int) % ((cells.map V.int).length : Int)).toNat < rests.length := by omega
  have l2 : ((n : Int) % ((cells.map V.int).length : Int)).toNat < cells.length := by omega
  have a1 := at_map (f := V.int) i0 (List.getElem?_eq_getElem l1)
  have a2 := at_map (f := V.int) i0 (List.getElem?_eq_getElem l2)
  have ix1 : ixN (rests.map V.int).length ((n : Int) % ((cells.map V.int).length : Int)) = some ((n : Int) % ((cells.map V.int).length : Int)).toNat := ixN_nat i0 (by rw [List.length_map (as := rests), cr]; exact i1)
  refine ⟨_, rfl, D.dk, _, _, _, rfl, rfl, SqL.of e1, z1, _, _, rfl, rfl, _, rfl, D.dk, _, _, 1, rfl, rfl, e1, rfl, ?_⟩
  have x1 : (upd H D.dk (.lst [.ref D.ca, .int ((n : Int) + 1), .ref D.ra])) D.dk = some (.lst [.ref D.ca, .int ((n + 1 : Nat) : Int), .ref D.ra]) := upd_same
  have x2 : (upd H D.dk (.lst [.ref D.ca, .int ((n : Int) + 1), .ref D.ra])) D.ca = some (.lst (cells.map V.int)) := by rw [upd_ne d.dc.symm]; exact e2
  have x3 : (upd H D.dk (.lst [.ref D.ca, .int ((n : Int) + 1), .ref D.ra])) D.ra = some (.lst (rests.map V.int)) := by rw [upd_ne d.dr.symm]; exact e3
  have sd : SameD D H (upd H D.dk (.lst [.ref D.ca, .int ((n : Int) + 1), .ref D.ra])) := fun b o h1 _ e => by rw [upd_ne h1]; exact e
  have y0 : atI [V.ref D.ca, V.int ((n + 1 : Nat) : Int), V.ref D.ra] 0 = some (.ref D.ca) := atI_nat (j := 0) rfl
  have y1 : atI [V.ref D.ca, V.int ((n + 1 : Nat) : Int), V.ref D.ra] 1 = some (.int ((n + 1 : Nat) : Int)) := atI_nat (j := 1) rfl
  have y2 : atI [V.ref D.ca, V.int ((n + 1 : Nat) : Int), V.ref D.ra] 2 = some (.ref D.ra) := atI_nat (j := 2) rfl
  have sx1 := SqL.of (K := K) x1
  refine ⟨_, rfl, D.dk, _, _, _, rfl, rfl, sx1, y2, _, rfl, D.ra, _, _, _, rfl, rfl, SqL.of x3, a1, _, _, rfl, rfl, _, rfl, ite2 (fun _ => ?_) (fun _ => ?_)⟩
  · refine ⟨_, rfl, D.dk, _, _, _, rfl, rfl, sx1, y2, _, rfl, D.ra, _, _, _, rfl, rfl, SqL.of x3, a1, _, rfl, _, _, rfl, rfl, m0, ?_⟩
    refine ⟨_, rfl, D.dk, _, _, _, rfl, rfl, sx1, y2, _, rfl, D.ra, _, _, _, rfl, rfl, SqL.of x3, a1, _, rfl, _, _, rfl, rfl, ⟨by omega, by omega⟩, ?_⟩
    refine ⟨_, rfl, D.dk, _, _, _, rfl, rfl, sx1, y2, _, rfl, D.ra, _, _, _, rfl, rfl, x3, ix1, ?_⟩
    refine ⟨_, rfl, ?_⟩
    refine q _ _ (Int.emod_nonneg _ (by omega)) (Int.emod_lt_of_pos _ m0) ⟨⟨cells, rests.set ((n : Int) % ((cells.map V.int).length : Int)).toNat (rests[((n : Int) % ((cells.map V.int).length : Int)).toNat] / m), ?_, ?_, ?_, c0, ?_, c1⟩, d.dc, d.dr, d.cr⟩ ?_
    · rw [upd_ne d.dr]; exact x1
    · rw [upd_ne d.cr]; exact x2
    · rw [upd_same, List.map_set]
    · rw [List.length_set]; exact cr
    · exact sd.trans fun b o _ h2 e => by rw [upd_ne h2]; exact e
  · have b1 := modB cells[((n : Int) % ((cells.map V.int).length : Int)).toNat] 2147483629 (by decide)
    have b2 := sq_le (n := n + 1) (by omega)
    refine ⟨_, rfl, D.dk, _, _, _, rfl, rfl, sx1, y0, _, rfl, D.ca, _, _, _, rfl, rfl, SqL.of x2, a2, _, _, rfl, rfl, (show (0 : Int) < 2147483629 by decide), _, rfl, D.dk, _, _, _, rfl, rfl, sx1, y1, _, _, rfl, rfl, .inl ⟨by decide, by decide⟩, _, _, rfl, rfl, _, _, rfl, rfl, _, _, rfl, rfl, ⟨by decide, by decide, by omega⟩, _, _, rfl, rfl, (show (0 : Int) < 2147483647 by decide), ?_⟩
    generalize (cells[((n : Int) % ((cells.map V.int).length : Int)).toNat] % 2147483629 + 48271 * ((n + 1 : Nat) : Int) + 7) ^ Int.toNat 3 = g1
    have b3 := modB g1 2147483647 (by decide)
    refine ⟨_, rfl, _, rfl, D.dk, _, _, _, rfl, rfl, sx1, y1, _, _, rfl, rfl, .inl ⟨by decide, by decide⟩, _, rfl, D.dk, _, _, _, rfl, rfl, sx1, y1, _, _, rfl, rfl, .inr ⟨by omega, by omega⟩, _, _, rfl, rfl, _, _, rfl, rfl, ⟨by decide, by decide, by omega⟩, _, _, rfl, rfl, (show (0 : Int) < 2147483587 by decide), ?_⟩
    refine ⟨_, rfl, _, _, rfl, rfl, ⟨by decide, by decide⟩, _, rfl, _, _, rfl, rfl, m0, ?_⟩
    exact q _ _ (Int.emod_nonneg _ (by omega)) (Int.emod_lt_of_pos _ m0) ⟨⟨cells, rests, x1, x2, x3, c0, cr, c1⟩, d.dc, d.dr, d.cr⟩ sd
end
/-! ### _law_deck -/
theorem rep_flat {α : Type} (a : α) : ∀ m : Nat, (List.replicate m [a]).flatten = List.replicate m a
  | 0 => rfl
  | m + 1 => by
    rw [List.replicate_succ, List.replicate_succ, List.flatten_cons, rep_flat a m]
    rfl
def spDeck (K : PySem.W.Frag) : Sp := fun vs H Q _ => ∃ (a : Addr) (ns : List Int), vs = [.ref a] ∧ SqL K H a (ns.map V.int) ∧ ∀ (D : Deck) (H' : Hp), DeckOk H' D 0 → Same H H' → Q (.ref D.dk) H'
section
variable {P : Program} {w : World} {K : PySem.W.Frag} {mg : Str → Option Value} {base : Heap} {f : Addr} {fd : FuncData}
theorem ok_deck {k : Nat} (F : Fun K "_law_deck" "_law_deck" s__law_deck f fd) (M : Mgs mg) : FnOk P w K mg base CX0 (k + 1) f fd ["_law_script"] (spDeck K) := by
  refine F.ok sc__law_deck (fun vs H Q E h => ?_) (fun cdv A outer s H vs Q E hr h => ?_)
  · obtain ⟨a, ns, rfl, _⟩ := h
    rfl
  obtain ⟨a, ns, rfl, hS, q⟩ := h
  refine ⟨_, (pss_cons (ps_set (i := 1) sc__law_deck.nd rfl (.inl rfl) (pe_op op_cat (pe_callTy call_list_of rfl M.list (by decide +kernel) (pa_cons (pe_slice sl_list (pv 0) po_none (po_some pe_int)) pa_nil)) (pe_op op_rep (pe_lst (pa_cons pe_int pa_nil)) (pe_callTy call_int1 rfl M.int (by decide +kernel) (pa_cons (pe_cmpR op_eq (pe_callB call_len_seq rfl M.len PySem.boot_len (pa_cons (pv 0) pa_nil)) pe_int (nomark _)) pa_nil)))))
    (pss_one (ps_ret (pe_lst (pa_cons (pv 1) (pa_cons pe_int (pa_cons (pe_lc (own := [("_law_cell", 2)]) (g := gName 2) (tt := tYes) rfl sc__law_deck.nd (pi_list (pv 1)) (blkOk_by (N := ["_law_script", "_law_cells", "_law_cell"]) (sc := defScope s__law_deck) (by decide +kernel)) (fun _ _ _ _ _ => (pg_name (i := 2) sc__law_deck.nd rfl (.inl rfl))) (fun _ _ _ _ _ => pts_nil) (fun _ _ _ _ _ => (pe_op op_mul (pe_callB call_abs rfl M.abs (by decide +kernel) (pa_cons (pv 2) pa_nil)) (pe_callTy call_int1 rfl M.int (by decide +kernel) (pa_cons (pe_cmpR op_ge (pe_callB call_abs rfl M.abs (by decide +kernel) (pa_cons (pv 2) pa_nil)) (pe_op op_pow pe_int pe_int) (nomark _)) pa_nil))))) pa_nil))))))), ?_⟩
  refine ⟨.ref a, rfl, 63, rfl, a, ns.map V.int, rfl, hS, fun c nc => ?_⟩
  rw [show (63 : Int) = ((63 : Nat) : Int) from rfl, cut_to, ← List.map_take]
  have s1 := same_new nc (.lst ((ns.take 63).map V.int))
  have ec := upd_same (H := H) (a := c) (o := .lst ((ns.take 63).map V.int))
  generalize upd H c (.lst ((ns.take 63).map V.int)) = H1 at s1 ec
  refine ⟨c, _, rfl, .inl (SqL.of ec), fun c2 nc2 => ?_⟩
  have s2 := same_new nc2 (.lst ((ns.take 63).map V.int))
  have ec2 := upd_same (H := H1) (a := c2) (o := .lst ((ns.take 63).map V.int))
  generalize upd H1 c2 (.lst ((ns.take 63).map V.int)) = H2 at s2 ec2
  refine ⟨(by show 1 ≤ sizeLine; decide), fun z nz => ?_⟩
  have s3 := same_new nz (.lst [.int 11])
  have ez := upd_same (H := H2) (a := z) (o := .lst [.int 11])
  have ec3 := s3 _ _ ec2
  generalize upd H2 z (.lst [.int 11]) = H3 at s3 ez ec3
  have sH := (s1.trans s2).trans s3
  refine ⟨.ref a, rfl, a, _, rfl, .inl (sH.seq hS), rfl, .inr ⟨_, rfl, z, _, _, rfl, rfl, ez, ?_, ?_, ?_, fun y ny => ?_⟩⟩
  · split <;> decide
  · split <;> decide
  · split <;> decide
  have s4 := same_new ny (.lst (List.replicate (Int.toNat (if decide (V.int ((ns.map V.int).length : Int) = V.int 0) = true then 1 else 0)) [V.int 11]).flatten)
  obtain ⟨ex, hex, hexl⟩ : ∃ ex : List Int, (List.replicate (Int.toNat (if decide (V.int ((ns.map V.int).length : Int) = V.int 0) = true then 1 else 0)) [V.int 11]).flatten = ex.map V.int ∧ 0 < (ns.take 63).length + ex.length ∧ (ns.take 63).length + ex.length ≤ 63 := by
    by_cases h0 : ns.length = 0
    · refine ⟨[11], ?_, Nat.succ_pos _, ?_⟩
      · rw [show (decide (V.int ((ns.map V.int).length : Int) = V.int 0)) = true by rw [List.length_map, h0]; rfl]
        rfl
      · rw [List.length_take, h0]
        decide
    · refine ⟨[], ?_, ?_, ?_⟩
      · rw [show (decide (V.int ((ns.map V.int).length : Int) = V.int 0)) = false by
          apply decide_eq_false
          intro z
          have z' := V.int.inj z
          rw [List.length_map] at z'
          omega]
        rfl
      · rw [List.length_take, List.length_nil]; omega
      · rw [List.length_take, List.length_nil]; omega
  refine ⟨c2, y, _, _, rfl, rfl, s4 _ _ ec3, upd_same, ?_, fun p np => ?_⟩
  · rw [hex, List.length_map, List.length_map]
    exact small (by omega)
  have s5 := same_new np (.lst ((ns.take 63).map V.int ++ (List.replicate (Int.toNat (if decide (V.int ((ns.map V.int).length : Int) = V.int 0) = true then 1 else 0)) [V.int 11]).flatten))
  have s6 := sH.trans (s4.trans s5)
  refine ⟨.ref p, rfl, _, rfl, p, rfl, ⟨_, SqL.of upd_same⟩, fun r nr => ?_⟩
  rw [hex, ← List.map_append] at s5 s6 nr ⊢
  generalize hH2 : upd (upd H3 y (.lst (ex.map V.int))) p (.lst ((ns.take 63 ++ ex).map V.int)) = H4 at s5 s6 nr ⊢
  have ep : H4 p = some (.lst ((ns.take 63 ++ ex).map V.int)) := by rw [← hH2]; exact upd_same
  have hpr : p ≠ r := ne_of_none ep nr
  refine lc_list (K := K) (a := p) (xs := (ns.take 63 ++ ex).map V.int) (fun i H' => Same H4 H' ∧ ∃ ys : List Int, ys.length = i ∧ H' r = some (.lst (ys.map V.int))) ⟨same_new nr _, [], rfl, upd_same⟩ (fun i H' _ hp => SqL.of (hp.1 _ _ ep)) (fun i x H' hx hp => ?_) (fun H5 hp => ?_)
  · obtain ⟨sm, ys, hy, hd⟩ := hp
    rw [List.getElem?_map] at hx
    obtain ⟨v, hv, rfl⟩ := Option.map_eq_some_iff.mp hx
    have hi : i < 64 := by
      have := (List.getElem?_eq_some_iff.mp hv).1
      rw [List.length_append] at this
      omega
    refine ⟨rfl, kept ?_⟩
    refine ⟨_, rfl, _, rfl, _, rfl, _, rfl, _, _, rfl, rfl, ⟨by decide, by decide, by decide⟩, _, _, rfl, rfl, .inr ⟨_, rfl, _, _, rfl, rfl, .inr ?_, _, hd, by rw [List.length_map]; exact small1000 (by omega), fun b o e => ?_, ys ++ [(if v < 0 then -v else v) * (if decide ((10 : Int) ^ Int.toNat 18 ≤ (if v < 0 then -v else v)) = true then 1 else 0)], by rw [List.length_append, hy]; rfl, ?_⟩⟩
    · generalize decide ((10 : Int) ^ Int.toNat 18 ≤ (if v < 0 then -v else v)) = bb
      cases bb <;> decide
    · rw [upd_ne (ne_of_none e nr)]
      exact sm _ _ e
    · rw [upd_same, List.map_append]
      rfl
  · obtain ⟨sm, ys, hy, hd⟩ := hp
    refine ⟨(by show 3 ≤ sizeLine; decide), fun t nt => ?_⟩
    have s9 := same_new nt (.lst [.ref p, .int 0, .ref r])
    have ep3 := sm _ _ ep
    refine q ⟨t, p, r⟩ _ ⟨⟨ns.take 63 ++ ex, ys, upd_same, s9 _ _ ep3, s9 _ _ hd, ?_, ?_, ?_⟩, (ne_of_none ep3 nt).symm, (ne_of_none hd nt).symm, hpr⟩ (s6.trans (sm.trans s9))
    · rw [List.length_append]; omega
    · rw [hy, List.length_map]
    · rw [List.length_append]; omega
end
/-! ### _law_pick, _law_mixed -/
abbrev vc (c : Nat) : V := .str (ch c)
abbrev vt (z : List Nat) : V := .str (tx z)
theorem at_ge {α : Type} {xs : List α} {i : Int} (h0 : 0 ≤ i) (h : i.toNat < xs.length) : atI xs i = some xs[i.toNat] := by
  have e := atI_nat (xs := xs) (j := i.toNat) (List.getElem?_eq_getElem h)
  rwa [Int.toNat_of_nonneg h0] at e
theorem erase_perm {α : Type} : ∀ {l : List α} {i : Nat} (h : i < l.length), List.Perm (l[i] :: l.eraseIdx i) l
  | x :: l, 0, _ => List.Perm.refl _
  | x :: l, i + 1, h => by
    have := erase_perm (l := l) (i := i) (Nat.lt_of_succ_lt_succ h)
    show List.Perm (l[i]'(Nat.lt_of_succ_lt_succ h) :: x :: l.eraseIdx i) (x :: l)
    exact (List.Perm.swap _ _ _).trans (this.cons x)
section
variable {P : Program} {w : World} {K : PySem.W.Frag} {mg : Str → Option Value} {base : Heap} {f : Addr} {fd : FuncData}
def spMixed : Sp := fun vs H Q _ => ∃ (D : Deck) (n : Nat) (a : Addr) (ls : List V), vs = [.ref D.dk, .ref a] ∧ DeckOk H D n ∧ n + ls.length ≤ 1000000 ∧ H a = some (.lst ls) ∧ Off D a ∧ ls.length ≤ 60 ∧
  ∀ (p : Addr) (zs : List V) (H' : Hp), DeckOk H' D (n + ls.length) → SameD D H H' → H p = none → H' p = some (.lst zs) → zs.Perm ls → Off D p → Q (.ref p) H'
theorem ok_mixed {k : Nat} (F : Fun K "_law_mixed" "_law_mixed" s__law_mixed f fd) (M : Mgs mg) (D_law_draw : Df P w K mg base (k + 1) "_law_draw" ["_law_deck_here", "_law_many"] spDraw) : FnOk P w K mg base CX0 (k + 2) f fd ["_law_deck_here", "_law_row"] spMixed := by
  refine F.ok sc__law_mixed (fun vs H Q E h => ?_) (fun cdv A outer s H vs Q E hr h => ?_)
  · obtain ⟨D, n, a, ls, rfl, _⟩ := h
    rfl
  obtain ⟨D, n, a, ls, rfl, d, hn, ea, oa, hl, q⟩ := h
  refine ⟨_, (pss_cons (ps_set (i := 2) sc__law_mixed.nd rfl (.inl rfl) (pe_callTy call_list_of rfl M.list (by decide +kernel) (pa_cons (pv 1) pa_nil)))
    (pss_cons (ps_set (i := 3) sc__law_mixed.nd rfl (.inl rfl) (pe_lst pa_nil))
    (pss_cons (ps_while PassesOwn.never (pt_cmpR (op_neL hr.units0) (pv 2) (pe_lst pa_nil) (nomark _))
      (pss_one (ps_expr (pe_bm PySem.F.plainAttrs_list PySem.F.slot_list_append PySem.F.type_list_append mt_append (pv 3) (pa_cons (pe_bm PySem.F.plainAttrs_list PySem.F.slot_list_pop PySem.F.type_list_pop mt_popAt (pv 2) (pa_cons (pe_call D_law_draw.ok (hr.mono (by omega)) rfl D_law_draw.g D_law_draw.kp D_law_draw.b .nil pass0 (pa_cons (pv 0) (pa_cons (pe_callB call_len_seq rfl M.len PySem.boot_len (pa_cons (pv 2) pa_nil)) pa_nil))) pa_nil)) pa_nil)))))
    (pss_one (ps_ret (pv 3)))))), ?_⟩
  refine ⟨_, rfl, a, _, rfl, .inl (SqL.of ea), fun ra nra => ?_⟩
  refine ⟨(by show 0 ≤ sizeLine; decide), fun fa nfa => ?_⟩
  have q1 := same_new nra (.lst ls)
  have q2 := same_new nfa (.lst [])
  have era := q2 _ _ (upd_same (H := H) (a := ra) (o := .lst ls))
  have nrf : ra ≠ fa := ne_of_none upd_same nfa
  have nfaH : H fa = none := by
    rw [upd_ne nrf.symm] at nfa
    exact nfa
  have ora := d.new nra
  have ofa := d.new nfaH
  refine while_by (fun σ H' => σ = [some (.ref D.dk), some (.ref a), some (.ref ra), some (.ref fa)] ∧ ∃ rest xs : List V, DeckOk H' D (n + xs.length) ∧ SameD D H H' ∧ H' ra = some (.lst rest) ∧ H' fa = some (.lst xs) ∧ (xs ++ rest).Perm ls) (fun σ H' => match H' ra with | some (.lst xs) => xs.length | _ => 0)
    ⟨rfl, ls, [], (d.same q1).same q2, SameD.of (q1.trans q2), era, upd_same, List.Perm.refl _⟩ (fun σ H' hp => ?_) ?_
  · obtain ⟨rfl, rest, xs, d', s', er, ef, pm⟩ := hp
    have hlen : xs.length + rest.length = ls.length := by rw [← List.length_append]; exact pm.length_eq
    refine ⟨_, rfl, (by show 0 ≤ sizeLine; decide), fun el ne => ?_⟩
    have q3 := same_new ne (.lst [])
    refine ⟨ra, el, _, rfl, rfl, SqL.of (q3 _ _ er), SqL.of upd_same, _, rfl, ?_⟩
    have d1 := d'.same q3
    have s1 := s'.trans (SameD.of q3)
    have er1 := q3 _ _ er
    have ef1 := q3 _ _ ef
    generalize upd H' el (.lst []) = H1 at d1 s1 er1 ef1
    cases hg : rest with
    | nil =>
      refine iteF ?_
      subst hg
      rw [List.append_nil] at pm
      rw [List.length_nil, Nat.add_zero] at hlen
      rw [hlen] at d1
      exact ⟨_, rfl, q fa xs H1 d1 s1 nfaH ef1 pm ofa⟩
    | cons g0 gr =>
      refine iteT ?_
      have r0 : 0 < rest.length := by rw [hg]; exact Nat.succ_pos _
      refine ⟨_, rfl, .inl ⟨rfl, _, SqL.of ef1⟩, _, rfl, .inl ⟨rfl, _, SqL.of er1⟩, _, rfl, _, rfl, ra, _, rfl, .inl (SqL.of er1), D, _, _, rfl, d1, by omega, by omega, by omega, fun j H2 j0 j1 d2 s2 => ?_⟩
      have hj : j.toNat < rest.length := by omega
      have er2 := s2.at ora er1
      have ef2 := s2.at ofa ef1
      refine ⟨ra, _, j, j.toNat, rest[j.toNat], rfl, rfl, er2, by omega, by omega, (ixN_seq (ixN_nat j0 (by omega))).1, List.getElem?_eq_getElem hj, ?_⟩
      have ef3 : (upd H2 ra (.lst (rest.eraseIdx j.toNat))) fa = some (.lst xs) := by rw [upd_ne nrf.symm]; exact ef2
      refine ⟨fa, _, _, rfl, rfl, ef3, small1000 (by omega), ?_⟩
      refine ⟨⟨rfl, rest.eraseIdx j.toNat, xs ++ [rest[j.toNat]], ?_, ((s1.trans s2).put nra _).put nfaH _, ?_, upd_same, ?_⟩, ?_⟩
      · rw [List.length_append]
        exact (d2.put ora _).put ofa _
      · rw [upd_ne nrf, upd_same]
      · rw [List.append_assoc]
        exact (List.Perm.append_left xs (erase_perm hj)).trans pm
      · show (match (upd (upd H2 ra _) fa (.lst (xs ++ [rest[j.toNat]]))) ra with | some (.lst xs) => xs.length | _ => 0) < (match H' ra with | some (.lst xs) => xs.length | _ => 0)
        rw [upd_ne nrf, upd_same, er]
        show (rest.eraseIdx j.toNat).length < rest.length
        rw [List.length_eraseIdx_of_lt hj]
        omega
  · intro σ H' Q1 Q2 hQ h
    obtain ⟨v, e, h0, h⟩ := h
    refine ⟨v, e, h0, fun el ne => ?_⟩
    obtain ⟨a, b, zs, h1, h2, h3, h4, k, h5, h6⟩ := h el ne
    exact ⟨a, b, zs, h1, h2, h3, h4, k, h5, hQ _ _ h6⟩
end
theorem iteS {x y : Str} {A B : Prop} (h : x = y) (a : A) : if decide (V.str x = V.str y) = true then A else B := by
  rw [if_pos (decide_eq_true (congrArg V.str h))]; exact a
theorem iteR {x y : Str} {A B : Prop} (h : x ≠ y) (b : B) : if decide (V.str x = V.str y) = true then A else B := by
  rw [if_neg (fun z => h (V.str.inj (of_decide_eq_true z)))]; exact b
theorem take_next {α : Type} {zs : List α} {i : Nat} {c : α} (h : zs[i]? = some c) : zs.take (i + 1) = zs.take i ++ [c] := by
  rw [List.take_succ, h]
  rfl
abbrev vn (n : Nat) : V := .int (n : Int)
/-! ### walks -/
inductive Kd where
  | first
  | between
  | last
  deriving DecidableEq
def Kd.str : Kd → Str
  | .first => "first"
  | .between => "between"
  | .last => "last"
def B.post : B → List Nat
  | .nil => []
  | .node l x r => l.post ++ r.post ++ [x]
def B.wk (k : Kd) (t : B) : List Nat := match k with
  | .first => t.pre
  | .between => t.mid
  | .last => t.post
def B.steps (k : Kd) : B → List Nat → List (List Nat × Nat)
  | .nil, _ => []
  | .node l x r, q => match k with
    | .first => [(q, x)] ++ l.steps k (q ++ [108]) ++ r.steps k (q ++ [114])
    | .between => l.steps k (q ++ [108]) ++ [(q, x)] ++ r.steps k (q ++ [114])
    | .last => l.steps k (q ++ [108]) ++ r.steps k (q ++ [114]) ++ [(q, x)]
theorem B.steps_wk (k : Kd) (t : B) : ∀ q : List Nat, (t.steps k q).map (·.2) = t.wk k := by
  induction t with
  | nil => intro q; cases k <;> rfl
  | node l x r h1 h2 =>
    intro q
    have a := h1 (q ++ [108])
    have b := h2 (q ++ [114])
    cases k
    · show ([(q, x)] ++ l.steps .first (q ++ [108]) ++ r.steps .first (q ++ [114])).map (·.2) = x :: (l.pre ++ r.pre)
      rw [List.map_append, List.map_append, a, b]; rfl
    · show (l.steps .between (q ++ [108]) ++ [(q, x)] ++ r.steps .between (q ++ [114])).map (·.2) = l.mid ++ x :: r.mid
      rw [List.map_append, List.map_append, a, b]
      show l.mid ++ [x] ++ r.mid = _
      rw [List.append_assoc]; rfl
    · show (l.steps .last (q ++ [108]) ++ r.steps .last (q ++ [114]) ++ [(q, x)]).map (·.2) = l.post ++ r.post ++ [x]
      rw [List.map_append, List.map_append, a, b]; rfl
theorem B.wk_len (k : Kd) (t : B) : (t.wk k).length = t.size := by
  cases k
  · exact t.pre_len
  · exact t.mid_len
  · show t.post.length = t.size
    induction t with
    | nil => rfl
    | node l x r h1 h2 =>
      show (l.post ++ r.post ++ [x]).length = l.size + 1 + r.size
      rw [List.length_append, List.length_append, h1, h2, List.length_cons, List.length_nil]
      omega
theorem B.steps_len (k : Kd) (t : B) (q : List Nat) : (t.steps k q).length = t.size := by
  rw [← t.wk_len k, ← t.steps_wk k q, List.length_map]
inductive StAt (H : Hp) : List V → List (List Nat × Nat) → Prop
  | nil : StAt H [] []
  | cons {a : Addr} {q : List Nat} {x : Nat} {vs : List V} {ss : List (List Nat × Nat)} : H a = some (.tup [.str (tx q), .str (ch x)]) → StAt H vs ss → StAt H (.ref a :: vs) ((q, x) :: ss)
theorem StAt.keep {H H' : Hp} (k : KeepT H H') {vs : List V} {ss : List (List Nat × Nat)} (h : StAt H vs ss) : StAt H' vs ss := by
  induction h with
  | nil => exact .nil
  | cons e _ ih => exact .cons (k _ _ e) ih
theorem StAt.same {H H' : Hp} (k : Same H H') {vs : List V} {ss : List (List Nat × Nat)} (h : StAt H vs ss) : StAt H' vs ss := h.keep (Tw.Same.keepT k)
theorem StAt.app {H : Hp} {vs us : List V} {ss ts : List (List Nat × Nat)} (h : StAt H vs ss) (g : StAt H us ts) : StAt H (vs ++ us) (ss ++ ts) := by
  induction h with
  | nil => exact g
  | cons e _ ih => exact .cons e ih
theorem StAt.len {H : Hp} {vs : List V} {ss : List (List Nat × Nat)} (h : StAt H vs ss) : vs.length = ss.length := by
  induction h with
  | nil => rfl
  | cons _ _ ih => rw [List.length_cons, List.length_cons, ih]
theorem StAt.get {H : Hp} {vs : List V} {ss : List (List Nat × Nat)} (h : StAt H vs ss) : ∀ {i : Nat} {v : V}, vs[i]? = some v → ∃ a q x, v = .ref a ∧ ss[i]? = some (q, x) ∧ H a = some (.tup [.str (tx q), .str (ch x)]) := by
  induction h with
  | nil => intro i v e; simp at e
  | cons e _ ih =>
    intro i v he
    cases i with
    | zero => cases he; exact ⟨_, _, _, rfl, rfl, e⟩
    | succ i => exact ih he
theorem str_l : Str.ofString "l" = tx [108] := by decide +kernel
theorem str_r : Str.ofString "r" = tx [114] := by decide +kernel
theorem str_0 : Str.ofString "" = tx [] := by decide +kernel
/-! ### walks of trees -/
theorem map_vc (l : List Nat) : l.map vc = (l.map ch).map V.str := by rw [List.map_map]; rfl
def spDeep (n : Nat) : Sp := fun vs H Q _ => ∃ (v : V) (t : B) (k : Kd) (q : List Nat), vs = [v, .str k.str, .str (tx q)] ∧ BAt H v t ∧ t.size < n ∧ t.size + q.length ≤ 200 ∧
  ∀ (p : Addr) (us : List V) (H' : Hp), Same H H' → H' p = some (.lst us) → StAt H' us (t.steps k q) → Q (.ref p) H'
section
variable {P : Program} {w : World} {K : PySem.W.Frag} {mg : Str → Option Value} {base : Heap} {f : Addr} {fd : FuncData}
theorem ok_deep (F : Fun K "deep_steps" "deep_steps" s_deep_steps f fd) (b : Binds K fd ["tree", "kind", "path"] []) (g : mg "deep_steps" = some (.ref f)) : ∀ n : Nat, FnOk P w K mg base CX0 n f fd ["tree", "kind", "path"] (spDeep n)
  | 0 => by
    have no : ∀ vs H Q E, ¬ spDeep 0 vs H Q E := fun vs H Q E h => by
      obtain ⟨v, t, k, q, _, _, h1, _⟩ := h
      omega
    exact ⟨fun vs H Q E h => absurd h (no vs H Q E), fun A outer s H args us vs Q E _ _ _ _ h => absurd h (no vs H Q E)⟩
  | n + 1 => by
    have Dself : Df P w K mg base n "deep_steps" ["tree", "kind", "path"] (spDeep n) := ⟨f, fd, ok_deep F b g n, b, F.kp, g⟩
    refine F.ok sc_deep_steps (fun vs H Q E h => ?_) (fun cdv A outer s H vs Q E hr h => ?_)
    · obtain ⟨v, t, k, q, rfl, _⟩ := h
      rfl
    obtain ⟨v, t, k, pth, rfl, hv, hn, hz, q⟩ := h
    refine ⟨_, (pss_cons (ps_if (pt_cmpR op_isN (pv 0) pe_non (nomark _))
      (pss_one (ps_ret (pe_lst pa_nil))) pss_nil)
    (pss_cons (ps_asg (pv 0) (pg_tup rfl (pgs_cons (pg_name (i := 3) sc_deep_steps.nd rfl (.inl rfl)) (pgs_cons (pg_name (i := 4) sc_deep_steps.nd rfl (.inl rfl)) (pgs_cons (pg_name (i := 5) sc_deep_steps.nd rfl (.inl rfl)) pgs_nil)))))
    (pss_cons (ps_set (i := 6) sc_deep_steps.nd rfl (.inl rfl) (pe_lst (pa_cons (pe_tup (pa_cons (pv 2) (pa_cons (pv 4) pa_nil))) pa_nil)))
    (pss_cons (ps_set (i := 7) sc_deep_steps.nd rfl (.inl rfl) (pe_call Dself.ok (hr.mono (by omega)) rfl Dself.g Dself.kp Dself.b .nil pass0 (pa_cons (pv 3) (pa_cons (pv 1) (pa_cons (pe_op op_add_str (pv 2) pe_str) pa_nil)))))
    (pss_cons (ps_set (i := 8) sc_deep_steps.nd rfl (.inl rfl) (pe_call Dself.ok (hr.mono (by omega)) rfl Dself.g Dself.kp Dself.b .nil pass0 (pa_cons (pv 5) (pa_cons (pv 1) (pa_cons (pe_op op_add_str (pv 2) pe_str) pa_nil)))))
    (pss_cons (ps_if (pt_cmpR op_eq (pv 1) pe_str (nomark _))
      (pss_one (ps_ret (pe_op op_cat (pe_op op_cat (pv 6) (pv 7)) (pv 8)))) pss_nil)
    (pss_cons (ps_if (pt_cmpR op_eq (pv 1) pe_str (nomark _))
      (pss_one (ps_ret (pe_op op_cat (pe_op op_cat (pv 7) (pv 6)) (pv 8)))) pss_nil)
    (pss_one (ps_ret (pe_op op_cat (pe_op op_cat (pv 7) (pv 8)) (pv 6))))))))))), ?_⟩
    rcases hv.inv with ⟨rfl, rfl⟩ | ⟨a, l, r, x, tl, tr, rfl, rfl, ea, hl, hr'⟩
    · refine ⟨_, rfl, rfl, _, rfl, iteT ⟨(by show 0 ≤ sizeLine; decide), fun p np => ?_⟩⟩
      exact q p [] _ (same_new np _) upd_same .nil
    · refine ⟨_, rfl, rfl, _, rfl, iteF ?_⟩
      refine ⟨_, rfl, a, _, rfl, SqT.of ea, rfl, _, _, rfl, _, _, rfl, _, _, rfl, rfl, ?_⟩
      have sz : tl.size + 1 + tr.size < n + 1 := hn
      have sz2 : tl.size + 1 + tr.size + pth.length ≤ 200 := hz
      -- root
      refine ⟨_, rfl, _, rfl, (by show 2 ≤ sizeLine; decide), fun tp ntp => ⟨(by show 1 ≤ sizeLine; decide), fun ro nro => ?_⟩⟩
      have q1 := same_new ntp (.tup [.str (tx pth), .str (ch x)])
      have q2 := same_new nro (.lst [.ref tp])
      have etp := q2 _ _ (upd_same (H := H) (a := tp) (o := .tup [.str (tx pth), .str (ch x)]))
      have ero := upd_same (H := upd H tp (.tup [.str (tx pth), .str (ch x)])) (a := ro) (o := .lst [.ref tp])
      have s1 := q1.trans q2
      generalize upd (upd H tp (.tup [.str (tx pth), .str (ch x)])) ro (.lst [.ref tp]) = H1 at etp ero s1
      -- lefts
      refine ⟨_, rfl, _, rfl, _, rfl, _, _, rfl, rfl, ?_, ?_⟩
      · rw [str_l, tx_len, tx_len]; exact small (by show _ + 1 ≤ 1000; omega)
      rw [str_l, tx_app]
      refine ⟨l, tl, k, pth ++ [108], rfl, hl.same s1, by omega, by rw [List.length_append]; show _ + (_ + 1) ≤ 200; omega, fun lp ul H2 s2 elp stl => ?_⟩
      -- rights
      refine ⟨_, rfl, _, rfl, _, rfl, _, _, rfl, rfl, ?_, ?_⟩
      · rw [str_r, tx_len, tx_len]; exact small (by show _ + 1 ≤ 1000; omega)
      rw [str_r, tx_app]
      refine ⟨r, tr, k, pth ++ [114], rfl, (hr'.same s1).same s2, by omega, by rw [List.length_append]; show _ + (_ + 1) ≤ 200; omega, fun rp ur H3 s3 erp str => ?_⟩
      have ero3 := s3 _ _ (s2 _ _ ero)
      have elp3 := s3 _ _ elp
      have strt : StAt H3 [.ref tp] [(pth, x)] := .cons (s3 _ _ (s2 _ _ etp)) .nil
      have stl3 := stl.same s3
      have sA := (s1.trans s2).trans s3
      have ll := stl.len
      have lr := str.len
      rw [B.steps_len] at ll lr
      cases k
      · refine ⟨_, rfl, rfl, _, rfl, iteS rfl ?_⟩
        refine ⟨_, rfl, _, rfl, ro, lp, _, _, rfl, rfl, ero3, elp3, small (by show 1 + _ ≤ 1000; omega), fun c1 n1 => ?_⟩
        have k1 := same_new n1 (.lst ([.ref tp] ++ ul))
        refine ⟨_, rfl, c1, rp, _, _, rfl, rfl, upd_same, k1 _ _ erp, small (by rw [List.length_append]; show 1 + _ + _ ≤ 1000; omega), fun c2 n2 => ?_⟩
        have k2 := same_new n2 (.lst ([.ref tp] ++ ul ++ ur))
        exact q c2 _ _ (sA.trans (k1.trans k2)) upd_same (((strt.app stl3).app str).same (k1.trans k2))
      · refine ⟨_, rfl, rfl, _, rfl, iteR (by decide +kernel) ?_⟩
        refine ⟨_, rfl, rfl, _, rfl, iteS rfl ?_⟩
        refine ⟨_, rfl, _, rfl, lp, ro, _, _, rfl, rfl, elp3, ero3, small (by show _ + 1 ≤ 1000; omega), fun c1 n1 => ?_⟩
        have k1 := same_new n1 (.lst (ul ++ [.ref tp]))
        refine ⟨_, rfl, c1, rp, _, _, rfl, rfl, upd_same, k1 _ _ erp, small (by rw [List.length_append]; show _ + 1 + _ ≤ 1000; omega), fun c2 n2 => ?_⟩
        have k2 := same_new n2 (.lst (ul ++ [.ref tp] ++ ur))
        exact q c2 _ _ (sA.trans (k1.trans k2)) upd_same (((stl3.app strt).app str).same (k1.trans k2))
      · refine ⟨_, rfl, rfl, _, rfl, iteR (by decide +kernel) ?_⟩
        refine ⟨_, rfl, rfl, _, rfl, iteR (by decide +kernel) ?_⟩
        refine ⟨_, rfl, _, rfl, lp, rp, _, _, rfl, rfl, elp3, erp, small (by omega), fun c1 n1 => ?_⟩
        have k1 := same_new n1 (.lst (ul ++ ur))
        refine ⟨_, rfl, c1, ro, _, _, rfl, rfl, upd_same, k1 _ _ ero3, small (by rw [List.length_append]; show _ + _ + 1 ≤ 1000; omega), fun c2 n2 => ?_⟩
        have k2 := same_new n2 (.lst (ul ++ ur ++ [.ref tp]))
        exact q c2 _ _ (sA.trans (k1.trans k2)) upd_same (((stl3.app str).app strt).same (k1.trans k2))
/-- the tuple KINDS of the text -/
structure KindsT (K : PySem.W.Frag) (mg : Str → Option Value) (a : Addr) : Prop where
  mg : mg "KINDS" = some (.ref a)
  sq : ∀ H : Hp, SqT K H a [.str "first", .str "between", .str "last", .str "level"]
def spKind : Sp := fun vs H Q _ => ∃ k : Kd, vs = [.str k.str] ∧ Q (.bl true) H
theorem ok_kind {k : Nat} {aK : Addr} (F : Fun K "is_kind" "is_kind" s_is_kind f fd) (M : Mgs mg) (Kk : KindsT K mg aK) : FnOk P w K mg base CX0 (k + 1) f fd ["value"] spKind := by
  refine F.ok sc_is_kind (fun vs H Q E h => ?_) (fun cdv A outer s H vs Q E hr h => ?_)
  · obtain ⟨k, rfl, _⟩ := h
    rfl
  obtain ⟨k, rfl, q⟩ := h
  refine ⟨_, (pss_one (ps_ret (pe_and (pe_callB call_isi rfl M.isinstance (by decide +kernel) (pa_cons (pv 0) (pa_cons (pe_bltn (v := .ty "str") rfl M.str (by decide +kernel) rfl) pa_nil))) (pe_one (pe_cmpR op_in_seq (pv 0) (pe_glob (v := .ref _) rfl Kk.mg rfl) (by rfl)))))), ?_⟩
  refine ⟨_, rfl, _, _, _, _, true, rfl, .ty _, .base (.str _), kit_ty (by decide +kernel), _, rfl, iteT ?_⟩
  refine ⟨_, rfl, aK, _, rfl, .inr (Kk.sq H), rfl, ?_, ?_⟩
  · rfl
  · have e : (if false = true then !inV (.str k.str) [.str "first", .str "between", .str "last", .str "level"] else inV (.str k.str) [.str "first", .str "between", .str "last", .str "level"]) = true := by
      cases k <;> decide +kernel
    rw [e]
    exact q
def spSteps : Sp := fun vs H Q _ => ∃ (v : V) (t : B) (k : Kd), vs = [v, .str k.str] ∧ BAt H v t ∧ t.size ≤ 50 ∧
  ∀ (p : Addr) (us : List V) (H' : Hp), Same H H' → H' p = some (.lst us) → StAt H' us (t.steps k []) → Q (.ref p) H'
theorem ok_steps (F : Fun K "ordered_steps" "ordered_steps" s_ordered_steps f fd) (Dis_kind : Df P w K mg base 1 "is_kind" ["value"] spKind) (Ddeep_steps : Df P w K mg base 60 "deep_steps" ["tree", "kind", "path"] (spDeep 60)) :
    FnOk P w K mg base CX0 61 f fd ["tree", "kind"] spSteps := by
  refine F.ok sc_ordered_steps (fun vs H Q E h => ?_) (fun cdv A outer s H vs Q E hr h => ?_)
  · obtain ⟨v, t, k, rfl, _⟩ := h
    rfl
  obtain ⟨v, t, k, rfl, hv, hz, q⟩ := h
  refine ⟨_, (pss_cons (ps_if (pt_not (pt_val (pe_call Dis_kind.ok (hr.mono (by omega)) rfl Dis_kind.g Dis_kind.kp Dis_kind.b .nil pass0 (pa_cons (pv 1) pa_nil))))
      (pss_one ps_never) pss_nil)
    (pss_cons (ps_if (pt_cmpR op_eq (pv 1) pe_str (nomark _))
      (pss_one ps_never) pss_nil)
    (pss_one (ps_ret (pe_call Ddeep_steps.ok (hr.mono (by omega)) rfl Ddeep_steps.g Ddeep_steps.kp Ddeep_steps.b .nil pass0 (pa_cons (pv 0) (pa_cons (pv 1) (pa_cons pe_str pa_nil)))))))), ?_⟩
  refine ⟨_, rfl, k, rfl, _, rfl, iteF ?_⟩
  refine ⟨_, rfl, rfl, _, rfl, iteR (by cases k <;> decide +kernel) ?_⟩
  refine ⟨_, rfl, _, rfl, v, t, k, [], ?_, hv, by omega, by show t.size + 0 ≤ 200; omega, q⟩
  rw [← str_0]
  rfl
def spWalk : Sp := fun vs H Q _ => ∃ (v : V) (t : B) (k : Kd), vs = [v, .str k.str] ∧ BAt H v t ∧ t.size ≤ 50 ∧ ∀ H', Same H H' → Q (.str (tx (t.wk k))) H'
theorem ok_walk (F : Fun K "walk" "walk" s_walk f fd) (Dordered_steps : Df P w K mg base 61 "ordered_steps" ["tree", "kind"] spSteps) : FnOk P w K mg base CX0 62 f fd ["tree", "kind"] spWalk := by
  refine F.ok sc_walk (fun vs H Q E h => ?_) (fun cdv A outer s H vs Q E hr h => ?_)
  · obtain ⟨v, t, k, rfl, _⟩ := h
    rfl
  obtain ⟨v, t, k, rfl, hv, hz, q⟩ := h
  refine ⟨_, (pss_one (ps_ret (pe_bm PySem.F.plainAttrs_str PySem.F.slot_str_join PySem.F.type_str_join mt_join pe_str (pa_cons (pe_lc (own := [("path", 2), ("label", 3)]) (g := gTup K 2 (gCons (gName 2) (gCons (gName 3) gNil))) (tt := tYes) rfl sc_walk.nd (pi_list (pe_call Dordered_steps.ok (hr.mono (by omega)) rfl Dordered_steps.g Dordered_steps.kp Dordered_steps.b .nil pass0 (pa_cons (pv 0) (pa_cons (pv 1) pa_nil)))) (blkOk_by (N := ["tree", "kind", "path", "label"]) (sc := defScope s_walk) (by decide +kernel)) (fun _ _ _ _ _ => (pg_tup rfl (pgs_cons (pg_name (i := 2) sc_walk.nd rfl (.inl rfl)) (pgs_cons (pg_name (i := 3) sc_walk.nd rfl (.inl rfl)) pgs_nil)))) (fun _ _ _ _ _ => pts_nil) (fun _ _ _ _ _ => (pv 3))) pa_nil)))), ?_⟩
  refine ⟨rfl, _, rfl, _, rfl, v, t, k, rfl, hv, hz, fun p us H1 s1 ep st => ?_⟩
  refine ⟨p, rfl, ⟨_, SqL.of ep⟩, fun D nD => ?_⟩
  have q1 := same_new nD (.lst [])
  have hl := st.len
  rw [B.steps_len] at hl
  have ez := t.steps_wk k []
  refine lc_list (K := K) (a := p) (xs := us) (fun i H' => Same H1 H' ∧ H' D = some (.lst (((t.wk k).take i).map vc))) ⟨q1, upd_same⟩ (fun i H' _ hp => SqL.of (hp.1 _ _ ep)) (fun i x H' hx hp => ?_) (fun H' hp => ?_)
  · obtain ⟨sm, ed⟩ := hp
    obtain ⟨a, pq, c, rfl, es, ea⟩ := st.get hx
    have hc : (t.wk k)[i]? = some c := by rw [← ez, List.getElem?_map, es]; rfl
    have hi := (List.getElem?_eq_some_iff.mp hx).1
    refine ⟨a, _, rfl, SqT.of (sm _ _ ea), rfl, _, _, rfl, _, _, rfl, rfl, rfl, kept ?_⟩
    refine ⟨_, rfl, _, ed, ?_, fun b o e => ?_, ?_⟩
    · rw [List.length_map, List.length_take]; exact small1000 (by omega)
    · rw [upd_ne (ne_of_none e nD)]; exact sm _ _ e
    · rw [upd_same, take_next hc, List.map_append]; rfl
  · obtain ⟨sm, ed⟩ := hp
    have tk : (t.wk k).take us.length = t.wk k := List.take_of_length_le (by rw [t.wk_len k]; omega)
    rw [tk, map_vc] at ed
    refine ⟨_, D, (t.wk k).map ch, rfl, rfl, .inl (SqL.of ed), tx_joinOk _ (by rw [t.wk_len k]; omega), ?_⟩
    rw [tx_join]
    exact q H' (s1.trans sm)
theorem ok_size (F : Fun K "size_of" "size_of" s_size_of f fd) (b : Binds K fd ["tree"] []) (g : mg "size_of" = some (.ref f)) : ∀ n : Nat, FnOk P w K mg base CX0 n f fd ["tree"]
    (fun vs H Q _ => ∃ (v : V) (t : B), vs = [v] ∧ BAt H v t ∧ t.size < n ∧ Q (.int (t.size : Int)) H)
  | 0 => by
    have no : ∀ (vs : List V) (H : Hp) (Q : VK), ¬ (∃ (v : V) (t : B), vs = [v] ∧ BAt H v t ∧ t.size < 0 ∧ Q (.int (t.size : Int)) H) := fun vs H Q h => by
      obtain ⟨v, t, _, _, h1, _⟩ := h
      omega
    exact ⟨fun vs H Q E h => absurd h (no vs H Q), fun A outer s H args us vs Q E _ _ _ _ h => absurd h (no vs H Q)⟩
  | n + 1 => by
    have Dself : Df P w K mg base n "size_of" ["tree"] (fun vs H Q _ => ∃ (v : V) (t : B), vs = [v] ∧ BAt H v t ∧ t.size < n ∧ Q (.int (t.size : Int)) H) := ⟨f, fd, ok_size F b g n, b, F.kp, g⟩
    refine F.ok sc_size_of (fun vs H Q E h => ?_) (fun cdv A outer s H vs Q E hr h => ?_)
    · obtain ⟨v, t, rfl, _⟩ := h
      rfl
    obtain ⟨v, t, rfl, hv, hn, q⟩ := h
    refine ⟨_, (pss_cons (ps_if (pt_cmpR op_isN (pv 0) pe_non (nomark _))
      (pss_one (ps_ret pe_int)) pss_nil)
    (pss_one (ps_ret (pe_op op_add (pe_op op_add (pe_call Dself.ok (hr.mono (by omega)) rfl Dself.g Dself.kp Dself.b .nil pass0 (pa_cons (pe_ix ix_tup (pv 0) pe_int (fun _ _ => rfl)) pa_nil)) pe_int) (pe_call Dself.ok (hr.mono (by omega)) rfl Dself.g Dself.kp Dself.b .nil pass0 (pa_cons (pe_ix ix_tup (pv 0) pe_int (fun _ _ => rfl)) pa_nil)))))), ?_⟩
    rcases hv.inv with ⟨rfl, rfl⟩ | ⟨a, l, r, x, tl, tr, rfl, rfl, ea, hl, hr'⟩
    · exact ⟨_, rfl, rfl, _, rfl, iteT q⟩
    · refine ⟨_, rfl, rfl, _, rfl, iteF ?_⟩
      have sz : tl.size + 1 + tr.size < n + 1 := hn
      refine ⟨_, rfl, a, _, _, _, rfl, rfl, SqT.of ea, atI_nat (j := 0) rfl, l, tl, rfl, hl, by omega, _, _, rfl, rfl, ?_⟩
      refine ⟨_, rfl, a, _, _, _, rfl, rfl, SqT.of ea, atI_nat (j := 2) rfl, r, tr, rfl, hr', by omega, _, _, rfl, rfl, ?_⟩
      have e : ((B.node tl x tr).size : Int) = (tl.size : Int) + 1 + (tr.size : Int) := by
        show ((tl.size + 1 + tr.size : Nat) : Int) = _
        omega
      rw [e] at q
      exact q
end
/-! ### a def entered at one caller -/
theorem enter_def {P : Program} {w : World} {K : PySem.W.Frag} {mg : Str → Option Value} {base : Heap} {f : Addr} {fd : FuncData} {N ps : List Str} {k : Nat} {x qual : Str} {st : Stmt} (F : Fun K x qual st f fd) (S : FnScope N ps (defScope st))
    {A : Around} {outer : List Env} {s : Shared} {H : Hp} {args : Args} {us : List Value} {vs : List V} {Q : VK} {E : XK}
    (room : Room (k + 1) A) (en : Env0 P w K mg base A outer s H) (bd : BindsTo s fd args (ps.zip us)) (rel : Vals vs us) (hln : vs.length = ps.length)
    (body : ∀ cdv : Value, Room k (A.deeper (envOfC qual (defScope st) s.heap.objs.size f cdv)) →
      ∃ t, PSs (cxOf CX0 P w K mg base N qual (defScope st) f cdv A outer s H E).nox (defBody st) t ∧ t { nx := fun _ H' => Q .non H', rt := Q } (start N vs) H) :
    codeAny (model P w) A (.call (.ref f) args) (CR CX0 outer P w H s Q E) s := by
  obtain ⟨oc, od, kV, doc, pm, an, cdv, ct, osl, rfl, look, code⟩ := F.ex
  have still : ∀ b o, base.get? b = some o → s.heap.get? b = some o := fun b o e => (en.bs b o e).1
  have inK : K.In s.heap := en.mod.kin.keeps still
  have noL : s.heap.NoLimit := en.mod.nolimit.keeps still
  have kinds : ∀ y ∈ ps.zip us, (defScope st).names.lookup y.1 = some .local ∨
      ((defScope st).names.lookup y.1 = some .cell ∧ ((cellsFrom (s.heap.objs.size + 1) (defScope st).names []).lookup y.1).isSome = true) := by
    rintro ⟨nm, u⟩ hy
    cases S.par nm (List.of_mem_zip hy).1 with
    | inl z => exact .inl z
    | inr z => exact .inr ⟨z, PySem.W.cellsFrom_some _ _ _ (.inl z)⟩
  have step := codeAny_call_function (prog := P) (w := w) (A := A) (s := s) room.depth (inK _ _ look) rfl S.co S.gen rfl (PySem.W.codeRec_of inK code)
    (R := CR CX0 outer P w H s Q E) (args := args)
  refine step (bd _ _ _ _ ?_)
  refine wpAny_newFunctionEnv_cells S.kind kinds ?_
  intro env isEnv s1 inC
  subst isEnv
  refine ⟨noL.keeps inC.toInCall.keep, codeAny_func ?_⟩
  obtain ⟨t, ht, hq⟩ := body cdv (room.deeper _)
  have J : Inv (cxOf CX0 P w K mg base N qual (defScope st) f cdv A outer s H E) [] (start N vs) H s1 := inv_start S room.hd en hln rel inC
  refine wpAny_mono (ht.nox.run [] s1 (start N vs) H _ J hq) ?_ ?_
  · intro fl s' done
    cases fl with
    | ret u =>
      obtain ⟨v, σ', H', I', rv, qv⟩ := done
      exact ⟨v, H', I'.os, I'.bare, I'.base, I'.hok, rv, qv⟩
    | next =>
      obtain ⟨σ', H', I', qv⟩ := done
      exact ⟨V.non, H', I'.os, I'.bare, I'.base, I'.hok, rfl, qv⟩
    | brk => exact done.elim fun _ z => z.elim fun _ z => z.2.elim
    | cont => exact done.elim fun _ z => z.elim fun _ z => z.2.elim
  · intro e s' z
    exact z
/-! ### the law's own call -/
theorem law_at {P : Program} {w : World} {K : PySem.W.Frag} {mg mb : Str → Option Value} {fa a : Addr} {s₁ : Shared} {vs : List Value} {ns : List Int}
    (inK : K.In s₁.heap) (gl : s₁.heap.Ns mainGlobals mg) (bl : s₁.heap.Ns builtinsNs mb) (isB : ∀ x : Str, x ≠ "__name__" → mb x = bootBuiltins x) (lim : s₁.heap.NoLimit) (gens : s₁.gens = #[])
    (obj : s₁.heap.get? a = some { cls := .type "list", data := .seq vs.toArray }) (hints : IntsAre vs ns) (few : ns.length ≤ sizeLine)
    (run : ∀ (base : Heap) (H : Hp), K.In base → base.Ns mainGlobals mg → Env0 P w K mg base callerA [] s₁ H → SqL K H a (ns.map V.int) →
      codeAny (model P w) callerA (.call (.ref fa) ⟨[.ref a], []⟩) (CR CX0 [] P w H s₁ (fun v _ => v = .bl true) fun _ _ _ => False) s₁) :
    codeAny (model P w) callerA (.call (.ref fa) ⟨[.ref a], []⟩) (fun r s' => r = .ok (.ret (.bool true)) ∧ OldK s₁.heap s'.heap ∧ s'.os = s₁.os ∧ AllBare s'.gens) s₁ := by
  have rel := vals_ints hints
  have lens := hints.length
  have found : ∃ H : Hp, Only H ∧ SqL K H a (ns.map V.int) ∧ HOk P w H s₁.heap ∧ (∀ b u, H b = some u → b = a ∧ K.lookup a = none) := by
    cases inText : K.lookup a with
    | some o =>
      have same := inK a o inText
      rw [obj] at same
      cases same
      have never : ∀ (u : HO), (none : Option HO) ≠ some u := fun u z => by cases z
      refine ⟨fun _ => none, fun _ => .inl rfl, ?_, (fun b u z => (never u z).elim), (fun b u z => (never u z).elim)⟩
      refine .inr ⟨_, vs.toArray, _, inText, rfl, rfl, rfl, ?_, ?_⟩
      · rw [List.size_toArray, lens]
        exact few
      · rw [List.toList_toArray]
        exact rel
    | none =>
      let here : HO := .frz { cls := .type "list", data := .seq vs.toArray } (.lst (ns.map V.int))
      have only : ∀ b u, (if b = a then some here else none) = some u → b = a ∧ u = here := fun b u z => by
        by_cases hb : b = a
        · rw [if_pos hb] at z
          exact ⟨hb, (Option.some.inj z).symm⟩
        · rw [if_neg hb] at z
          cases z
      refine ⟨fun b => if b = a then some here else none, fun b => ?_, .inl (.inr ⟨{ cls := .type "list", data := .seq vs.toArray }, if_pos rfl⟩), fun b u z => ?_, fun b u z => ⟨(only b u z).1, rfl⟩⟩
      · by_cases hb : b = a
        · exact .inr ⟨_, _, if_pos hb⟩
        · exact .inl (if_neg hb)
      · obtain ⟨rfl, rfl⟩ := only b u z
        exact ⟨obj, by rw [List.length_map]; exact few, vs, _, rel, obj⟩
  obtain ⟨H, hO, hS, hok, hA⟩ := found
  have under : ∀ {b : Addr} {o : Obj}, s₁.heap.get? b = some o → H b = none → (hidT s₁.heap H).get? b = some o := fun e z => hidT_get e z
  have notDict : ∀ {b : Addr} {o : Obj} {es : Array DictEntry} {ep : Nat}, s₁.heap.get? b = some o → o.data = .dict es ep → H b = none := by
    intro b o es ep e isD
    cases z : H b with
    | none => rfl
    | some u =>
      obtain ⟨rfl, _⟩ := hA b u z
      rw [obj] at e
      cases e
      cases isD
  have ns' : ∀ {b : Addr} {m : Str → Option Value}, s₁.heap.Ns b m → (hidT s₁.heap H).Ns b m := by
    rintro b m ⟨o, es, ep, e, isD, r⟩
    exact ⟨o, es, ep, under e (notDict e isD), isD, r⟩
  have inK' : K.In (hidT s₁.heap H) := by
    intro b o e
    refine under (inK b o e) ?_
    cases z : H b with
    | none => rfl
    | some u =>
      obtain ⟨rfl, no⟩ := hA b u z
      rw [no] at e
      cases e
  obtain ⟨mc, l1, l2⟩ := lim
  have env : Env0 P w K mg (hidT s₁.heap H) callerA [] s₁ H :=
    ⟨rfl, ⟨inK', ns' gl, ⟨mb, ns' bl, isB⟩, ⟨mc, ns' l1, l2⟩⟩, fun _ _ e => of_hidT e, Nat.le_of_eq (hidT_size _ _), trivial, (fun _ hb => nomatch hb), hok, .of_eq gens⟩
  refine codeAny_mono (run _ H inK' (ns' gl) env hS) ?_
  intro r s' h
  cases r with
  | error e => exact h.elim
  | ok fl =>
    cases fl with
    | next => exact h.elim
    | brk => exact h.elim
    | cont => exact h.elim
    | ret u =>
      obtain ⟨v, H', os, bare, un, hok', rv, isT⟩ := h
      subst isT
      cases rv
      refine ⟨rfl, OldK.of_keep ?_, os, bare⟩
      intro b o e
      cases z : H b with
      | none => exact un.keep b o e z (fun y => nomatch y) (fun y => nomatch y)
      | some u =>
        rcases hO b with y | ⟨ob, xs, y⟩
        · rw [z] at y
          cases y
        · have y2 := un.frzs b ob _ y
          obtain ⟨e1, _⟩ := hok b _ y
          obtain ⟨e2, _⟩ := hok' b _ y2
          rw [e] at e1
          cases e1
          exact e2
/-! ### defs that ask for repr: the guards are carried -/
structure FnOkG (P : Program) (w : World) (K : PySem.W.Frag) (mg : Str → Option Value) (base : Heap) (k : Nat) (f : Addr) (fd : FuncData) (ps : List Str) (sp : Sp) : Prop where
  len : ∀ vs H Q E, sp vs H Q E → vs.length = ps.length
  run : ∀ (A : Around) (outer : List Env) (s : Shared) (H : Hp) (args : Args) (us : List Value) (vs : List V) (Q : VK) (E : XK), A.guards = some [] → Room k A → Env0 P w K mg base A outer s H →
    BindsTo s fd args (ps.zip us) → Vals vs us → sp vs H Q E → codeAny (model P w) A (.call (.ref f) args) (CR CX0 outer P w H s Q E) s
theorem fnG {P : Program} {w : World} {K : PySem.W.Frag} {mg : Str → Option Value} {base : Heap} {f : Addr} {fd : FuncData} {N ps : List Str} {k : Nat} {x qual : Str} {st : Stmt} {sp : Sp} (F : Fun K x qual st f fd) (S : FnScope N ps (defScope st))
    (len : ∀ vs H Q E, sp vs H Q E → vs.length = ps.length)
    (body : ∀ (cdv : Value) (A : Around) (outer : List Env) (s : Shared) (H : Hp) (vs : List V) (Q : VK) (E : XK), A.guards = some [] → Room k (A.deeper (envOfC qual (defScope st) s.heap.objs.size f cdv)) → sp vs H Q E →
      ∃ t, PSs (cxOf CX0 P w K mg base N qual (defScope st) f cdv A outer s H E).nox (defBody st) t ∧ t { nx := fun _ H' => Q .non H', rt := Q } (start N vs) H) :
    FnOkG P w K mg base (k + 1) f fd ps sp := by
  refine ⟨len, ?_⟩
  intro A outer s H args us vs Q E gs room en bd rel hsp
  exact enter_def F S room en bd rel (len _ _ _ _ hsp) fun cdv hr => body cdv A outer s H vs Q E gs hr hsp
theorem pe_callG {X : Cx} {k : Nat} {f : Addr} {fd : FuncData} {ps : List Str} {sp : Sp} {x : Str} {p pos : Pos} {e : Expr} {es : List Expr} {t : TA}
    (G : FnOkG X.prog X.w X.K X.mg X.base k f fd ps sp) (gs : X.A.guards = some []) (room : Room k X.A) (isG : Gl X x) (at0 : X.mg x = some (.ref f)) (kp : PySem.W.keepIn X.K (.ref f) = true) (bd : Binds X.K fd ps []) (args : PA X (e :: es) t)
    (nd : (x == ("__debug__" : Str)) = false := by decide) (he : starEach (e :: es) X.env = (false, eval e X.env) :: starEach es X.env := by rfl) (hp : (backTo pos (starEach es X.env)).any (·.1) = false := by rfl) :
    PE X (.Call (.Name x p) (e :: es) [] pos) (tCall sp [] E0 t) := by
  constructor
  intro pins s σ H Q I h
  refine wpAny_Call_Name_kw (ld_glob I isG at0 ?_ nd)
  refine PySem.W.callWith_K (h₀ := X.base) I.ok.mod.kin kp (thn (args.run pos pins s σ H _ I h) ?_) he hp
  rintro us s1 ⟨vs, H1, I1, rel, q⟩
  refine ⟨I1.kIn, ?_⟩
  have q' : sp vs H1 Q E0 := by
    rw [List.append_nil] at q
    exact q
  have hl : (us ++ []).length = ps.length := by
    rw [List.append_nil, ← rel.length]
    exact G.len _ _ _ _ q'
  have bd' := bd s1 us I1.kIn hl
  rw [List.append_nil] at bd'
  refine wpAny_call (codeAny_mono (G.run X.A X.stack s1 H1 ⟨us, []⟩ us vs Q E0 gs room I1.env0 bd' rel q') ?_)
  intro r s' done
  cases r with
  | error e => exact done.elim
  | ok fl =>
    cases fl with
    | ret u => exact I1.after done
    | next => exact done.elim
    | brk => exact done.elim
    | cont => exact done.elim
/-- a def that asks for repr, with its promise -/
structure DfG (P : Program) (w : World) (K : PySem.W.Frag) (mg : Str → Option Value) (base : Heap) (k : Nat) (nm : Str) (ps : List Str) (sp : Sp) where
  f : Addr
  fd : FuncData
  ok : FnOkG P w K mg base k f fd ps sp
  b : Binds K fd ps []
  kp : PySem.W.keepIn K (.ref f) = true
  g : mg nm = some (.ref f)
/-! ### repr of data without dicts -/
mutual
def okR : PyData → Bool
  | .none => true
  | .bool _ => true
  | .int i => decide (0 ≤ i) && decide (i < 10 ^ 30)
  | .str x => decide (x.length ≤ 64) && x.cps.toList.all (· < 128)
  | .list xs => okRs xs
  | .tuple xs => okRs xs
  | .dict _ => false
def okRs : List PyData → Bool
  | [] => true
  | x :: xs => okR x && okRs xs
end
mutual
def wtR : PyData → Nat
  | .none => 4
  | .bool _ => 5
  | .int _ => 31
  | .str x => 10 * x.length + 2
  | .list xs => 3 + wtRs xs
  | .tuple xs => 3 + wtRs xs
  | .dict _ => 0
def wtRs : List PyData → Nat
  | [] => 0
  | x :: xs => wtR x + 2 + wtRs xs
end
theorem small_shown {i : Int} (h0 : 0 ≤ i) (h : i < 10 ^ 30) : (Str.ofString (toString i)).length ≤ 31 ∧ i.natAbs.log2 < 1920 := by
  refine ⟨Nat.le_trans (toString_length_le h0 (by decide) h) (by decide), ?_⟩
  by_cases z : i.natAbs = 0
  · rw [z]; decide
  · rw [Nat.log2_lt z]
    have h2 : i.natAbs < 10 ^ 30 := by omega
    exact Nat.lt_of_lt_of_le h2 (Nat.le_trans (show 10 ^ 30 ≤ 2 ^ 100 by decide) (Nat.pow_le_pow_right (by decide) (by decide)))
theorem listText_leR (ts : List Str) : (listText ts).length ≤ piled ts + 3 := by
  have h := textFrom_len_le ts 0 "["
  have e : (listText ts).length = (textFrom 0 "[" ts).length + 1 := by
    show (textFrom 0 "[" ts ++ "]").length = _
    rw [strLen_append]
    rfl
  have z : ∀ l : List Str, (l.map (·.length)).sum + 2 * l.length = piled l := by
    intro l
    induction l with
    | nil => rfl
    | cons t l ih =>
      rw [piled_cons, List.map_cons, List.sum_cons, List.length_cons]
      omega
  have z2 := z ts
  have z3 : (("[" : String) : Str).length = 1 := rfl
  omega
mutual
theorem shownR : ∀ d : PyData, okR d = true → d.shown.length ≤ wtR d ∧ d.showable = true ∧ d.hasDict = false
  | .none, _ => by
    simp only [PyData.shown, wtR, PyData.showable, PyData.hasDict, and_true]
    decide +kernel
  | .bool b, _ => by
    simp only [PyData.shown, wtR, PyData.showable, PyData.hasDict, and_true]
    cases b <;> decide +kernel
  | .int i, h => by
    simp only [okR, Bool.and_eq_true, decide_eq_true_eq] at h
    obtain ⟨h1, h2⟩ := small_shown h.1 h.2
    simp only [PyData.shown, wtR, PyData.showable, PyData.hasDict, decide_eq_true_eq, and_true]
    exact ⟨h1, h2⟩
  | .str x, h => by
    simp only [okR, Bool.and_eq_true, decide_eq_true_eq, List.all_eq_true] at h
    have h1 := StrLaws.reprText_len x (fun c hc => Nat.lt_of_lt_of_le (h.2 c hc) (by decide))
    simp only [PyData.shown, wtR, PyData.showable, PyData.hasDict, and_true]
    omega
  | .list xs, h => by
    simp only [okR] at h
    obtain ⟨h1, h2, h3⟩ := shownRs xs h
    simp only [PyData.shown, wtR, PyData.showable, PyData.hasDict]
    exact ⟨Nat.le_trans (listText_leR _) (by omega), h2, h3⟩
  | .tuple xs, h => by
    simp only [okR] at h
    obtain ⟨h1, h2, h3⟩ := shownRs xs h
    simp only [PyData.shown, wtR, PyData.showable, PyData.hasDict]
    exact ⟨Nat.le_trans (fmt_text _) (by omega), h2, h3⟩
  | .dict _, h => by
    simp only [okR] at h
    exact absurd h Bool.false_ne_true
theorem shownRs : ∀ ds : List PyData, okRs ds = true → piled (PyData.shownAll ds) ≤ wtRs ds ∧ PyData.showableAll ds = true ∧ PyData.hasDictAll ds = false
  | [], _ => by
    simp only [PyData.shownAll, wtRs, PyData.showableAll, PyData.hasDictAll, and_true]
    exact Nat.le_refl _
  | d :: ds, h => by
    simp only [okRs, Bool.and_eq_true] at h
    obtain ⟨h1, h2, h5⟩ := shownR d h.1
    obtain ⟨h3, h4, h6⟩ := shownRs ds h.2
    simp only [PyData.shownAll, wtRs, PyData.showableAll, PyData.hasDictAll, h2, h4, h5, h6, Bool.and_self, Bool.or_self, and_true]
    rw [piled_cons]
    omega
end
def rReprR (K : PySem.W.Frag) : List V → Hp → VK → Prop := fun xs H Q => ∃ (a : Addr) (d : PyData), xs = [.ref a] ∧ Dp K H (.ref a) d ∧ okR d = true ∧ wtR d ≤ 1000000 ∧ d.depth ≤ 60 ∧ Q (.str d.shown) H
theorem call_reprR {X : Cx} (hg : X.A.guards = some []) (hu : X.A.units + 64 < cLine) : CallR X (.builtin "repr") (rReprR X.K) := by
  intro pins s σ H xs us Q I r h
  obtain ⟨a, d, rfl, hd, hs, hw, hz, q⟩ := h
  obtain ⟨u, rfl, rx⟩ := vals1 r
  cases rx
  obtain ⟨h1, h2, h3⟩ := shownR d hs
  obtain ⟨as, rd⟩ := Dp.reads I d _ _ hd rfl
  exact repr_of_reads' rd h2 (PyData.noDict_hsm h3) hg (by omega) (fun _ _ e => e) (fun h' u tk hk => ⟨.str d.shown, H, I.kept (t' := tk) hk, ⟨u, rfl⟩, q⟩) (by show _ ≤ 16777216; omega)
/-! ### zip of two texts -/
section
variable {X : Cx}
/-- new pairs of the signs of x and y -/
def ItzS (x y : Str) : It :=
  ⟨fun i _ => i < x.cps.size ∧ i < y.cps.size,
    fun i H v H' => ∃ (p : Addr) (c d : Nat), v = .ref p ∧ H p = none ∧ H' = upd H p (.tup [.str ⟨#[c]⟩, .str ⟨#[d]⟩]) ∧ x.cps[i]? = some c ∧ y.cps[i]? = some d,
    fun i _ => i = min x.cps.size y.cps.size⟩
theorem turn_zipS {P : Program} {w : World} {K : PySem.W.Frag} {elts : List Expr} {kk : Nat} {tpos : Pos} {x y : Str} {t1 t2 : Tok} {z ti to i1 i2 : Addr} (S : ZipSep2 z ti to i1 i2 [i1] [i2]) :
    Turn P w K (.Tuple elts kk tpos) (ItzS x y) [z, ti, to, i1, i2] z
      (fun i h => IsZip h z ti to .none ∧ IsTupOf2 h ti (.ref i1) (.ref i2) ∧ (∃ a b, IsTupOf2 h to a b) ∧ h.IsStrIter i1 (strIterType x) x t1 i ∧ h.IsStrIter i2 (strIterType y) y t2 i) where
  mem := by simp
  obj := fun i h st c hc => by
    obtain ⟨hz, hti, ⟨a, b, hto⟩, ⟨o1, e1, _, d1⟩, ⟨o2, e2, _, d2⟩⟩ := st
    have hc' : c = z ∨ c = ti ∨ c = to ∨ c = i1 ∨ c = i2 := by simpa using hc
    rcases hc' with q | q | q | q | q
    · rw [q]; exact ⟨_, hz, fun v q2 => nomatch q2⟩
    · rw [q]; exact ⟨_, hti, fun v q2 => nomatch q2⟩
    · rw [q]; exact ⟨_, hto, fun v q2 => nomatch q2⟩
    · exact ⟨o1, by rw [q]; exact e1, fun v q => by rw [d1] at q; cases q⟩
    · exact ⟨o2, by rw [q]; exact e2, fun v q => by rw [d2] at q; cases q⟩
  keep := fun i h h' st k => by
    obtain ⟨hz, hti, ⟨a, b, hto⟩, ⟨o1, e1, r1⟩, ⟨o2, e2, r2⟩⟩ := st
    exact ⟨k z (by simp) _ hz, k ti (by simp) _ hti, ⟨a, b, k to (by simp) _ hto⟩, ⟨o1, k i1 (by simp) _ e1, r1⟩, ⟨o2, k i2 (by simp) _ e2, r2⟩⟩
  item := by
    intro X hP hw hK hc i pins s σ H E I hf st hg
    subst hP hw hK
    obtain ⟨hz, hti, ⟨a0, b0, hto⟩, h1, h2⟩ := st
    have quiet : X.A.in1.handled = none := I.ok.hd hc
    have zlt : z < s.heap.objs.size := Heap.lt_size hz
    refine wpAny_pyNext_zipD2_item S (Draws.text quiet i1 x t1) (Draws.text quiet i2 y t2) hz hti hto h1 h2 hg.1 hg.2 fun u1 u2 h' tk p1 p2 z' to' j1 j2 hT hsz hk => ?_
    obtain ⟨c, tc, ec, rfl⟩ := p1
    obtain ⟨d, td, ed, rfl⟩ := p2
    refine ⟨_, rfl, wpAny_letOwnedTupleGo_zip (s := { s with heap := h', toks := tk }) z' fun h'' z'' sb => ?_⟩
    have hT2 : h''.get? s.heap.objs.size = some { cls := .type "tuple", data := .seq #[.str ⟨#[c]⟩ tc, .str ⟨#[d]⟩ td] } := (sb.2 _ (Nat.ne_of_gt zlt)).trans hT
    have new : ObjOk X.prog X.w (upd H s.heap.objs.size (.tup [.str ⟨#[c]⟩, .str ⟨#[d]⟩])) h'' s.heap.objs.size (.tup [.str ⟨#[c]⟩, .str ⟨#[d]⟩]) :=
      ⟨by show 2 ≤ sizeLine; decide, [.str ⟨#[c]⟩ tc, .str ⟨#[d]⟩ td], .cons ⟨_, rfl⟩ (.cons ⟨_, rfl⟩ .nil), ⟨_, hT2, rfl, _, rfl⟩⟩
    have I1 : Inv X pins σ (upd H s.heap.objs.size (.tup [.str ⟨#[c]⟩, .str ⟨#[d]⟩])) { s with heap := h'', toks := tk } :=
      I.turnedNew (t' := tk) (ch := [z, ti, to, i1, i2]) (fun c o hb q => (sb.2 c (fun e => hb (by simp [e]))).trans (hk c o (fun e => hb (by simp [e])) (fun e => hb (by simp [e])) (fun e => hb (by simp [e])) (fun e => hb (by simp [e])) q)) hf (Nat.le_refl _) new
    refine ⟨.ref s.heap.objs.size, _, I1, rfl, ⟨_, c, d, rfl, I.hok.fresh (Nat.le_refl _), rfl, ec, ed⟩, ⟨z'', (sb.2 _ S.TIz).trans (hk _ _ S.TIz S.TITO S.TIi1 S.TIi2 hti), ⟨_, _, (sb.2 _ S.TOz).trans to'⟩, ?_, ?_⟩, fun c hcm => ?_⟩
    · obtain ⟨o, e, r⟩ := j1
      exact ⟨o, (sb.2 _ S.zi1.symm).trans e, r⟩
    · obtain ⟨o, e, r⟩ := j2
      exact ⟨o, (sb.2 _ S.zi2.symm).trans e, r⟩
    · have lt : c < s.heap.objs.size := by
        have hc' : c = z ∨ c = ti ∨ c = to ∨ c = i1 ∨ c = i2 := by simpa using hcm
        rcases hc' with q | q | q | q | q
        · rw [q]; exact zlt
        · rw [q]; exact Heap.lt_size hti
        · rw [q]; exact Heap.lt_size hto
        · rw [q]; obtain ⟨_, e, _⟩ := h1; exact Heap.lt_size e
        · rw [q]; obtain ⟨_, e, _⟩ := h2; exact Heap.lt_size e
      rw [upd_ne (Nat.ne_of_lt lt)]
      exact (hf c hcm).1
  done := by
    intro X hP hw hK hc i pins s σ H E I hf st hg
    subst hP hw hK
    obtain ⟨hz, hti, ⟨a0, b0, hto⟩, h1, h2⟩ := st
    have quiet : X.A.in1.handled = none := I.ok.hd hc
    have hg' : i = min x.cps.size y.cps.size := hg
    exact wpAny_pyNext_zipD2_end S (Draws.text quiet i1 x t1) (Draws.text quiet i2 y t2) hz hti hto h1 h2 (by omega) (by omega) (by omega) fun h' tk hk => ⟨rfl, I.turnedL (t' := tk) (ch := [z, ti, to, i1, i2]) (fun c o hb q =>
      hk c o (fun e => hb (by simp [e])) (fun e => hb (by simp [e])) (fun e => hb (by simp [e])) (fun e => hb (by simp [e])) q) hf⟩
  self := fun A i s Q E st h => wpAny_pyIter_zip st.1 h
def iZipS (ta : TA) : TI := fun σ H R => ta σ H fun vs H1 => ∃ x y : Str, vs = [.str x, .str y] ∧ R (ItzS x y) H1
theorem pi_zipS {e e2 : Expr} {ta : TA} {p pos tpos : Pos} {elts : List Expr} {kk : Nat} (hg : Gl X "zip") (hm : X.mg "zip" = none) (ha : PA X [e, e2] ta)
    (hs : starEach [e, e2] X.env = (false, eval e X.env) :: starEach [e2] X.env := by rfl) (hpl : (backTo pos (starEach [e2] X.env)).any (·.1) = false := by rfl) :
    PI X (.Tuple elts kk tpos) (.Call (.Name "zip" p) [e, e2] [] pos) (iZipS ta) := by
  refine ⟨fun pins s σ H R I h => ?_⟩
  refine Call_ (ld_blt I hg hm PyProof.Rows.boot_zip (PyProof.Rows.callWith_type1 (thn (ha.run pos pins s σ H _ I h) fun us s1 h1 => ?_) hs hpl))
  obtain ⟨vs, H1, I1, r1, x, y, rfl, q⟩ := h1
  obtain ⟨u, u2, rfl, ⟨t1, rfl⟩, ⟨t2, rfl⟩⟩ := vals2 r1
  refine zip_begins2 (begins_text x t1) (begins_text y t2) trivial trivial fun h' hz hti hto g1 g2 hsz hk => wpAny_pyIter_zip hz ?_
  have I2 : Inv X pins σ H1 { s1 with heap := h' } := I1.kept (t' := s1.toks) hk
  have young : ∀ c, c ∈ [s1.heap.objs.size + 4, s1.heap.objs.size + 2, s1.heap.objs.size + 3, s1.heap.objs.size, s1.heap.objs.size + 1] → FpOk X pins H1 c := fun c hc => by
    have le : s1.heap.objs.size ≤ c := by
      have hc' : c = s1.heap.objs.size + 4 ∨ c = s1.heap.objs.size + 2 ∨ c = s1.heap.objs.size + 3 ∨ c = s1.heap.objs.size ∨ c = s1.heap.objs.size + 1 := by simpa using hc
      rcases hc' with q | q | q | q | q <;> (rw [q]; first | exact Nat.le_add_right _ _ | exact Nat.le_refl _)
    exact I1.fpOk le (I1.hok.fresh le)
  have apart : ∀ (n a b : Nat), a ≠ b → n + a ≠ n + b := fun n a b h z => h (Nat.add_left_cancel z)
  refine ⟨s1.heap.objs.size + 4, [s1.heap.objs.size + 4, s1.heap.objs.size + 2, s1.heap.objs.size + 3, s1.heap.objs.size, s1.heap.objs.size + 1], _, _, H1, rfl, I2, turn_zipS (t1 := t1) (t2 := t2) ?_, ⟨hz, hti, ⟨_, _, hto⟩, ⟨_, g1, rfl, rfl⟩, ⟨_, g2, rfl, rfl⟩⟩, young, q⟩
  have n0 : s1.heap.objs.size = s1.heap.objs.size + 0 := rfl
  refine ⟨apart _ _ _ (by decide), apart _ _ _ (by decide), apart _ _ _ (by decide), ?_, by simp, ?_, ?_, apart _ _ _ (by decide), by simp, ?_, ?_, ?_, ?_⟩
  · exact apart _ 2 0 (by decide)
  · intro h; exact apart _ 4 0 (by decide) (List.mem_singleton.mp h)
  · intro h; exact apart _ 3 0 (by decide) (List.mem_singleton.mp h)
  · intro h; exact apart _ 4 1 (by decide) (List.mem_singleton.mp h)
  · intro h; exact apart _ 3 1 (by decide) (List.mem_singleton.mp h)
  · intro h; exact apart _ 0 1 (by decide) (List.mem_singleton.mp h)
  · intro h; exact apart _ 1 0 (by decide) (List.mem_singleton.mp h)
theorem pi_or {tg e : Expr} {w1 w2 : TI} (a : PI X tg e w1) (b : PI X tg e w2) : PI X tg e (fun σ H R => w1 σ H R ∨ w2 σ H R) :=
  ⟨fun pins s σ H R I h => h.elim (fun h => a.run pins s σ H R I h) fun h => b.run pins s σ H R I h⟩
theorem walk_zipS {x y : Str} {n : Nat} (hn : n = min x.cps.size y.cps.size) : Walk (ItzS x y) n (fun _ => True) (fun i H v H' => ∃ (p : Addr) (c d : Nat), v = .ref p ∧ H p = none ∧ H' = upd H p (.tup [.str ⟨#[c]⟩, .str ⟨#[d]⟩]) ∧ x.cps[i]? = some c ∧ y.cps[i]? = some d) :=
  ⟨fun i _ hi _ => ⟨by omega, by omega⟩, fun _ _ => hn, fun _ _ _ _ _ _ q => q⟩
end
/-! ### comprehensions of two clauses; text * count -/
theorem lc2_it {J : It} {n : Nat} {G : Hp → Prop} {Y : Nat → Hp → V → Hp → Prop} (w : Walk J n G Y) {g : TG} {tt : TT} {wi1 : TI} {g1 : TG} {tt1 : TT} {te : TE} {vs vs1 : List Nat} {σ : L2.St} {H1 : Hp} {D : Addr} {Qd : Hp → Prop} (Pv : Nat → Hp → Prop) (h0 : Pv 0 (upd H1 D (.lst []))) (hG : ∀ i H, i ≤ n → Pv i H → G H)
    (hs : ∀ i x H H', i < n → Pv i H → Y i H x H' → g x (wipe σ vs) H' fun σ2 H2 => wipe σ2 vs = wipe σ vs ∧ tt σ2 H2 fun b H3 =>
      if b = true then wi1 σ2 H3 fun J1 H4 => ∃ W1 : Nat → Nat → Hp → Prop, (∃ m, W1 0 m H4) ∧ ∀ j k H, W1 j k H →
        (J1.stop j H ∧ Pv (i + 1) H) ∨ (J1.go j H ∧ ∃ Nx1 : Hp → Prop, (∀ H', Nx1 H' → ∃ k', k' < k ∧ W1 (j + 1) k' H') ∧ ∀ x H', J1.yld j H x H' → g1 x (wipe σ2 vs1) H' fun σ3 H5 => wipe σ3 vs1 = wipe σ2 vs1 ∧ tt1 σ3 H5 fun b H6 =>
          if b = true then te σ3 H6 fun y H7 => ∃ acc, H7 D = some (.lst acc) ∧ acc.length < sizeLine ∧ Nx1 (upd H7 D (.lst (acc ++ [y]))) else Nx1 H6)
      else Pv (i + 1) H3) (hd : ∀ H, Pv n H → Qd H) :
    ∃ W : Nat → Nat → Hp → Prop, (∃ m, W 0 m (upd H1 D (.lst []))) ∧ ∀ i m H, W i m H →
      (J.stop i H ∧ Qd H) ∨ (J.go i H ∧ ∃ Nx : Hp → Prop, (∀ H', Nx H' → ∃ m', m' < m ∧ W (i + 1) m' H') ∧ ∀ x H', J.yld i H x H' → g x (wipe σ vs) H' fun σ2 H2 => wipe σ2 vs = wipe σ vs ∧ tt σ2 H2 fun b H3 =>
        if b = true then wi1 σ2 H3 fun J1 H4 => ∃ W1 : Nat → Nat → Hp → Prop, (∃ m, W1 0 m H4) ∧ ∀ j k H, W1 j k H →
          (J1.stop j H ∧ Nx H) ∨ (J1.go j H ∧ ∃ Nx1 : Hp → Prop, (∀ H', Nx1 H' → ∃ k', k' < k ∧ W1 (j + 1) k' H') ∧ ∀ x H', J1.yld j H x H' → g1 x (wipe σ2 vs1) H' fun σ3 H5 => wipe σ3 vs1 = wipe σ2 vs1 ∧ tt1 σ3 H5 fun b H6 =>
            if b = true then te σ3 H6 fun y H7 => ∃ acc, H7 D = some (.lst acc) ∧ acc.length < sizeLine ∧ Nx1 (upd H7 D (.lst (acc ++ [y]))) else Nx1 H6)
        else Nx H3) := by
  refine ⟨fun i m H => m = n - i ∧ i ≤ n ∧ Pv i H, ⟨n, by simp, Nat.zero_le _, h0⟩, ?_⟩
  rintro i m H ⟨rfl, hi, p⟩
  have q := hG i H hi p
  by_cases hlt : i < n
  · exact .inr ⟨w.goes i H hlt q, Pv (i + 1), fun H' p' => ⟨n - (i + 1), by omega, rfl, hlt, p'⟩, fun x H' y => hs i x H H' hlt p (w.yields i H x H' hlt q y)⟩
  · have e : i = n := by omega
    subst e
    exact .inl ⟨w.stops H q, hd H p⟩
theorem in_it {J : It} {n : Nat} {G : Hp → Prop} {Y : Nat → Hp → V → Hp → Prop} (w : Walk J n G Y) {g : TG} {tt : TT} {te : TE} {vs : List Nat} {σ : L2.St} {H4 : Hp} {D : Addr} {Nx : Hp → Prop} (Pv : Nat → Hp → Prop) (h0 : Pv 0 H4) (hG : ∀ i H, i ≤ n → Pv i H → G H)
    (hs : ∀ i x H H', i < n → Pv i H → Y i H x H' → g x (wipe σ vs) H' fun σ2 H2 => wipe σ2 vs = wipe σ vs ∧ tt σ2 H2 fun b H3 =>
      if b = true then te σ2 H3 fun y H4 => ∃ acc, H4 D = some (.lst acc) ∧ acc.length < sizeLine ∧ Pv (i + 1) (upd H4 D (.lst (acc ++ [y]))) else Pv (i + 1) H3) (hd : ∀ H, Pv n H → Nx H) :
    ∃ W : Nat → Nat → Hp → Prop, (∃ m, W 0 m H4) ∧ ∀ i m H, W i m H →
      (J.stop i H ∧ Nx H) ∨ (J.go i H ∧ ∃ Nx1 : Hp → Prop, (∀ H', Nx1 H' → ∃ m', m' < m ∧ W (i + 1) m' H') ∧ ∀ x H', J.yld i H x H' → g x (wipe σ vs) H' fun σ2 H2 => wipe σ2 vs = wipe σ vs ∧ tt σ2 H2 fun b H3 =>
        if b = true then te σ2 H3 fun y H4 => ∃ acc, H4 D = some (.lst acc) ∧ acc.length < sizeLine ∧ Nx1 (upd H4 D (.lst (acc ++ [y]))) else Nx1 H3) := by
  refine ⟨fun i m H => m = n - i ∧ i ≤ n ∧ Pv i H, ⟨n, by simp, Nat.zero_le _, h0⟩, ?_⟩
  rintro i m H ⟨rfl, hi, p⟩
  have q := hG i H hi p
  by_cases hlt : i < n
  · exact .inr ⟨w.goes i H hlt q, Pv (i + 1), fun H' p' => ⟨n - (i + 1), by omega, rfl, hlt, p'⟩, fun x H' y => hs i x H H' hlt p (w.yields i H x H' hlt q y)⟩
  · have e : i = n := by omega
    subst e
    exact .inl ⟨w.stops H q, hd H p⟩
/-- trees at vs -/
theorem foldl_cat (x : Array Nat) : ∀ (m : Nat) (a : Array Nat), (List.replicate m x).foldl (· ++ ·) a = a ++ (List.replicate m x.toList).flatten.toArray
  | 0, a => by simp
  | m + 1, a => by
    rw [List.replicate_succ, List.foldl_cons, foldl_cat x m, List.replicate_succ, List.flatten_cons]
    apply Array.ext'
    simp
theorem flat_ones (c m : Nat) : (List.replicate m [c]).flatten = List.replicate m c := by
  induction m with
  | zero => rfl
  | succ m ih => rw [List.replicate_succ, List.flatten_cons, ih, List.replicate_succ]; rfl
/-- one sign, often -/
theorem op_timesS {X : Cx} : OpR X (binaryOp .Mult) (fun x y H Q => ∃ (c : Nat) (m : Nat), x = .str (tx [c]) ∧ y = .int (m : Int) ∧ 1 ≤ m ∧ m ≤ 1000 ∧ Q (.str (tx (List.replicate m c))) H) := by
  intro pins s σ H x y v u Q I rx ry h
  obtain ⟨c, m, rfl, rfl, h1, h2, q⟩ := h
  obtain ⟨t, rfl⟩ := rx
  obtain ⟨t', rfl⟩ := ry
  have one : (tx [c]).length = 1 := rfl
  have far : (1 : Int) ≤ (2 ^ 63 - 1) / (m : Int) := (Int.le_ediv_iff_mul_le (by omega)).mpr (by omega)
  refine PySem.P.mul_str (by rw [decide_eq_false (by omega), decide_eq_false (by omega)]; rfl) (fun _ _ => by rw [one]; have := far; omega) (fun _ _ => by unfold Builtin.Str.tooLong; exact decide_eq_false (by rw [one]; have : (1000 : Nat) ≤ sizeLine := (by decide); omega)) ?_
  rw [if_neg (show ¬ (m : Int) < 1 by omega)]
  by_cases h0 : m = 1
  · subst h0
    rw [if_pos (show (((1 : Nat) : Int) == 1 || (tx [c]).length == 0) = true from rfl)]
    exact ⟨.str (tx [c]), H, I, ⟨t, rfl⟩, q⟩
  · have no : ¬ (((m : Int) == 1 || (tx [c]).length == 0) = true) := by
      rw [one]
      simp
      omega
    rw [if_neg no]
    have e : (⟨(List.replicate (m : Int).toNat (tx [c]).cps).foldl (· ++ ·) #[]⟩ : Str) = tx (List.replicate m c) := by
      rw [foldl_cat, ← flat_ones]
      simp [tx]
    rw [e]
    refine ⟨?_, .str _, H, I.tok _, ⟨_, rfl⟩, q⟩
    rw [tx_len, List.length_replicate]
    exact small h2
/-! ### rows: signs, is_letter, is_row -/
def sgn (c : Nat) : Prop := c = 63 ∨ (97 ≤ c ∧ c ≤ 122)
structure RowOk (r : List Nat) : Prop where
  ne : r ≠ []
  few : r.length ≤ 12
  all : ∀ c ∈ r, sgn c
theorem str_q : Str.ofString "?" = ch 63 := by decide +kernel
def spOne : Sp := fun vs H Q _ => ∃ c : Nat, vs = [vc c] ∧ Q (.bl (decide (97 ≤ c) && decide (c ≤ 122))) H
def spRow : Sp := fun vs H Q _ => ∃ r : List Nat, vs = [vt r] ∧ RowOk r ∧ ∀ H', Same H H' → Q (.bl true) H'
section
variable {P : Program} {w : World} {K : PySem.W.Frag} {mg : Str → Option Value} {base : Heap} {f : Addr} {fd : FuncData}
theorem ok_one {k : Nat} (F : Fun K "is_letter" "is_letter" s_is_letter f fd) (M : Mgs mg) : FnOk P w K mg base CX0 (k + 1) f fd ["value"] spOne := by
  refine F.ok sc_is_letter (fun vs H Q E h => ?_) (fun cdv A outer s H vs Q E hr h => ?_)
  · obtain ⟨c, rfl, _⟩ := h
    rfl
  obtain ⟨c, rfl, q⟩ := h
  refine ⟨_, (pss_one (ps_ret (pe_and (pe_callB call_isi rfl M.isinstance (by decide +kernel) (pa_cons (pv 0) (pa_cons (pe_bltn (v := .ty "str") rfl M.str (by decide +kernel) rfl) pa_nil))) (pe_and (pe_cmpR op_eq (pe_callB call_len_str rfl M.len PySem.boot_len (pa_cons (pv 0) pa_nil)) pe_int (nomark _)) (pe_one (pe_chain op_le_str op_le_str pe_str (pv 0) pe_str)))))), ?_⟩
  refine ⟨_, rfl, _, _, _, _, true, rfl, .ty _, .base (.str (tx [c])), kit_ty (by decide +kernel), _, rfl, iteT ?_⟩
  refine ⟨_, rfl, tx [c], rfl, small (by show 1 ≤ 1000; decide), rfl, _, rfl, ?_⟩
  rw [show decide (V.int ((tx [c]).length : Nat) = V.int 1) = true from rfl]
  refine iteT ⟨_, rfl, _, _, rfl, rfl, _, rfl, ?_⟩
  have e1 : (!decide ((ch c).cps.toList < (Str.ofString "a").cps.toList)) = decide (97 ≤ c) := by
    rw [show (Str.ofString "a").cps.toList = [97] by decide +kernel, show (ch c).cps.toList = [c] from rfl]
    by_cases h : c < 97
    · rw [decide_eq_true (by simp [List.cons_lt_cons_iff, h]), decide_eq_false (by omega)]; rfl
    · rw [decide_eq_false (by simp [List.cons_lt_cons_iff, h]), decide_eq_true (by omega)]; rfl
  have e2 : (!decide ((Str.ofString "z").cps.toList < (ch c).cps.toList)) = decide (c ≤ 122) := by
    rw [show (Str.ofString "z").cps.toList = [122] by decide +kernel, show (ch c).cps.toList = [c] from rfl]
    by_cases h : 122 < c
    · rw [decide_eq_true (by simp [List.cons_lt_cons_iff, h]), decide_eq_false (by omega)]; rfl
    · rw [decide_eq_false (by simp [List.cons_lt_cons_iff, h]), decide_eq_true (by omega)]; rfl
  rw [e1]
  by_cases h : 97 ≤ c
  · rw [decide_eq_true h] at q ⊢
    refine iteT ⟨_, _, rfl, rfl, ?_⟩
    rw [e2]
    exact q
  · rw [decide_eq_false h] at q ⊢
    exact iteF q
theorem ok_row {tM : Tok} (F : Fun K "is_row" "is_row" s_is_row f fd) (M : Mgs mg) (mMAX : mg "MAX_NODES" = some (.int 12 tM)) (Dis_letter : Df P w K mg base 1 "is_letter" ["value"] spOne) : FnOk P w K mg base CX0 2 f fd ["value"] spRow := by
  refine F.ok sc_is_row (fun vs H Q E h => ?_) (fun cdv A outer s H vs Q E hr h => ?_)
  · obtain ⟨r, rfl, _⟩ := h
    rfl
  obtain ⟨r, rfl, ok, q⟩ := h
  refine ⟨_, (pss_cons (ps_if (PW.pt (pw_or (pt_not (pt_val (pe_callB call_isi rfl M.isinstance (by decide +kernel) (pa_cons (pv 0) (pa_cons (pe_bltn (v := .ty "str") rfl M.str (by decide +kernel) rfl) pa_nil))))) (pw_or1 (pt_not (pt_chain op_le op_le pe_int (pe_callB call_len_str rfl M.len PySem.boot_len (pa_cons (pv 0) pa_nil)) (pe_glob (v := .int _) rfl mMAX ⟨_, rfl⟩))))))
      (pss_one (ps_ret pe_bl)) pss_nil)
    (pss_one (ps_ret (pe_callB (cr_all rfl) rfl M.all (by decide +kernel) (pa_cons (pe_lc (own := [("sign", 1)]) (g := gName 1) (tt := tYes) rfl sc_is_row.nd (pi_str (pv 0)) (blkOk_by (N := ["value", "sign"]) (sc := defScope s_is_row) (by decide +kernel)) (fun _ _ _ _ _ => (pg_name (i := 1) sc_is_row.nd rfl (.inl rfl))) (fun _ _ _ _ _ => pts_nil) (fun _ _ _ _ _ => (pe_or (pe_cmpR op_eq (pv 1) pe_str (nomark _)) (pe_one (pe_call Dis_letter.ok (hr.mono (by omega)) rfl Dis_letter.g Dis_letter.kp Dis_letter.b .nil pass0 (pa_cons (pv 1) pa_nil)))))) pa_nil))))), ?_⟩
  have r0 : 0 < r.length := List.length_pos_iff.mpr ok.ne
  have few := ok.few
  refine ⟨_, rfl, _, _, _, _, true, rfl, .ty _, .base (.str (tx r)), kit_ty (by decide +kernel), _, rfl, ?_⟩
  have few2 : ((tx r).length : Int) ≤ 12 := by rw [tx_len]; omega
  have more2 : (1 : Int) ≤ ((tx r).length : Int) := by rw [tx_len]; omega
  refine ⟨_, rfl, _, rfl, small (by rw [tx_len]; omega), _, _, rfl, rfl, ?_⟩
  refine ⟨_, rfl, ?_⟩
  rw [decide_eq_true more2]
  refine iteT ⟨_, _, rfl, rfl, _, rfl, ?_⟩
  rw [decide_eq_true few2]
  refine iteF ?_
  refine ⟨_, rfl, tx r, rfl, fun D nD => ?_⟩
  have q1 := same_new nD (.lst [])
  refine lc_text (x := tx r) (fun i H' => Same H H' ∧ H' D = some (.lst ((List.replicate i true).map V.bl))) ⟨q1, upd_same⟩ (fun i c H' hc hp => ?_) (fun H' hp => ?_)
  · obtain ⟨sm, ed⟩ := hp
    have hc : r[i]? = some c := hc
    have hi := (List.getElem?_eq_some_iff.mp hc).1
    have sg := ok.all c (List.mem_of_getElem? hc)
    have out : ∀ Qn : Hp → Prop, (∀ H2, (Same H H2 ∧ H2 D = some (.lst ((List.replicate (i + 1) true).map V.bl))) → Qn H2) → ∃ acc, H' D = some (.lst acc) ∧ acc.length < sizeLine ∧ Qn (upd H' D (.lst (acc ++ [V.bl true]))) := fun Qn hq => by
      refine ⟨_, ed, ?_, hq _ ⟨fun b o e => ?_, ?_⟩⟩
      · rw [List.length_map, List.length_replicate]; exact small1000 (by omega)
      · rw [upd_ne (ne_of_none e nD)]; exact sm _ _ e
      · rw [upd_same, List.replicate_succ', List.map_append]; rfl
    refine ⟨rfl, kept ?_⟩
    refine ⟨_, rfl, rfl, _, rfl, ?_⟩
    rw [str_q]
    by_cases h63 : c = 63
    · subst h63
      rw [decide_eq_true (show V.str ⟨#[63]⟩ = V.str (ch 63) from rfl)]
      exact iteT (out _ fun _ z => z)
    · rw [decide_eq_false (show ¬ V.str ⟨#[c]⟩ = V.str (ch 63) from fun z => h63 (ch_inj (V.str.inj z)))]
      refine iteF ⟨_, rfl, c, rfl, ?_⟩
      have hl : 97 ≤ c ∧ c ≤ 122 := by
        rcases sg with z | z
        · exact absurd z h63
        · exact z
      rw [decide_eq_true hl.1, decide_eq_true hl.2]
      exact out _ fun _ z => z
  · obtain ⟨sm, ed⟩ := hp
    refine ⟨D, _, rfl, SqL.of ed, ?_⟩
    have e : (List.replicate (tx r).cps.toList.length true).all id = true := by simp
    rw [e]
    exact q H' sm
end
/-! ### three_rows -/
abbrev Rows := List (Kd × List Nat)
def rowsK (L : Rows) : List (Key × V) := L.map fun p => (.inr p.1.str, vt p.2)
def rowOf (L : Rows) (n : Nat) (k : Kd) : List Nat := ((L.find? fun p => decide (p.1 = k)).map (·.2)).getD (List.replicate n 63)
theorem Kd.inj {a b : Kd} (h : a.str = b.str) : a = b := by
  cases a <;> cases b <;> first | rfl | exact absurd h (by decide +kernel)
theorem rows_val (k : Kd) : ∀ L : Rows, valV (rowsK L) (.inr k.str) = ((L.find? fun p => decide (p.1 = k)).map (·.2)).map vt
  | [] => rfl
  | (j, r) :: L => by
    by_cases h : j = k
    · subst h
      rw [show rowsK ((j, r) :: L) = (.inr j.str, vt r) :: rowsK L from rfl, valV_pos rfl, List.find?_cons_of_pos (by simp)]
      rfl
    · rw [show rowsK ((j, r) :: L) = (.inr j.str, vt r) :: rowsK L from rfl, valV_neg (fun e => h (Kd.inj (Sum.inr.inj e))), List.find?_cons_of_neg (by simpa using h)]
      exact rows_val k L
theorem rows_there {L : Rows} (nd : (L.map (·.1)).Nodup) {k : Kd} {r : List Nat} (h : (k, r) ∈ L) : L.find? (fun p => decide (p.1 = k)) = some (k, r) := by
  induction L with
  | nil => cases h
  | cons p L ih =>
    obtain ⟨j, z⟩ := p
    obtain ⟨h1, h2⟩ := List.nodup_cons.mp (show (j :: L.map (·.1)).Nodup from nd)
    rcases List.mem_cons.mp h with e | e
    · cases e
      exact List.find?_cons_of_pos (by simp)
    · rw [List.find?_cons_of_neg (by
        have : j ≠ k := fun z => h1 (List.mem_map.mpr ⟨_, e, z.symm⟩)
        simpa using this)]
      exact ih h2 e
theorem rowOf_there {L : Rows} {n : Nat} (nd : (L.map (·.1)).Nodup) {k : Kd} {r : List Nat} (h : (k, r) ∈ L) : rowOf L n k = r := by
  unfold rowOf
  rw [rows_there nd h]
  rfl
theorem lock_back {H H' : Hp} {d : Addr} {u : HO} {od : Obj} (hd : H d = some u) (s : Same (upd H d (.frz od u)) H') : Same H (upd H' d u) := fun b o e => by
  by_cases h : b = d
  · subst h
    rw [hd] at e
    rw [upd_same]; exact e
  · rw [upd_ne h]
    exact s _ _ (by rw [upd_ne h]; exact e)
/-- the tuple ROW_KINDS of the text -/
structure RowT (K : PySem.W.Frag) (mg : Str → Option Value) (a : Addr) : Prop where
  mg : mg "ROW_KINDS" = some (.ref a)
  sq : ∀ H : Hp, SqT K H a [.str "first", .str "between", .str "last"]
def spThree : Sp := fun vs H Q _ => ∃ (d : Addr) (L : Rows) (n : Nat), vs = [.ref d] ∧ H d = some (.dK (rowsK L)) ∧ L ≠ [] ∧ (L.map (·.1)).Nodup ∧ L.length ≤ 3 ∧ (∀ p ∈ L, RowOk p.2 ∧ p.2.length = n) ∧
  ∀ (t : Addr) (H' : Hp), Same H H' → H' t = some (.tup [vt (rowOf L n .first), vt (rowOf L n .between), vt (rowOf L n .last)]) → Q (.ref t) H'
section
variable {P : Program} {w : World} {K : PySem.W.Frag} {mg : Str → Option Value} {base : Heap} {f : Addr} {fd : FuncData}
theorem ok_three {aR : Addr} (F : Fun K "three_rows" "three_rows" s_three_rows f fd) (M : Mgs mg) (Rk : RowT K mg aR) (Dis_row : Df P w K mg base 2 "is_row" ["value"] spRow) : FnOk P w K mg base CX0 3 f fd ["rows"] spThree := by
  refine F.ok sc_three_rows (fun vs H Q E h => ?_) (fun cdv A outer s H vs Q E hr h => ?_)
  · obtain ⟨d, L, n, rfl, _⟩ := h
    rfl
  obtain ⟨d, L, n, rfl, hd, ne, nd, few, ok, q⟩ := h
  refine ⟨_, (pss_cons (ps_lock (ps_for PassesOwn.never rfl (pi_keys (pv 0)) (pg_name (i := 1) sc_three_rows.nd rfl (.inl rfl))
      (pss_one (ps_if (pt_cmpR op_notIn_seq (pv 1) (pe_glob (v := .ref _) rfl Rk.mg rfl) (by rfl))
      (pss_one ps_never) pss_nil))))
    (pss_cons (ps_if (pt_not (pt_truth (pv 0) (by intro _; rfl)))
      (pss_one ps_never) pss_nil)
    (pss_cons (ps_lock (ps_for PassesOwn.never rfl (pi_keys (pv 0)) (pg_name (i := 1) sc_three_rows.nd rfl (.inl rfl))
      (pss_one (ps_if (pt_not (pt_val (pe_call Dis_row.ok (hr.mono (by omega)) rfl Dis_row.g Dis_row.kp Dis_row.b .nil pass0 (pa_cons (pe_dget (Nat.lt_of_le_of_lt (Nat.add_le_add_left (by decide) _) hr.units) (pv 0) (pv 1) (fun _ _ => rfl)) pa_nil))))
      (pss_one ps_never) pss_nil))))
    (pss_cons (ps_set (i := 2) sc_three_rows.nd rfl (.inl rfl) (pe_callTy (call_listD rfl) rfl M.list (by decide +kernel) (pa_cons (pv 0) pa_nil)))
    (pss_cons (ps_set (i := 3) sc_three_rows.nd rfl (.inr rfl) (pe_callB call_len_str rfl M.len PySem.boot_len (pa_cons (pe_dget (Nat.lt_of_le_of_lt (Nat.add_le_add_left (by decide) _) hr.units) (pv 0) (pe_ix ix_list (pv 2) pe_int (fun _ _ => rfl)) (fun _ _ => rfl)) pa_nil)))
    (pss_cons (ps_for PassesOwn.never rfl (pi_list (pv 2)) (pg_name (i := 1) sc_three_rows.nd rfl (.inl rfl))
      (pss_one (ps_if (pt_cmpR op_ne (pe_callB call_len_str rfl M.len PySem.boot_len (pa_cons (pe_dget (Nat.lt_of_le_of_lt (Nat.add_le_add_left (by decide) _) hr.units) (pv 0) (pv 1) (fun _ _ => rfl)) pa_nil)) (pv 3) (nomark _))
      (pss_one ps_never) pss_nil)))
    (pss_one (ps_ret (pe_callTy call_tuple_of rfl M.tuple (by decide +kernel) (pa_cons (pe_lc (own := [("kind", 4)]) (g := gName 4) (tt := tYes) rfl sc_three_rows.nd (pi_tup (pe_glob (v := .ref _) rfl Rk.mg rfl)) (blkOk_by (N := ["rows", "name", "names", "size", "kind"]) (sc := defScope s_three_rows) (by decide +kernel)) (fun _ _ _ _ _ => (pg_name (i := 4) sc_three_rows.nd rfl (.inl rfl))) (fun _ _ _ _ _ => pts_nil) (fun _ _ _ _ _ => (pe_dget2 (Nat.lt_of_le_of_lt (Nat.add_le_add_left (by decide) _) hr.units) (pv 0) (pv 4) (pe_op op_timesS pe_str (pv 3)) ⟨rfl, rfl, rfl, rfl⟩))) pa_nil)))))))))), ?_⟩
  have lK : (rowsK L).length = L.length := List.length_map _
  refine ⟨d, _, hd, trivial, fun od => ?_⟩
  have efz := upd_same (H := H) (a := d) (o := .frz od (.dK (rowsK L)))
  have back : ∀ H', Same (upd H d (.frz od (.dK (rowsK L)))) H' → Same H (upd H' d (.dK (rowsK L))) := fun H' => lock_back hd
  generalize upd H d (.frz od (.dK (rowsK L))) = H1 at efz back ⊢
  refine ⟨_, rfl, d, od, rfl, .inl ⟨_, efz, ?_⟩⟩
  refine for_it (walk_keys (d := d) (o := od) (kvs := rowsK L)) (fun i σ H' => (∃ o1, σ = [some (.ref d), o1, none, none, none]) ∧ H' = H1) ⟨⟨_, rfl⟩, rfl⟩ (fun i σ H' _ hp => by rw [hp.2]; exact efz) (fun i x σ H' H'' hi hp hy => ?_) (fun σ H' hp => ?_)
  · obtain ⟨⟨o1, rfl⟩, e1⟩ := hp
    obtain ⟨e2, ky, v, hk, rfl⟩ := hy
    subst e2
    unfold rowsK at hk
    rw [List.getElem?_map] at hk
    obtain ⟨⟨k, r⟩, hc, he⟩ := Option.map_eq_some_iff.mp hk
    cases he
    refine ⟨_, rfl, aR, _, rfl, .inr (Rk.sq _), rfl, ?_, ?_⟩
    · rfl
    have e : (if true = true then !inV (.str k.str) [.str "first", .str "between", .str "last"] else inV (.str k.str) [.str "first", .str "between", .str "last"]) = false := by
      cases k <;> decide +kernel
    refine ⟨_, rfl, ?_⟩
    show if (if true = true then !inV (.str k.str) [.str "first", .str "between", .str "last"] else inV (.str k.str) [.str "first", .str "between", .str "last"]) = true then _ else _
    rw [e]
    refine iteF ?_
    exact ⟨⟨_, rfl⟩, e1⟩
  · obtain ⟨⟨o1, rfl⟩, rfl⟩ := hp
    refine ⟨efz, ?_⟩
    have s1 := back H' (Same.refl _)
    have hd1 : (upd H' d (.dK (rowsK L))) d = some (.dK (rowsK L)) := upd_same
    clear back efz
    generalize upd H' d (.dK (rowsK L)) = H2 at s1 hd1
    have nek : (!(rowsK L).isEmpty) = true := by
      cases L with
      | nil => exact absurd rfl ne
      | cons _ _ => rfl
    refine ⟨_, rfl, true, .inr (.inr ⟨_, hd1, nek.symm⟩), ?_⟩
    refine iteF ?_
    have val : ∀ {k : Kd} {r : List Nat}, (k, r) ∈ L → valV (rowsK L) (.inr k.str) = some (vt r) := fun {k r} hm => by
      rw [rows_val, rows_there nd hm]; rfl
    have len : ∀ {k : Kd} {r : List Nat}, (k, r) ∈ L → (tx r).length = n := fun {k r} hm => by
      rw [tx_len]; exact (ok _ hm).2
    have n12 : 1 ≤ n ∧ n ≤ 12 := by
      obtain ⟨p, L', rfl⟩ := List.exists_cons_of_ne_nil ne
      obtain ⟨a, b⟩ := ok p List.mem_cons_self
      have := List.length_pos_iff.mpr a.ne
      have := a.few
      omega
    refine ⟨d, _, hd1, trivial, fun od2 => ?_⟩
    have efz2 := upd_same (H := H2) (a := d) (o := .frz od2 (.dK (rowsK L)))
    have back2 : ∀ H', Same (upd H2 d (.frz od2 (.dK (rowsK L)))) H' → Same H2 (upd H' d (.dK (rowsK L))) := fun H' => lock_back hd1
    generalize upd H2 d (.frz od2 (.dK (rowsK L))) = H3 at efz2 back2 ⊢
    refine ⟨_, rfl, d, od2, rfl, .inl ⟨_, efz2, ?_⟩⟩
    refine for_it (walk_keys (d := d) (o := od2) (kvs := rowsK L)) (fun i σ H' => (∃ o1, σ = [some (.ref d), o1, none, none, none]) ∧ Same H3 H') ⟨⟨_, rfl⟩, Same.refl _⟩ (fun i σ H' _ hp => hp.2 _ _ efz2) (fun i x σ H' H'' hi hp hy => ?_) (fun σ H' hp => ?_)
    · obtain ⟨⟨o1, rfl⟩, sm⟩ := hp
      obtain ⟨e2, ky, v, hk, rfl⟩ := hy
      subst e2
      unfold rowsK at hk
      rw [List.getElem?_map] at hk
      obtain ⟨⟨k, r⟩, hc, he⟩ := Option.map_eq_some_iff.mp hk
      cases he
      have hm := List.mem_of_getElem? hc
      refine ⟨_, rfl, _, rfl, d, vt r, rfl, .inl ⟨_, .inr k.str, .inr ⟨od2, sm _ _ efz2⟩, rfl, (val hm).symm⟩, ?_⟩
      refine ⟨r, rfl, (ok _ hm).1, fun H4 s4 => ?_⟩
      refine ⟨_, rfl, iteF ?_⟩
      exact ⟨⟨_, rfl⟩, sm.trans s4⟩
    obtain ⟨⟨o1, rfl⟩, sm⟩ := hp
    refine ⟨sm _ _ efz2, ?_⟩
    have s3 := s1.trans (back2 H' sm)
    have hd3 : (upd H' d (.dK (rowsK L))) d = some (.dK (rowsK L)) := upd_same
    clear back2 efz2 sm
    generalize upd H' d (.dK (rowsK L)) = H5 at s3 hd3
    refine ⟨_, rfl, d, _, rfl, .inl hd3, fun p np => ?_⟩
    have ndp : d ≠ p := ne_of_none hd3 np
    have k1 := same_new np (.lst ((rowsK L).map fun kv => kV kv.1))
    have ep := upd_same (H := H5) (a := p) (o := .lst ((rowsK L).map fun kv => kV kv.1))
    have s6 := s3.trans k1
    have hd6 := k1 _ _ hd3
    generalize upd H5 p (.lst ((rowsK L).map fun kv => kV kv.1)) = H6 at s6 hd6 ep
    have nmE : ((rowsK L).map fun kv => kV kv.1) = L.map fun p => V.str p.1.str := by
      unfold rowsK; rw [List.map_map]; rfl
    rw [nmE] at ep
    obtain ⟨⟨k0, r0⟩, L', eL⟩ := List.exists_cons_of_ne_nil ne
    have hm0 : (k0, r0) ∈ L := by rw [eL]; exact List.mem_cons_self
    have at0 : atI (L.map fun p => V.str p.1.str) 0 = some (.str k0.str) := by
      rw [eL]; exact atI_nat (j := 0) rfl
    refine ⟨_, rfl, _, rfl, p, _, _, _, rfl, rfl, SqL.of ep, at0, d, vt r0, rfl, .inl ⟨_, .inr k0.str, .inl hd6, rfl, (val hm0).symm⟩, ?_⟩
    refine ⟨_, rfl, small (by rw [len hm0]; omega), ?_⟩
    rw [len hm0]
    refine ⟨_, rfl, p, rfl, ⟨_, SqL.of ep⟩, ?_⟩
    refine for_list (K := K) (a := p) (xs := L.map fun p => V.str p.1.str) (fun j σ Hx => ∃ o1, σ = [some (.ref d), o1, some (.ref p), some (.int (n : Int)), none] ∧ Hx = H6) ⟨_, rfl, rfl⟩ (fun j σ Hx _ hp => by obtain ⟨_, _, e⟩ := hp; rw [e]; exact SqL.of ep) (fun j x σ Hx hx hp => ?_) (fun σ Hx hp => ?_)
    · obtain ⟨o2, rfl, e6⟩ := hp
      subst e6
      rw [List.getElem?_map] at hx
      obtain ⟨⟨k, r⟩, hc, he⟩ := Option.map_eq_some_iff.mp hx
      cases he
      have hm := List.mem_of_getElem? hc
      refine ⟨_, rfl, _, rfl, d, vt r, rfl, .inl ⟨_, .inr k.str, .inl hd6, rfl, (val hm).symm⟩, ?_⟩
      refine ⟨_, rfl, small (by rw [len hm]; omega), ?_⟩
      rw [len hm]
      refine ⟨_, rfl, rfl, _, rfl, ?_⟩
      rw [show decide (V.int (n : Int) = V.int (n : Int)) = true from decide_eq_true rfl]
      refine iteF ?_
      exact ⟨_, rfl, rfl⟩
    obtain ⟨o2, rfl, e6⟩ := hp
    subst e6
    refine ⟨aR, rfl, ⟨_, Rk.sq _⟩, fun D nD => ?_⟩
    have kD := same_new nD (.lst [])
    refine lc_tup (K := K) (a := aR) (xs := [.str "first", .str "between", .str "last"]) (fun j H' => Same Hx H' ∧ H' D = some (.lst (([Kd.first, Kd.between, Kd.last].take j).map fun k => vt (rowOf L n k)))) ⟨kD, upd_same⟩ (fun j H' _ hp => Rk.sq _) (fun j x H7 hx7 hp => ?_) (fun H7 hp => ?_)
    · obtain ⟨sm, eD⟩ := hp
      obtain ⟨kk, rfl, hk⟩ : ∃ kk : Kd, x = .str kk.str ∧ [Kd.first, Kd.between, Kd.last][j]? = some kk := by
        match j, hx7 with
        | 0, h => cases h; exact ⟨.first, rfl, rfl⟩
        | 1, h => cases h; exact ⟨.between, rfl, rfl⟩
        | 2, h => cases h; exact ⟨.last, rfl, rfl⟩
      refine ⟨rfl, kept ?_⟩
      refine ⟨_, rfl, d, rfl, .inl ⟨_, .inl (sm _ _ hd6)⟩, _, rfl, _, rfl, 63, n, ?_, rfl, n12.1, by omega, _, .inl ⟨_, .inr kk.str, .inl (sm _ _ hd6), rfl, rfl⟩, ?_⟩
      · rw [str_q]; rfl
      rw [rows_val]
      have ev : (Option.map vt (Option.map (fun x => x.2) (List.find? (fun p => decide (p.1 = kk)) L))).getD (V.str (tx (List.replicate n 63))) = vt (rowOf L n kk) := by
        unfold rowOf
        cases List.find? (fun p => decide (p.1 = kk)) L <;> rfl
      rw [ev]
      refine ⟨_, eD, ?_, fun b o e => ?_, ?_⟩
      · rw [List.length_map, List.length_take]; exact small1000 (by show min j 3 ≤ 1000; omega)
      · rw [upd_ne (ne_of_none e nD)]; exact sm _ _ e
      · rw [upd_same, take_next hk, List.map_append]; rfl
    · obtain ⟨sm, eD⟩ := hp
      refine ⟨D, _, rfl, .inl ⟨SqL.of eD, fun t nt => ?_⟩⟩
      exact q t _ (s6.trans (sm.trans (same_new nt _))) upd_same
end
/-! ### walks, tree_fits, fits -/
def tst (r x : List Nat) : List Bool := (r.zip x).map fun p => decide (p.1 = 63) || decide (p.1 = p.2)
def fit (r x : List Nat) : Bool := (tst r x).all id
def fit3 (a b c : List Nat) (t : B) : Bool := fit a t.pre && (fit b t.mid && fit c t.post)
theorem walk_zipT {K : PySem.W.Frag} {a b : Addr} {xs ys : List V} {n : Nat} (hn : n = min xs.length ys.length) : Walk (RZ.ItzT K a b) n (fun H => SqT K H a xs ∧ SqT K H b ys) (YPair (fun i => xs[i]?) (fun i => ys[i]?)) :=
  ⟨fun i H hi h => ⟨xs, ys, xs[i]'(by omega), ys[i]'(by omega), h.1, h.2, List.getElem?_eq_getElem _, List.getElem?_eq_getElem _⟩, fun H h => ⟨xs, ys, h.1, h.2, by omega⟩, fun i H v H' hi h q => by
    obtain ⟨T, x, y, e1, e2, e3, e4, e5⟩ := q
    exact ⟨T, x, y, e1, e2, e3, e4 xs h.1, e5 ys h.2⟩⟩
theorem tst_len (r x : List Nat) : (tst r x).length ≤ r.length := by
  unfold tst
  rw [List.length_map, List.length_zip]
  omega
theorem in_two (e l : Nat) : inV (vc e) [vc 63, vc l] = (decide (e = 63) || decide (e = l)) := by
  have q : ∀ a b : Nat, eqV (vc a) (vc b) = decide (b = a) := fun a b => by
    by_cases h : b = a
    · subst h
      rw [decide_eq_true rfl]
      show eqV (.str _) (.str _) = true
      simp [eqV]
    · rw [decide_eq_false h]
      show eqV (.str _) (.str _) = false
      have : ¬ ch a = ch b := fun z => h (ch_inj z).symm
      simp [eqV, this]
  unfold inV
  rw [List.any_cons, List.any_cons, List.any_nil, q, q, Bool.or_false]
def spWalksT : Sp := fun vs H Q _ => ∃ (v : V) (t : B) (p : Addr), vs = [v, .ref p] ∧ BAt H v t ∧ t.size ≤ 50 ∧ H p = some (.tup [.str "first", .str "between", .str "last"]) ∧ ∀ (d : Addr) (H' : Hp), Same H H' → H' d = some (.tup [vt t.pre, vt t.mid, vt t.post]) → Q (.ref d) H'
def spWalks : Sp := fun vs H Q E => ∃ ws rest, vs = ws ++ rest ∧ ws.length = ["tree"].length ∧ rest.length ≤ sizeLine ∧ ∀ p, H p = Option.none → spWalksT (ws ++ [V.ref p]) (upd H p (.tup rest)) Q E
structure DfR (P : Program) (w : World) (K : PySem.W.Frag) (mg : Str → Option Value) (base : Heap) (k : Nat) (nm : Str) (sp : Sp) where
  f : Addr
  ok : FnR P w K mg base CX0 k f sp
  kp : PySem.W.keepIn K (.ref f) = true
  g : mg nm = some (.ref f)
def spTreeFits : Sp := fun vs H Q _ => ∃ (v : V) (t : B) (g : Addr) (a b c : List Nat) (n : Nat), vs = [v, .ref g] ∧ BAt H v t ∧ t.size ≤ 30 ∧ H g = some (.tup [vt a, vt b, vt c]) ∧ a.length = n ∧ b.length = n ∧ c.length = n ∧ n ≤ 12 ∧ ∀ H', Same H H' → Q (.bl (decide (t.size = n) && fit3 a b c t)) H'
def spFits (ks : List Kd) : List V → List V → Hp → VK → Prop := fun vs zs H Q => ∃ (v : V) (t : B) (L : Rows) (n : Nat), vs = [v] ∧ L.map (·.1) = ks ∧ zs = L.map (fun p => vt p.2) ∧ BAt H v t ∧ t.size ≤ 30 ∧ L ≠ [] ∧ (L.map (·.1)).Nodup ∧ L.length ≤ 3 ∧ (∀ p ∈ L, RowOk p.2 ∧ p.2.length = n) ∧
  ∀ H', Same H H' → Q (.bl (decide (t.size = n) && fit3 (rowOf L n .first) (rowOf L n .between) (rowOf L n .last) t)) H'
theorem rowOf_len {L : Rows} {n : Nat} (ok : ∀ p ∈ L, RowOk p.2 ∧ p.2.length = n) (k : Kd) : (rowOf L n k).length = n := by
  unfold rowOf
  cases h : L.find? (fun p => decide (p.1 = k)) with
  | none => exact List.length_replicate
  | some p => exact (ok p (List.mem_of_find?_eq_some h)).2
section
variable {P : Program} {w : World} {K : PySem.W.Frag} {mg : Str → Option Value} {base : Heap} {f : Addr} {fd : FuncData}
theorem sc_walks : FnScope ["tree", "kinds", "kind"] ["tree", "kinds"] (defScope s_walks) := ⟨rfl, rfl, rfl, by decide +kernel, rfl, by decide +kernel, by decide +kernel⟩
theorem ok_walks (F : Fun K "walks" "walks" s_walks f fd) (M : Mgs mg) (Dwalk : Df P w K mg base 62 "walk" ["tree", "kind"] spWalk) : FnR P w K mg base CX0 63 f spWalks := by
  obtain ⟨oc, od, kV, doc, pm, an, cdv, ct, osl, rfl, lk, hcd⟩ := F.ex
  refine StX.fn_star (k := 62) (ps := ["tree"]) (pv := "kinds") (sp := spWalksT) lk hcd sc_walks StX.cxUp_none (fun us rest hl => by match us, hl with | [_], _ => cases rest <;> rfl) fun A outer s H vs Q E hr h => ?_
  obtain ⟨v, t, p, rfl, hv, hz, ep, q⟩ := h
  refine ⟨_, ((pss_one (ps_ret (pe_callTy call_tuple_of rfl M.tuple (by decide +kernel) (pa_cons (pe_lc (own := [("kind", 2)]) (g := gName 2) (tt := tYes) rfl sc_walks.nd (pi_tup (pv 1)) (blkOk_by (N := ["tree", "kinds", "kind"]) (sc := defScope s_walks) (by decide +kernel)) (fun _ _ _ _ _ => (pg_name (i := 2) sc_walks.nd rfl (.inl rfl))) (fun _ _ _ _ _ => pts_nil) (fun _ _ _ _ _ => (pe_call Dwalk.ok (hr.mono (by omega)) rfl Dwalk.g Dwalk.kp Dwalk.b .nil pass0 (pa_cons (pv 0) (pa_cons (pv 2) pa_nil))))) pa_nil)))) : PSs (cxOf CX0 P w K mg base ["tree", "kinds", "kind"] "walks" (defScope s_walks) f cdv A outer s H E).nox (defBody s_walks) _).nox, ?_⟩
  refine ⟨_, rfl, p, rfl, ⟨_, SqT.of ep⟩, fun D nD => ?_⟩
  have k1 := same_new nD (.lst [])
  refine lc_tup (K := K) (a := p) (xs := [.str "first", .str "between", .str "last"]) (fun i H' => Same H H' ∧ H' D = some (.lst ([vt t.pre, vt t.mid, vt t.post].take i))) ⟨k1, upd_same⟩ (fun i H' _ hq => SqT.of (hq.1 _ _ ep)) (fun i x H1 hx hq => ?_) (fun H1 hq => ?_)
  · obtain ⟨s1, e1⟩ := hq
    obtain ⟨kk, rfl, hk⟩ : ∃ kk : Kd, x = .str kk.str ∧ ([vt t.pre, vt t.mid, vt t.post])[i]? = some (vt (t.wk kk)) := by
      match i, hx with
      | 0, h => cases h; exact ⟨.first, rfl, rfl⟩
      | 1, h => cases h; exact ⟨.between, rfl, rfl⟩
      | 2, h => cases h; exact ⟨.last, rfl, rfl⟩
    refine ⟨rfl, kept ?_⟩
    refine ⟨_, rfl, _, rfl, v, t, kk, rfl, hv.same s1, hz, fun H2 s2 => ?_⟩
    refine ⟨_, s2 _ _ e1, ?_, fun b u e => ?_, ?_⟩
    · rw [List.length_take]; exact small1000 (by show min i 3 ≤ 1000; omega)
    · rw [upd_ne (ne_of_none e nD)]; exact s2 _ _ (s1 _ _ e)
    · rw [upd_same, take_next hk]
  · obtain ⟨s1, e1⟩ := hq
    refine ⟨D, _, rfl, .inl ⟨SqL.of e1, fun d nd => ?_⟩⟩
    exact q d _ (s1.trans (same_new nd _)) upd_same
theorem ok_treeFits {aR : Addr} (F : Fun K "tree_fits" "tree_fits" s_tree_fits f fd) (M : Mgs mg) (Rk : RowT K mg aR) (Dsize_of : Df P w K mg base 60 "size_of" ["tree"] (fun vs H Q _ => ∃ (v : V) (t : B), vs = [v] ∧ BAt H v t ∧ t.size < 60 ∧ Q (.int (t.size : Int)) H))
    (Dwalks : DfR P w K mg base 63 "walks" spWalks) : FnOk P w K mg base CX0 64 f fd ["tree", "given"] spTreeFits := by
  refine F.ok sc_tree_fits (fun vs H Q E h => ?_) (fun cdv A outer s H vs Q E hr h => ?_)
  · obtain ⟨v, t, g, a, b, c, n, rfl, _⟩ := h
    rfl
  obtain ⟨v, t, g, a, b, c, n, rfl, hv, hz, eg, la, lb, lc, n12, q⟩ := h
  refine ⟨_, (pss_cons (ps_if (pt_cmpR op_ne (pe_call Dsize_of.ok (hr.mono (by omega)) rfl Dsize_of.g Dsize_of.kp Dsize_of.b .nil pass0 (pa_cons (pv 0) pa_nil)) (pe_callB call_len_str rfl M.len PySem.boot_len (pa_cons (pe_ix ix_tup (pv 1) pe_int (fun _ _ => rfl)) pa_nil)) (nomark _))
      (pss_one (ps_ret pe_bl)) pss_nil)
    (pss_cons (ps_set (i := 2) sc_tree_fits.nd rfl (.inl rfl) (StX.pe_callS2 (E := E0) Dwalks.ok (hr.mono (by omega)) Dwalks.kp rfl Dwalks.g pass0 (pa_cons (pv 0) (StX.pa_star (pe_glob (v := .ref _) rfl Rk.mg rfl) pa_nil))))
    (pss_one (ps_ret (pe_callB (cr_all rfl) rfl M.all (by decide +kernel) (pa_cons (pe_lc2 (own := [("row", 3), ("text", 4), ("sign", 5), ("label", 6)]) (vs1 := [5, 6]) (g := gTup K 2 (gCons (gName 3) (gCons (gName 4) gNil))) (tt := tYes) (g1 := gTup K 2 (gCons (gName 5) (gCons (gName 6) gNil))) (tt1 := tYes) rfl sc_tree_fits.nd (RZ.pi_zipA rfl M.zip (pa_cons (pv 1) (pa_cons (pv 2) pa_nil))) (blkOk_by (N := ["tree", "given", "told", "row", "text", "sign", "label"]) (sc := defScope s_tree_fits) (by decide +kernel)) (by decide) (fun _ _ _ _ _ => (pg_tup rfl (pgs_cons (pg_name (i := 3) sc_tree_fits.nd rfl (.inl rfl)) (pgs_cons (pg_name (i := 4) sc_tree_fits.nd rfl (.inl rfl)) pgs_nil)))) (fun _ _ _ _ _ => pts_nil) (fun _ _ _ _ _ => (pi_zipS rfl M.zip (pa_cons (pv 3) (pa_cons (pv 4) pa_nil)))) (fun _ _ _ _ _ => (pg_tup rfl (pgs_cons (pg_name (i := 5) sc_tree_fits.nd rfl (.inl rfl)) (pgs_cons (pg_name (i := 6) sc_tree_fits.nd rfl (.inl rfl)) pgs_nil)))) (fun _ _ _ _ _ => pts_nil) (fun _ _ _ _ _ => (pe_cmpR (show OpR _ (compareOp .In) (rIn K false) from op_in_seq) (pv 5) (pe_tup (pa_cons pe_str (pa_cons (pv 6) pa_nil))) (by rfl)))) pa_nil)))))), ?_⟩
  let prs : List (List Nat × List Nat) := [(a, t.pre), (b, t.mid), (c, t.post)]
  have prs_len : ∀ i, ((prs.take i).flatMap fun p => tst p.1 p.2).length ≤ 36 := by
    intro i
    have h1 := tst_len a t.pre
    have h2 := tst_len b t.mid
    have h3 := tst_len c t.post
    match i with
    | 0 => exact Nat.zero_le _
    | 1 => show (tst a t.pre ++ []).length ≤ 36; rw [List.append_nil]; omega
    | 2 => show (tst a t.pre ++ (tst b t.mid ++ [])).length ≤ 36; rw [List.append_nil, List.length_append]; omega
    | n + 3 =>
      rw [List.take_of_length_le (show prs.length ≤ n + 3 by show 3 ≤ n + 3; omega)]
      show (tst a t.pre ++ (tst b t.mid ++ (tst c t.post ++ []))).length ≤ 36
      rw [List.append_nil, List.length_append, List.length_append]; omega
  refine ⟨_, rfl, v, t, rfl, hv, by omega, _, rfl, g, _, _, _, rfl, rfl, SqT.of eg, atI_nat (j := 0) rfl, _, rfl, small (by rw [tx_len]; omega), rfl, _, rfl, ?_⟩
  rw [tx_len, la]
  by_cases hs : t.size = n
  · rw [decide_eq_true (show V.int (t.size : Int) = V.int (n : Int) by rw [hs])]
    refine iteF ?_
    rw [decide_eq_true hs] at q
    refine ⟨_, rfl, aR, _, rfl, .inl (Rk.sq _), [v], _, rfl, rfl, (by show 3 ≤ sizeLine; decide), fun p np => ?_⟩
    have k1 := same_new np (.tup [.str "first", .str "between", .str "last"])
    refine ⟨v, t, p, rfl, hv.same k1, by omega, upd_same, fun d H1 s1 ed => ?_⟩
    have s2 := k1.trans s1
    have eg1 := s2 _ _ eg
    clear k1 s1 np
    refine ⟨_, rfl, _, rfl, g, d, _, _, rfl, .inr ⟨SqT.of eg1, SqT.of ed, fun D nD => ?_⟩⟩
    have kD := same_new nD (.lst [])
    refine lc2_it (walk_zipT (K := K) (a := g) (b := d) (xs := [vt a, vt b, vt c]) (ys := [vt t.pre, vt t.mid, vt t.post]) rfl) (fun i H' => Same H1 H' ∧ H' D = some (.lst (((prs.take i).flatMap fun p => tst p.1 p.2).map V.bl))) ⟨kD, upd_same⟩ (fun i H' _ hp => ⟨SqT.of (hp.1 _ _ eg1), SqT.of (hp.1 _ _ ed)⟩) (fun i x H2 H2' hi hp hy => ?_) (fun H2 hp => ?_)
    · obtain ⟨s3, eD⟩ := hp
      obtain ⟨T, x, y, rfl, nT, rfl, hx, hy⟩ := hy
      obtain ⟨r, z, rfl, rfl, hpz⟩ : ∃ r z, x = vt r ∧ y = vt z ∧ prs[i]? = some (r, z) := by
        match i, hx, hy with
        | 0, h, g => cases h; cases g; exact ⟨_, _, rfl, rfl, rfl⟩
        | 1, h, g => cases h; cases g; exact ⟨_, _, rfl, rfl, rfl⟩
        | 2, h, g => cases h; cases g; exact ⟨_, _, rfl, rfl, rfl⟩
      have kT := same_new nT (.tup [vt r, vt z])
      have rl : r.length = n := by
        match i, hpz with
        | 0, h => cases h; exact la
        | 1, h => cases h; exact lb
        | 2, h => cases h; exact lc
      have il : i < 3 := hi
      have pl := prs_len i
      refine ⟨T, _, rfl, SqT.of upd_same, rfl, _, _, rfl, _, _, rfl, rfl, rfl, kept ?_⟩
      refine ⟨_, rfl, _, rfl, _, _, rfl, ?_⟩
      refine in_it (walk_zipS (x := tx r) (y := tx z) rfl) (fun j H' => Same H1 H' ∧ H' D = some (.lst ((((prs.take i).flatMap fun p => tst p.1 p.2) ++ (tst r z).take j).map V.bl))) ⟨s3.trans kT, by rw [List.take_zero, List.append_nil]; exact kT _ _ eD⟩ (fun _ _ _ _ => trivial) (fun j y H3 H3' hj hp hy => ?_) (fun H3 hp => ?_)
      · obtain ⟨s4, eD3⟩ := hp
        obtain ⟨q, e, l, rfl, nq, rfl, he, hl⟩ := hy
        have he' : r[j]? = some e := by rw [← he]; simp [tx]
        have hl' : z[j]? = some l := by rw [← hl]; simp [tx]
        have hz : (tst r z)[j]? = some (decide (e = 63) || decide (e = l)) := by
          unfold tst
          rw [List.getElem?_map, List.getElem?_zip_eq_some (z := (e, l)) |>.mpr ⟨he', hl'⟩]
          rfl
        have kq := same_new nq (.tup [vc e, vc l])
        refine ⟨q, _, rfl, SqT.of upd_same, rfl, _, _, rfl, _, _, rfl, rfl, rfl, kept ?_⟩
        refine ⟨_, rfl, _, rfl, (by show 2 ≤ sizeLine; decide), fun m nm => ⟨m, _, rfl, .inr (SqT.of upd_same), rfl, rfl, ?_⟩⟩
        have ev : (if false = true then !inV (.str ⟨#[e]⟩) [V.str (Str.ofString "?"), .str ⟨#[l]⟩] else inV (.str ⟨#[e]⟩) [V.str (Str.ofString "?"), .str ⟨#[l]⟩]) = (decide (e = 63) || decide (e = l)) := by
          rw [str_q]
          exact in_two e l
        show ∃ acc, _
        rw [ev]
        have km := same_new nm (.tup [V.str (Str.ofString "?"), vc l])
        refine ⟨_, km _ _ (kq _ _ eD3), ?_, fun b' o e' => ?_, ?_⟩
        · rw [List.length_map, List.length_append, List.length_take]
          have := tst_len r z
          exact small1000 (by omega)
        · rw [upd_ne (ne_of_none e' nD)]; exact km _ _ (kq _ _ (s4 _ _ e'))
        · rw [upd_same, take_next hz]
          simp only [List.map_append, List.map_cons, List.map_nil, List.append_assoc]
      · obtain ⟨s4, eD3⟩ := hp
        refine ⟨s4, ?_⟩
        rw [eD3, take_next hpz, List.flatMap_append]
        have e1 : (tst r z).take (min (tx r).cps.size (tx z).cps.size) = tst r z := by
          refine List.take_of_length_le ?_
          unfold tst
          rw [List.length_map, List.length_zip, tx_size, tx_size]
          exact Nat.le_refl _
        rw [e1]
        show _ = some (HO.lst (List.map V.bl (_ ++ (tst r z ++ []))))
        rw [List.append_nil]
    · obtain ⟨s3, eD⟩ := hp
      refine ⟨D, _, rfl, SqL.of eD, ?_⟩
      have ea : ((prs.take (min [vt a, vt b, vt c].length [vt t.pre, vt t.mid, vt t.post].length)).flatMap fun p => tst p.1 p.2).all id = fit3 a b c t := by
        show (tst a t.pre ++ (tst b t.mid ++ (tst c t.post ++ []))).all id = _
        rw [List.append_nil, List.all_append, List.all_append]
        rfl
      rw [ea]
      exact q _ (s2.trans s3)
  · rw [decide_eq_false (fun z => hs (by have := V.int.inj z; omega))]
    refine iteT ?_
    rw [decide_eq_false hs] at q
    exact q H (Same.refl _)
theorem rows_zip (L : Rows) : (((L.map (·.1)).map Kd.str).zip (L.map fun p => vt p.2)).map (fun x => ((.inr x.1 : Key), x.2)) = rowsK L := by
  induction L with
  | nil => rfl
  | cons p L ih => exact congrArg (_ :: ·) ih
theorem sc_fits : FnScope ["tree", "rows"] ["tree", "rows"] (defScope s_fits) := ⟨rfl, rfl, rfl, by decide +kernel, rfl, by decide +kernel, by decide +kernel⟩
theorem ok_fits {ks : List Kd} (h3 : ks.length ≤ 3) (F : Fun K "fits" "fits" s_fits f fd) (Bk : KwBind fd ["tree"] "rows" (ks.map Kd.str)) (Dthree_rows : Df P w K mg base 3 "three_rows" ["rows"] spThree) (Dtree_fits : Df P w K mg base 64 "tree_fits" ["tree", "given"] spTreeFits) :
    FnKw P w K mg base 65 f 1 (ks.map Kd.str) (spFits ks) := by
  refine fnKw (k := 64) F Bk (by rw [List.length_map]; omega) sc_fits fun cdv A outer s H vs zs d Q hr hd hl h => ?_
  obtain ⟨H0, n0, eH, v, t, L, n, rfl, rfl, rfl, hv, hz, ne, nd, few, ok, q⟩ := h
  refine ⟨_, (pss_one (ps_ret (pe_call Dtree_fits.ok (hr.mono (by omega)) rfl Dtree_fits.g Dtree_fits.kp Dtree_fits.b .nil pass0 (pa_cons (pv 0) (pa_cons (pe_call Dthree_rows.ok (hr.mono (by omega)) rfl Dthree_rows.g Dthree_rows.kp Dthree_rows.b .nil pass0 (pa_cons (pv 1) pa_nil)) pa_nil))))), ?_⟩
  rw [rows_zip] at hd eH
  have k0 := same_new n0 (.dK (rowsK L))
  rw [← eH] at k0
  refine ⟨_, rfl, _, rfl, d, L, n, rfl, hd, ne, nd, few, ok, fun g H1 s1 eg => ?_⟩
  have n12 : n ≤ 12 := by
    obtain ⟨p, L', rfl⟩ := List.exists_cons_of_ne_nil ne
    obtain ⟨a, b⟩ := ok p List.mem_cons_self
    have := a.few
    omega
  refine ⟨v, t, g, _, _, _, n, rfl, (hv.same k0).same s1, hz, eg, rowOf_len ok .first, rowOf_len ok .between, rowOf_len ok .last, n12, fun H2 s2 => ?_⟩
  exact q H2 (k0.trans (s1.trans s2))
end
/-! ### shapes, labelled -/
inductive S where
  | nil
  | node (l r : S)
def S.size : S → Nat
  | .nil => 0
  | .node l r => 1 + l.size + r.size
inductive ShAt (H : Hp) : V → S → Prop
  | nil : ShAt H .non .nil
  | node {a : Addr} {l r : V} {tl tr : S} : H a = some (.tup [l, r]) → ShAt H l tl → ShAt H r tr → ShAt H (.ref a) (.node tl tr)
theorem ShAt.keep {H H' : Hp} (k : KeepT H H') {v : V} {t : S} (h : ShAt H v t) : ShAt H' v t := by
  induction h with
  | nil => exact .nil
  | node e _ _ h1 h2 => exact .node (k _ _ e) h1 h2
theorem ShAt.inv {H : Hp} {v : V} {t : S} (h : ShAt H v t) : (v = .non ∧ t = .nil) ∨ ∃ a l r tl tr, v = .ref a ∧ t = .node tl tr ∧ H a = some (.tup [l, r]) ∧ ShAt H l tl ∧ ShAt H r tr := by
  cases h with
  | nil => exact .inl ⟨rfl, rfl⟩
  | node e h1 h2 => exact .inr ⟨_, _, _, _, _, rfl, rfl, e, h1, h2⟩
theorem ShAt.same {H H' : Hp} (k : Same H H') {v : V} {t : S} (h : ShAt H v t) : ShAt H' v t := h.keep (Tw.Same.keepT k)
theorem at_last2 {l r : V} : atI [l, r] (-1) = some r := by rfl
theorem tx_mid (l : List Nat) (i j : Nat) (h : i ≤ j) (hj : j ≤ l.length) : cutS (tx l) (some (i : Int)) (some (j : Int)) = tx ((l.drop i).take (j - i)) := by
  unfold cutS tx
  show (⟨_⟩ : Str) = ⟨_⟩
  rw [HT.sIx_nat, HT.sIx_nat]
  show (⟨((l.drop (min i l.length)).take (min j l.length - min i l.length)).toArray⟩ : Str) = _
  rw [Nat.min_eq_left (show i ≤ l.length by omega), Nat.min_eq_left hj]
def spSSize (n : Nat) : Sp := fun vs H Q _ => ∃ (v : V) (t : S), vs = [v] ∧ ShAt H v t ∧ t.size < n ∧ Q (.int (t.size : Int)) H
def spLab (n : Nat) : Sp := fun vs H Q _ => ∃ (v : V) (t : S) (ls : List Nat), vs = [v, vt ls] ∧ ShAt H v t ∧ t.size < n ∧ t.size ≤ 20 ∧ ls.length = t.size ∧
  ∀ (u : V) (b : B) (H' : Hp), Same H H' → BAt H' u b → b.pre = ls → Q u H'
def spShape (n : Nat) : Sp := fun vs H Q _ => ∃ (D : Deck) (c : Nat) (m y : Nat), vs = [.ref D.dk, .int (m : Int), .int (y : Int)] ∧ DeckOk H D c ∧ c + m < 1000000 ∧ m < n ∧ m ≤ 20 ∧ y < 4 ∧
  ∀ (u : V) (t : S) (H' : Hp), SameD D H H' → DeckOk H' D (c + m) → ShAt H' u t → t.size = m → Q u H'
section
variable {P : Program} {w : World} {K : PySem.W.Frag} {mg : Str → Option Value} {base : Heap} {f : Addr} {fd : FuncData}
theorem ok_ssize (F : Fun K "_law_size" "_law_size" s__law_size f fd) (b : Binds K fd ["_law_tree_here"] []) (g : mg "_law_size" = some (.ref f)) : ∀ n : Nat, FnOk P w K mg base CX0 n f fd ["_law_tree_here"] (spSSize n)
  | 0 => by
    have no : ∀ vs H Q E, ¬ spSSize 0 vs H Q E := fun vs H Q E h => by
      obtain ⟨v, t, _, _, h1, _⟩ := h
      omega
    exact ⟨fun vs H Q E h => absurd h (no vs H Q E), fun A outer s H args us vs Q E _ _ _ _ h => absurd h (no vs H Q E)⟩
  | n + 1 => by
    have Dself : Df P w K mg base n "_law_size" ["_law_tree_here"] (spSSize n) := ⟨f, fd, ok_ssize F b g n, b, F.kp, g⟩
    refine F.ok sc__law_size (fun vs H Q E h => ?_) (fun cdv A outer s H vs Q E hr h => ?_)
    · obtain ⟨v, t, rfl, _⟩ := h
      rfl
    obtain ⟨v, t, rfl, hv, hn, q⟩ := h
    refine ⟨_, (pss_one (ps_ret (pe_ifExp (pt_cmpR op_isN (pv 0) pe_non (nomark _)) pe_int (pe_op op_add (pe_op op_add pe_int (pe_call Dself.ok (hr.mono (by omega)) rfl Dself.g Dself.kp Dself.b .nil pass0 (pa_cons (pe_ix ix_tup (pv 0) pe_int (fun _ _ => rfl)) pa_nil))) (pe_call Dself.ok (hr.mono (by omega)) rfl Dself.g Dself.kp Dself.b .nil pass0 (pa_cons (pe_ix ix_tup (pv 0) (pe_un un_neg pe_int) (fun _ _ => rfl)) pa_nil)))))), ?_⟩
    rcases hv.inv with ⟨rfl, rfl⟩ | ⟨a, l, r, tl, tr, rfl, rfl, ea, hl, hr'⟩
    · exact ⟨_, rfl, rfl, _, rfl, iteT q⟩
    · refine ⟨_, rfl, rfl, _, rfl, iteF ?_⟩
      have sz : 1 + tl.size + tr.size < n + 1 := hn
      refine ⟨_, rfl, a, _, _, _, rfl, rfl, SqT.of ea, atI_nat (j := 0) rfl, l, tl, rfl, hl, by omega, _, _, rfl, rfl, ?_⟩
      refine ⟨_, rfl, _, rfl, a, _, _, _, rfl, rfl, SqT.of ea, at_last2, r, tr, rfl, hr', by omega, _, _, rfl, rfl, ?_⟩
      have e : ((S.node tl tr).size : Int) = 1 + (tl.size : Int) + (tr.size : Int) := by
        show ((1 + tl.size + tr.size : Nat) : Int) = _
        omega
      rw [e] at q
      exact q
theorem ok_lab (F : Fun K "_law_labelled" "_law_labelled" s__law_labelled f fd) (b : Binds K fd ["_law_shape_here", "_law_letters"] []) (g : mg "_law_labelled" = some (.ref f)) (D_law_size : Df P w K mg base 30 "_law_size" ["_law_tree_here"] (spSSize 30)) : ∀ n : Nat, FnOk P w K mg base CX0 (30 + n) f fd ["_law_shape_here", "_law_letters"] (spLab n)
  | 0 => by
    have no : ∀ vs H Q E, ¬ spLab 0 vs H Q E := fun vs H Q E h => by
      obtain ⟨v, t, _, _, _, h1, _⟩ := h
      omega
    exact ⟨fun vs H Q E h => absurd h (no vs H Q E), fun A outer s H args us vs Q E _ _ _ _ h => absurd h (no vs H Q E)⟩
  | n + 1 => by
    have Dself : Df P w K mg base (30 + n) "_law_labelled" ["_law_shape_here", "_law_letters"] (spLab n) := ⟨f, fd, ok_lab F b g D_law_size n, b, F.kp, g⟩
    refine F.ok (k := 30 + n) sc__law_labelled (fun vs H Q E h => ?_) (fun cdv A outer s H vs Q E hr h => ?_)
    · obtain ⟨v, t, ls, rfl, _⟩ := h
      rfl
    obtain ⟨v, t, ls, rfl, hv, hn, h20, hl, q⟩ := h
    refine ⟨_, (pss_cons (ps_if (pt_cmpR op_isN (pv 0) pe_non (nomark _))
      (pss_one (ps_ret pe_non)) pss_nil)
    (pss_cons (ps_set (i := 2) sc__law_labelled.nd rfl (.inl rfl) (pe_call D_law_size.ok (hr.mono (by omega)) rfl D_law_size.g D_law_size.kp D_law_size.b .nil pass0 (pa_cons (pe_ix ix_tup (pv 0) pe_int (fun _ _ => rfl)) pa_nil)))
    (pss_one (ps_ret (pe_tup (pa_cons (pe_call Dself.ok (hr.mono (by omega)) rfl Dself.g Dself.kp Dself.b .nil pass0 (pa_cons (pe_ix ix_tup (pv 0) pe_int (fun _ _ => rfl)) (pa_cons (pe_slice sl_str (pv 1) (po_some pe_int) (po_some (pe_op op_add (pv 2) pe_int))) pa_nil))) (pa_cons (pe_ix ix_str (pv 1) pe_int (fun _ _ => rfl)) (pa_cons (pe_call Dself.ok (hr.mono (by omega)) rfl Dself.g Dself.kp Dself.b .nil pass0 (pa_cons (pe_ix ix_tup (pv 0) (pe_un un_neg pe_int) (fun _ _ => rfl)) (pa_cons (pe_slice sl_str (pv 1) (po_some (pe_op op_add (pv 2) pe_int)) po_none) pa_nil))) pa_nil)))))))), ?_⟩
    rcases hv.inv with ⟨rfl, rfl⟩ | ⟨a, l, r, tl, tr, rfl, rfl, ea, hL, hR⟩
    · refine ⟨_, rfl, rfl, _, rfl, iteT ?_⟩
      exact q .non .nil H (Same.refl _) .nil (List.length_eq_zero_iff.mp hl).symm
    · refine ⟨_, rfl, rfl, _, rfl, iteF ?_⟩
      have sz : 1 + tl.size + tr.size < n + 1 := hn
      have s20 : 1 + tl.size + tr.size ≤ 20 := h20
      have hl : ls.length = 1 + tl.size + tr.size := hl
      obtain ⟨x, rest, rfl⟩ := List.exists_cons_of_length_pos (show 0 < ls.length by omega)
      have rl : rest.length = tl.size + tr.size := by rw [List.length_cons] at hl; omega
      refine ⟨_, rfl, a, _, _, _, rfl, rfl, SqT.of ea, atI_nat (j := 0) rfl, l, tl, rfl, hL, by omega, ?_⟩
      have lz : (tx (x :: rest)).length ≤ sizeLine := small (by rw [tx_len]; omega)
      refine ⟨_, rfl, a, _, _, _, rfl, rfl, SqT.of ea, atI_nat (j := 0) rfl, ?_⟩
      refine ⟨_, rfl, 1, rfl, _, rfl, _, _, rfl, rfl, ((tl.size + 1 : Nat) : Int), rfl, _, rfl, lz, ?_⟩
      rw [show (1 : Int) = ((1 : Nat) : Int) from rfl, tx_mid _ _ _ (by omega) (by rw [List.length_cons]; omega)]
      show spLab n [l, vt ((rest.take (tl.size + 1 - 1)))] H _ E0
      rw [Nat.add_sub_cancel]
      refine ⟨l, tl, rest.take tl.size, rfl, hL, by omega, by omega, by rw [List.length_take]; omega, fun u1 b1 H1 s1 h1 e1 => ?_⟩
      refine ⟨_, rfl, _, _, _, rfl, rfl, lz, atI_nat (j := 0) rfl, ?_⟩
      refine ⟨_, rfl, _, rfl, a, _, _, _, rfl, rfl, SqT.of (s1 _ _ ea), at_last2, ?_⟩
      refine ⟨_, rfl, _, rfl, _, _, rfl, rfl, ((tl.size + 1 : Nat) : Int), rfl, _, rfl, lz, ?_⟩
      rw [tx_from]
      show spLab n [r, vt (rest.drop tl.size)] H1 _ E0
      refine ⟨r, tr, rest.drop tl.size, rfl, hR.same s1, by omega, by omega, by rw [List.length_drop]; omega, fun u2 b2 H2 s2 h2 e2 => ⟨(by show 3 ≤ sizeLine; decide), fun p np => ?_⟩⟩
      have k3 := same_new np (.tup [u1, vc x, u2])
      refine q (.ref p) (.node b1 x b2) _ (s1.trans (s2.trans k3)) (.node upd_same ((h1.same s2).same k3) (h2.same k3)) ?_
      show x :: (b1.pre ++ b2.pre) = _
      rw [e1, e2, List.take_append_drop]
theorem ok_shape (F : Fun K "_law_shape" "_law_shape" s__law_shape f fd) (b : Binds K fd ["_law_deck_here", "_law_many", "_law_way"] []) (g : mg "_law_shape" = some (.ref f)) (D_law_draw : Df P w K mg base 1 "_law_draw" ["_law_deck_here", "_law_many"] spDraw) : ∀ n : Nat, FnOk P w K mg base CX0 (1 + n) f fd ["_law_deck_here", "_law_many", "_law_way"] (spShape n)
  | 0 => by
    have no : ∀ vs H Q E, ¬ spShape 0 vs H Q E := fun vs H Q E h => by
      obtain ⟨D, c, m, y, _, _, _, h1, _⟩ := h
      omega
    exact ⟨fun vs H Q E h => absurd h (no vs H Q E), fun A outer s H args us vs Q E _ _ _ _ h => absurd h (no vs H Q E)⟩
  | n + 1 => by
    have Dself : Df P w K mg base (1 + n) "_law_shape" ["_law_deck_here", "_law_many", "_law_way"] (spShape n) := ⟨f, fd, ok_shape F b g D_law_draw n, b, F.kp, g⟩
    refine F.ok (k := 1 + n) sc__law_shape (fun vs H Q E h => ?_) (fun cdv A outer s H vs Q E hr h => ?_)
    · obtain ⟨D, c, m, y, rfl, _⟩ := h
      rfl
    obtain ⟨D, c, m, y, rfl, d, hc, hn, h20, y4, q⟩ := h
    refine ⟨_, (pss_cons (ps_if (pt_cmpR op_eq (pv 1) pe_int (nomark _))
      (pss_one (ps_ret pe_non)) pss_nil)
    (pss_cons (ps_set (i := 3) sc__law_shape.nd rfl (.inl rfl) (pe_ix ix_list (pe_lst (pa_cons (pe_call D_law_draw.ok (hr.mono (by omega)) rfl D_law_draw.g D_law_draw.kp D_law_draw.b .nil pass0 (pa_cons (pv 0) (pa_cons (pv 1) pa_nil))) (pa_cons pe_int (pa_cons (pe_op op_sub (pv 1) pe_int) (pa_cons (pe_op op_mul (pe_op op_sub (pv 1) pe_int) (pe_op op_mod (pv 1) pe_int)) pa_nil))))) (pv 2) (fun _ _ => rfl)))
    (pss_one (ps_ret (pe_tup (pa_cons (pe_call Dself.ok (hr.mono (by omega)) rfl Dself.g Dself.kp Dself.b .nil pass0 (pa_cons (pv 0) (pa_cons (pv 3) (pa_cons (pv 2) pa_nil)))) (pa_cons (pe_call Dself.ok (hr.mono (by omega)) rfl Dself.g Dself.kp Dself.b .nil pass0 (pa_cons (pv 0) (pa_cons (pe_op op_sub (pe_op op_sub (pv 1) pe_int) (pv 3)) (pa_cons (pv 2) pa_nil)))) pa_nil))))))), ?_⟩
    refine ⟨_, rfl, rfl, _, rfl, ?_⟩
    by_cases h0 : m = 0
    · subst h0
      refine iteT ?_
      exact q .non .nil H (SameD.refl _ _) d .nil rfl
    · rw [decide_eq_false (show ¬ V.int (m : Int) = V.int 0 from fun z => h0 (by have := V.int.inj z; omega))]
      refine iteF ?_
      refine ⟨_, rfl, _, rfl, D, c, _, rfl, d, by omega, by omega, by omega, fun i H1 i0 i1 d1 s1 => ?_⟩
      refine ⟨_, rfl, _, _, rfl, rfl, ?_⟩
      refine ⟨_, rfl, _, _, rfl, rfl, _, rfl, _, _, rfl, rfl, (show (0 : Int) < 2 by decide), _, _, rfl, rfl, .inr ⟨by omega, by omega⟩, ?_⟩
      refine ⟨(by show 4 ≤ sizeLine; decide), fun p np => ?_⟩
      have k1 := same_new np (.lst [V.int i, .int 0, .int ((m : Int) - 1), .int (((m : Int) - 1) * ((m : Int) % 2))])
      obtain ⟨sp, hat, lo, hi⟩ : ∃ sp : Nat, atI [V.int i, .int 0, .int ((m : Int) - 1), .int (((m : Int) - 1) * ((m : Int) % 2))] (y : Int) = some (.int (sp : Int)) ∧ 0 ≤ sp ∧ sp < m := by
        have h4 : y = 0 ∨ y = 1 ∨ y = 2 ∨ y = 3 := by omega
        rcases h4 with rfl | rfl | rfl | rfl
        · exact ⟨i.toNat, by rw [atI_nat (j := 0) rfl, Int.toNat_of_nonneg i0], Nat.zero_le _, by omega⟩
        · exact ⟨0, atI_nat (j := 1) rfl, Nat.zero_le _, by omega⟩
        · exact ⟨m - 1, by rw [atI_nat (j := 2) rfl, show ((m : Int) - 1) = ((m - 1 : Nat) : Int) by omega], Nat.zero_le _, by omega⟩
        · rcases (show m % 2 = 0 ∨ m % 2 = 1 by omega) with e | e
          · exact ⟨0, by rw [atI_nat (j := 3) rfl, show (m : Int) % 2 = 0 by omega, Int.mul_zero]; rfl, Nat.zero_le _, by omega⟩
          · exact ⟨m - 1, by rw [atI_nat (j := 3) rfl, show (m : Int) % 2 = 1 by omega, Int.mul_one, show ((m : Int) - 1) = ((m - 1 : Nat) : Int) by omega], Nat.zero_le _, by omega⟩
      refine ⟨_, rfl, p, _, _, _, rfl, rfl, SqL.of upd_same, hat, ?_⟩
      have d2 := d1.same k1
      have sA := s1.trans (SameD.of k1)
      generalize upd H1 p (.lst [V.int i, .int 0, .int ((m : Int) - 1), .int (((m : Int) - 1) * ((m : Int) % 2))]) = H2 at d2 sA
      refine ⟨_, rfl, _, rfl, _, rfl, D, c + 1, sp, y, rfl, d2, by omega, by omega, by omega, y4, fun u1 t1 H3 s3 d3 h1 e1 => ?_⟩
      refine ⟨_, rfl, _, rfl, _, _, rfl, rfl, _, rfl, _, _, rfl, rfl, _, rfl, D, c + 1 + sp, m - 1 - sp, y, ?_, d3, by omega, by omega, by omega, y4, fun u2 t2 H4 s4 d4 h2 e2 => ⟨(by show 2 ≤ sizeLine; decide), fun z nz => ?_⟩⟩
      · rw [show ((m - 1 - sp : Nat) : Int) = (m : Int) - 1 - (sp : Int) by omega]; rfl
      have kz := same_new nz (.tup [u1, u2])
      have d5 := d4.same kz
      rw [show c + 1 + sp + (m - 1 - sp) = c + m by omega] at d5
      refine q (.ref z) (.node t1 t2) _ (sA.trans (s3.trans (s4.trans (SameD.of kz)))) d5 (.node upd_same ((h1.keep (s4.keepT d3)).same kz) (h2.same kz)) ?_
      show 1 + t1.size + t2.size = m
      omega
end
/-! ### _law_tree, _law_walks -/
def lowT (t : B) : Prop := ∀ c ∈ t.pre, 97 ≤ c ∧ c ≤ 122
def spTree : Sp := fun vs H Q _ => ∃ (D : Deck) (n m : Nat), vs = [.ref D.dk, .int (m : Int)] ∧ DeckOk H D n ∧ n + 60 < 1000000 ∧ 0 < m ∧ m ≤ 12 ∧
  ∀ (u : V) (t : B) (c : Nat) (H' : Hp), n ≤ c → c ≤ n + 60 → DeckOk H' D c → SameD D H H' → BAt H' u t → t ≠ .nil → t.size ≤ m → lowT t → Q u H'
theorem some_low {y : Nat} (h : y < 4) : ∃ ls : List Nat, atI [V.str (Str.ofString "a"), .str (Str.ofString "ab"), .str (Str.ofString "abc"), .str (Str.ofString "abcdefghijklmnopqrstuvwxyz")] (y : Int) = some (vt ls) ∧ ls ≠ [] ∧ ls.length ≤ 26 ∧ ∀ c ∈ ls, 97 ≤ c ∧ c ≤ 122 := by
  have h4 : y = 0 ∨ y = 1 ∨ y = 2 ∨ y = 3 := by omega
  rcases h4 with rfl | rfl | rfl | rfl
  · exact ⟨(Str.ofString "a").cps.toList, atI_nat (j := 0) rfl, by decide +kernel, by decide +kernel, by decide +kernel⟩
  · exact ⟨(Str.ofString "ab").cps.toList, atI_nat (j := 1) rfl, by decide +kernel, by decide +kernel, by decide +kernel⟩
  · exact ⟨(Str.ofString "abc").cps.toList, atI_nat (j := 2) rfl, by decide +kernel, by decide +kernel, by decide +kernel⟩
  · exact ⟨(Str.ofString "abcdefghijklmnopqrstuvwxyz").cps.toList, atI_nat (j := 3) rfl, by decide +kernel, by decide +kernel, by decide +kernel⟩
theorem all_vc {l : List Nat} : ∀ zs : List V, (∀ x ∈ zs, x ∈ l.map vc) → ∃ cs : List Nat, zs = cs.map vc ∧ ∀ c ∈ cs, c ∈ l
  | [], _ => ⟨[], rfl, fun c h => nomatch h⟩
  | x :: zs, h => by
    obtain ⟨cs, e, hc⟩ := all_vc zs fun y hy => h y (List.mem_cons_of_mem _ hy)
    obtain ⟨c, h1, rfl⟩ := List.mem_map.mp (h x List.mem_cons_self)
    exact ⟨c :: cs, by rw [e]; rfl, fun d hd => by
      rcases List.mem_cons.mp hd with rfl | hd
      · exact h1
      · exact hc d hd⟩
section
variable {P : Program} {w : World} {K : PySem.W.Frag} {mg : Str → Option Value} {base : Heap} {f : Addr} {fd : FuncData}
theorem ok_tree (F : Fun K "_law_tree" "_law_tree" s__law_tree f fd) (M : Mgs mg) (D_law_draw : Df P w K mg base 1 "_law_draw" ["_law_deck_here", "_law_many"] spDraw) (D_law_mixed : Df P w K mg base 2 "_law_mixed" ["_law_deck_here", "_law_row"] spMixed)
    (D_law_labelled : Df P w K mg base 51 "_law_labelled" ["_law_shape_here", "_law_letters"] (spLab 21)) (D_law_shape : Df P w K mg base 22 "_law_shape" ["_law_deck_here", "_law_many", "_law_way"] (spShape 21)) : FnOk P w K mg base CX0 52 f fd ["_law_deck_here", "_law_most"] spTree := by
  refine F.ok sc__law_tree (fun vs H Q E h => ?_) (fun cdv A outer s H vs Q E hr h => ?_)
  · obtain ⟨D, n, m, rfl, _⟩ := h
    rfl
  obtain ⟨D, n, m, rfl, d, hn, m0, m12, q⟩ := h
  refine ⟨_, (pss_cons (ps_set (i := 2) sc__law_tree.nd rfl (.inl rfl) (pe_op op_add pe_int (pe_call D_law_draw.ok (hr.mono (by omega)) rfl D_law_draw.g D_law_draw.kp D_law_draw.b .nil pass0 (pa_cons (pv 0) (pa_cons (pv 1) pa_nil)))))
    (pss_cons (ps_set (i := 3) sc__law_tree.nd rfl (.inr rfl) (pe_ix ix_list (pe_lst (pa_cons pe_str (pa_cons pe_str (pa_cons pe_str (pa_cons pe_str pa_nil))))) (pe_call D_law_draw.ok (hr.mono (by omega)) rfl D_law_draw.g D_law_draw.kp D_law_draw.b .nil pass0 (pa_cons (pv 0) (pa_cons pe_int pa_nil))) (fun _ _ => rfl)))
    (pss_cons (ps_set (i := 5) sc__law_tree.nd rfl (.inl rfl) (pe_bm PySem.F.plainAttrs_str PySem.F.slot_str_join PySem.F.type_str_join mt_join pe_str (pa_cons (pe_lc (own := [("_law_node", 4)]) (g := gName 4) (tt := tYes) rfl sc__law_tree.nd (pi_range1 rfl M.range (pa_cons (pv 2) pa_nil)) (blkOk_by (N := ["_law_deck_here", "_law_most", "_law_many", "_law_some", "_law_node", "_law_letters"]) (sc := defScope s__law_tree) (by decide +kernel)) (fun _ _ _ _ _ => (pg_name (i := 4) sc__law_tree.nd rfl (.inl rfl))) (fun _ _ _ _ _ => pts_nil) (fun _ _ _ _ _ => (pe_ix ix_str (pv 3) (pe_call D_law_draw.ok (hr.mono (by omega)) rfl D_law_draw.g D_law_draw.kp D_law_draw.b .nil pass0 (pa_cons (pv 0) (pa_cons (pe_callB call_len_str rfl M.len PySem.boot_len (pa_cons (pv 3) pa_nil)) pa_nil))) (fun _ _ => rfl)))) pa_nil)))
    (pss_cons (ps_if (pt_cmpR op_eq (pe_call D_law_draw.ok (hr.mono (by omega)) rfl D_law_draw.g D_law_draw.kp D_law_draw.b .nil pass0 (pa_cons (pv 0) (pa_cons pe_int pa_nil))) pe_int (nomark _))
      (pss_one (ps_set (i := 5) sc__law_tree.nd rfl (.inl rfl) (pe_slice sl_str (pe_bm PySem.F.plainAttrs_str PySem.F.slot_str_join PySem.F.type_str_join mt_join pe_str (pa_cons (pe_call D_law_mixed.ok (hr.mono (by omega)) rfl D_law_mixed.g D_law_mixed.kp D_law_mixed.b .nil pass0 (pa_cons (pv 0) (pa_cons (pe_callTy (call_signs rfl) rfl M.list (by decide +kernel) (pa_cons pe_str pa_nil)) pa_nil))) pa_nil)) po_none (po_some (pv 2))))) pss_nil)
    (pss_one (ps_ret (pe_call D_law_labelled.ok (hr.mono (by omega)) rfl D_law_labelled.g D_law_labelled.kp D_law_labelled.b .nil pass0 (pa_cons (pe_call D_law_shape.ok (hr.mono (by omega)) rfl D_law_shape.g D_law_shape.kp D_law_shape.b .nil pass0 (pa_cons (pv 0) (pa_cons (pv 2) (pa_cons (pe_op op_mul (pe_op op_mod (pe_call D_law_draw.ok (hr.mono (by omega)) rfl D_law_draw.g D_law_draw.kp D_law_draw.b .nil pass0 (pa_cons (pv 0) (pa_cons pe_int pa_nil))) pe_int) (pe_callTy call_int1 rfl M.int (by decide +kernel) (pa_cons (pe_cmpR op_gt (pv 2) pe_int (nomark _)) pa_nil))) pa_nil)))) (pa_cons (pv 5) pa_nil))))))))), ?_⟩
  refine ⟨_, rfl, _, rfl, D, n, _, rfl, d, by omega, by omega, by omega, fun i H1 i0 i1 d1 s1 => ?_⟩
  obtain ⟨z, rfl⟩ : ∃ z : Nat, i = (z : Int) := ⟨i.toNat, by omega⟩
  refine ⟨_, _, rfl, rfl, ?_⟩
  refine ⟨(by show 4 ≤ sizeLine; decide), fun p np => ?_⟩
  have k1 := same_new np (.lst [V.str (Str.ofString "a"), .str (Str.ofString "ab"), .str (Str.ofString "abc"), .str (Str.ofString "abcdefghijklmnopqrstuvwxyz")])
  have ep := upd_same (H := H1) (a := p) (o := .lst [V.str (Str.ofString "a"), .str (Str.ofString "ab"), .str (Str.ofString "abc"), .str (Str.ofString "abcdefghijklmnopqrstuvwxyz")])
  have op := d1.new np
  have d2 := d1.same k1
  have s2 := s1.trans (SameD.of k1)
  generalize upd H1 p (.lst [V.str (Str.ofString "a"), .str (Str.ofString "ab"), .str (Str.ofString "abc"), .str (Str.ofString "abcdefghijklmnopqrstuvwxyz")]) = H2 at ep d2 s2
  refine ⟨_, rfl, D, n + 1, _, rfl, d2, by omega, by decide, by decide, fun j H3 j0 j1 d3 s3 => ?_⟩
  obtain ⟨y, rfl⟩ : ∃ y : Nat, j = (y : Int) := ⟨j.toNat, by omega⟩
  obtain ⟨ls, hat, lne, l26, low⟩ := some_low (show y < 4 by omega)
  refine ⟨p, _, _, _, rfl, rfl, SqL.of (s3.at op ep), hat, ?_⟩
  have s4 := s2.trans s3
  have l0 : 0 < ls.length := List.length_pos_iff.mpr lne
  have hz : (1 : Int) + (z : Int) = ((z + 1 : Nat) : Int) := by omega
  refine ⟨rfl, _, rfl, (1 : Int) + (z : Int), rfl, (by omega), (by omega), fun L nL => ?_⟩
  rw [show ((1 : Int) + (z : Int)).toNat = z + 1 by omega]
  have nLH : H L = none := s4.free d3 nL
  refine lc_range (lo := 0) (n := z + 1) (fun j H' => ∃ xs : List Nat, xs.length = j ∧ DeckOk H' D (n + 2 + j) ∧ SameD D H H' ∧ H' L = some (.lst (xs.map vc)) ∧ Off D L ∧ ∀ c ∈ xs, 97 ≤ c ∧ c ≤ 122)
    ⟨[], rfl, d3.same (same_new nL _), s4.put nLH _, upd_same, d3.new nL, fun c h => nomatch h⟩ (fun j H' hj hp => ?_) (fun H4 hp => ?_)
  · obtain ⟨xs, hx, d4, s5, eL, oL, lo⟩ := hp
    have lz : (tx ls).length ≤ sizeLine := small (by rw [tx_len]; omega)
    refine ⟨rfl, kept ?_⟩
    refine ⟨_, rfl, _, rfl, _, rfl, _, rfl, lz, D, n + 2 + j, _, rfl, d4, by omega, by rw [tx_len]; omega, by rw [tx_len]; omega, fun i H5 i0 i1 d5 s6 => ?_⟩
    rw [tx_len] at i1
    have hi : i.toNat < ls.length := by omega
    refine ⟨_, _, _, rfl, rfl, lz, at_ge (xs := ls) i0 hi, ?_⟩
    refine ⟨_, s6.at oL eL, ?_, xs ++ [ls[i.toNat]], by rw [List.length_append, hx]; rfl, d5.put oL _, ?_, ?_, oL, fun c hc => ?_⟩
    · rw [List.length_map]; exact small1000 (by omega)
    · exact (s5.trans s6).put nLH _
    · rw [upd_same, List.map_append]; rfl
    · rcases List.mem_append.mp hc with hc | hc
      · exact lo c hc
      · rw [List.mem_singleton.mp hc]
        exact low _ (List.getElem_mem hi)
  obtain ⟨xs, hx, d4, s5, eL, oL, lo⟩ := hp
  have m12' : z + 1 ≤ 12 := by omega
  have eL2 : H4 L = some (.lst ((xs.map ch).map V.str)) := by rw [eL, map_vc]
  refine ⟨_, L, xs.map ch, rfl, rfl, .inl (SqL.of eL2), tx_joinOk _ (by omega), ?_⟩
  rw [tx_join]
  refine ⟨_, rfl, D, n + 2 + (z + 1), _, rfl, d4, by omega, by decide, by decide, fun i H5 i0 i1 d5 s6 => ⟨rfl, _, rfl, ?_⟩⟩
  have s7 := s5.trans s6
  -- the end
  refine ite2 (fun _ => ?_) (fun _ => ?_)
  · refine ⟨rfl, _, rfl, Str.ofString "abcdefghijklmnopqrstuvwxyz", rfl, (by decide +kernel), fun ra nra => ?_⟩
    have e26 : (Str.ofString "abcdefghijklmnopqrstuvwxyz").cps.toList.length = 26 := by decide +kernel
    have low26 : ∀ c ∈ (Str.ofString "abcdefghijklmnopqrstuvwxyz").cps.toList, 97 ≤ c ∧ c ≤ 122 := by decide +kernel
    have kA := same_new nra (.lst ((Str.ofString "abcdefghijklmnopqrstuvwxyz").cps.toList.map vc))
    have era := upd_same (H := H5) (a := ra) (o := .lst ((Str.ofString "abcdefghijklmnopqrstuvwxyz").cps.toList.map vc))
    have ora := d5.new nra
    have dA := d5.same kA
    generalize (Str.ofString "abcdefghijklmnopqrstuvwxyz").cps.toList = AL at e26 low26 kA era dA ⊢
    have sA := s7.trans (SameD.of kA)
    refine ⟨D, n + 2 + (z + 1) + 1, ra, AL.map vc, rfl, dA, by rw [List.length_map]; omega, era, ora, by rw [List.length_map]; omega, fun p9 zs H6 dM sM np9 ep9 pm op9 => ?_⟩
    obtain ⟨cs, rfl, hcs⟩ := all_vc zs fun x hx => pm.mem_iff.mp hx
    have lc : cs.length = 26 := by
      have := pm.length_eq
      rw [List.length_map, List.length_map] at this
      omega
    rw [List.length_map, e26] at dM
    have ep8 : H6 p9 = some (.lst ((cs.map ch).map V.str)) := by rw [ep9, map_vc]
    refine ⟨_, p9, cs.map ch, rfl, rfl, .inl (SqL.of ep8), tx_joinOk _ (by omega), ?_⟩
    rw [tx_join]
    refine ⟨_, rfl, (1 : Int) + (z : Int), rfl, _, rfl, small (by rw [tx_len]; omega), ?_⟩
    rw [hz, tx_to]
    have SX := sA.trans sM
    have LX : (cs.take (z + 1)).length = z + 1 := by rw [List.length_take]; omega
    have OX : ∀ c ∈ cs.take (z + 1), 97 ≤ c ∧ c ≤ 122 := fun c hc => low26 c (hcs c (List.mem_of_mem_take hc))
    refine ⟨_, rfl, _, rfl, _, rfl, D, (n + 2 + (z + 1) + 1 + 26), _, rfl, dM, by omega, by decide, by decide, fun i9 H7 i90 i91 d7 s8 => ?_⟩
    refine ⟨_, _, rfl, rfl, (show (0 : Int) < 4 by decide), _, rfl, _, _, rfl, rfl, .inr ⟨_, rfl, _, _, rfl, rfl, .inl ⟨by omega, by omega⟩, ?_⟩⟩
    have pz : decide ((1 : Int) + (z : Int) > 0) = true := decide_eq_true (by omega)
    refine ⟨D, (n + 2 + (z + 1) + 1 + 26) + 1, z + 1, (i9 % 4).toNat, ?_, d7, by omega, by omega, by omega, by omega, fun u1 t1 H8 s9 d8 h1 e1 => ?_⟩
    · show [V.ref D.dk, V.int (1 + (z : Int)), V.int (i9 % 4 * (if decide ((1 : Int) + (z : Int) > 0) = true then 1 else 0))] = _
      rw [pz, if_pos rfl, Int.mul_one, hz, Int.toNat_of_nonneg (by omega)]
    refine ⟨_, rfl, u1, t1, _, rfl, h1, by omega, by omega, by rw [e1]; exact LX, fun u2 b H9 sB hb eb => ?_⟩
    refine q u2 b ((n + 2 + (z + 1) + 1 + 26) + 1 + (z + 1)) H9 (by omega) (by omega) (d8.same sB) (SX.trans (s8.trans (s9.trans (SameD.of sB)))) hb (fun e => ?_) ?_ (fun c hc => ?_)
    · have := congrArg List.length eb
      rw [e, LX] at this
      exact absurd this (by show ¬ (0 = z + 1); omega)
    · rw [← b.pre_len, eb, LX]; omega
    · rw [eb] at hc
      exact OX c hc
  · refine ⟨_, rfl, _, rfl, _, rfl, D, (n + 2 + (z + 1) + 1), _, rfl, d5, by omega, by decide, by decide, fun i9 H7 i90 i91 d7 s8 => ?_⟩
    refine ⟨_, _, rfl, rfl, (show (0 : Int) < 4 by decide), _, rfl, _, _, rfl, rfl, .inr ⟨_, rfl, _, _, rfl, rfl, .inl ⟨by omega, by omega⟩, ?_⟩⟩
    have pz : decide ((1 : Int) + (z : Int) > 0) = true := decide_eq_true (by omega)
    refine ⟨D, (n + 2 + (z + 1) + 1) + 1, z + 1, (i9 % 4).toNat, ?_, d7, by omega, by omega, by omega, by omega, fun u1 t1 H8 s9 d8 h1 e1 => ?_⟩
    · show [V.ref D.dk, V.int (1 + (z : Int)), V.int (i9 % 4 * (if decide ((1 : Int) + (z : Int) > 0) = true then 1 else 0))] = _
      rw [pz, if_pos rfl, Int.mul_one, hz, Int.toNat_of_nonneg (by omega)]
    refine ⟨_, rfl, u1, t1, _, rfl, h1, by omega, by omega, by rw [e1]; exact hx, fun u2 b H9 sB hb eb => ?_⟩
    refine q u2 b ((n + 2 + (z + 1) + 1) + 1 + (z + 1)) H9 (by omega) (by omega) (d8.same sB) (s7.trans (s8.trans (s9.trans (SameD.of sB)))) hb (fun e => ?_) ?_ (fun c hc => ?_)
    · have := congrArg List.length eb
      rw [e, hx] at this
      exact absurd this (by show ¬ (0 = z + 1); omega)
    · rw [← b.pre_len, eb, hx]; omega
    · rw [eb] at hc
      exact lo c hc
end
/-! ### _law_walks, _law_hidden -/
def spLWalks (n : Nat) : Sp := fun vs H Q _ => ∃ (v : V) (t : B), vs = [v] ∧ BAt H v t ∧ t.size < n ∧ t.size ≤ 20 ∧ ∀ (d : Addr) (H' : Hp), Same H H' → H' d = some (.tup [vt t.pre, vt t.mid, vt t.post]) → Q (.ref d) H'
def spHid : Sp := fun vs H Q _ => ∃ (D : Deck) (n : Nat) (r : List Nat), vs = [.ref D.dk, vt r] ∧ DeckOk H D n ∧ n + 20 < 1000000 ∧ RowOk r ∧
  ∀ (z : List Nat) (c : Nat) (H' : Hp), n ≤ c → c ≤ n + 13 → DeckOk H' D c → SameD D H H' → RowOk z → z.length = r.length → Q (vt z) H'
theorem B.post_len (t : B) : t.post.length = t.size := t.wk_len .last
section
variable {P : Program} {w : World} {K : PySem.W.Frag} {mg : Str → Option Value} {base : Heap} {f : Addr} {fd : FuncData}
theorem ok_lwalks (F : Fun K "_law_walks" "_law_walks" s__law_walks f fd) (b : Binds K fd ["_law_tree_here"] []) (g : mg "_law_walks" = some (.ref f)) : ∀ n : Nat, FnOk P w K mg base CX0 n f fd ["_law_tree_here"] (spLWalks n)
  | 0 => by
    have no : ∀ vs H Q E, ¬ spLWalks 0 vs H Q E := fun vs H Q E h => by
      obtain ⟨v, t, _, _, h1, _⟩ := h
      omega
    exact ⟨fun vs H Q E h => absurd h (no vs H Q E), fun A outer s H args us vs Q E _ _ _ _ h => absurd h (no vs H Q E)⟩
  | n + 1 => by
    have Dself : Df P w K mg base n "_law_walks" ["_law_tree_here"] (spLWalks n) := ⟨f, fd, ok_lwalks F b g n, b, F.kp, g⟩
    refine F.ok sc__law_walks (fun vs H Q E h => ?_) (fun cdv A outer s H vs Q E hr h => ?_)
    · obtain ⟨v, t, rfl, _⟩ := h
      rfl
    obtain ⟨v, t, rfl, hv, hn, h20, q⟩ := h
    refine ⟨_, (pss_cons (ps_if (pt_cmpR op_isN (pv 0) pe_non (nomark _))
      (pss_one (ps_ret (pe_tup (pa_cons pe_str (pa_cons pe_str (pa_cons pe_str pa_nil)))))) pss_nil)
    (pss_cons (ps_par (i := 1) (j := 2) (by rfl) sc__law_walks.nd rfl rfl (by decide) rfl rfl (pa_cons (pe_call Dself.ok (hr.mono (by omega)) rfl Dself.g Dself.kp Dself.b .nil pass0 (pa_cons (pe_ix ix_tup (pv 0) pe_int (fun _ _ => rfl)) pa_nil)) (pa_cons (pe_call Dself.ok (hr.mono (by omega)) rfl Dself.g Dself.kp Dself.b .nil pass0 (pa_cons (pe_ix ix_tup (pv 0) pe_int (fun _ _ => rfl)) pa_nil)) pa_nil)) (by rfl))
    (pss_cons (ps_set (i := 3) sc__law_walks.nd rfl (.inl rfl) (pe_ix ix_tup (pv 0) pe_int (fun _ _ => rfl)))
    (pss_one (ps_ret (pe_tup (pa_cons (pe_op op_add_str (pe_op op_add_str (pv 3) (pe_ix ix_tup (pv 1) pe_int (fun _ _ => rfl))) (pe_ix ix_tup (pv 2) pe_int (fun _ _ => rfl))) (pa_cons (pe_op op_add_str (pe_op op_add_str (pe_ix ix_tup (pv 1) pe_int (fun _ _ => rfl)) (pv 3)) (pe_ix ix_tup (pv 2) pe_int (fun _ _ => rfl))) (pa_cons (pe_op op_add_str (pe_op op_add_str (pe_ix ix_tup (pv 1) pe_int (fun _ _ => rfl)) (pe_ix ix_tup (pv 2) pe_int (fun _ _ => rfl))) (pv 3)) pa_nil))))))))), ?_⟩
    rcases hv.inv with ⟨rfl, rfl⟩ | ⟨a, l, r, x, tl, tr, rfl, rfl, ea, hl, hr'⟩
    · refine ⟨_, rfl, rfl, _, rfl, iteT ⟨(by show 3 ≤ sizeLine; decide), fun p np => ?_⟩⟩
      refine q p _ (same_new np _) ?_
      rw [upd_same, str_0]
      rfl
    · refine ⟨_, rfl, rfl, _, rfl, iteF ?_⟩
      have sz : tl.size + 1 + tr.size < n + 1 := hn
      have s20 : tl.size + 1 + tr.size ≤ 20 := h20
      refine ⟨_, rfl, a, _, _, _, rfl, rfl, SqT.of ea, atI_nat (j := 0) rfl, l, tl, rfl, hl, by omega, by omega, fun d1 H1 s1 e1 => ?_⟩
      refine ⟨_, rfl, a, _, _, _, rfl, rfl, SqT.of (s1 _ _ ea), atI_nat (j := 2) rfl, r, tr, rfl, hr'.same s1, by omega, by omega, fun d2 H2 s2 e2 => ⟨_, _, rfl, ?_⟩⟩
      have ea2 := s2 _ _ (s1 _ _ ea)
      have e1' := s2 _ _ e1
      have l1 := tl.pre_len
      have l2 := tl.mid_len
      have l3 := tl.post_len
      have r1 := tr.pre_len
      have r2 := tr.mid_len
      have r3 := tr.post_len
      refine ⟨_, rfl, a, _, _, _, rfl, rfl, SqT.of ea2, atI_nat (j := 1) rfl, ?_⟩
      refine ⟨_, rfl, _, rfl, d1, _, _, _, rfl, rfl, SqT.of e1', atI_nat (j := 0) rfl, ?_⟩
      refine ⟨tx [x], tx tl.pre, rfl, rfl, small (by rw [tx_len, tx_len]; show 1 + _ ≤ 1000; omega), ?_⟩
      rw [tx_app]
      refine ⟨_, rfl, d2, _, _, _, rfl, rfl, SqT.of e2, atI_nat (j := 0) rfl, _, _, rfl, rfl, small (by rw [tx_len, tx_len, List.length_append]; show 1 + _ + _ ≤ 1000; omega), ?_⟩
      rw [tx_app]
      refine ⟨_, rfl, d1, _, _, _, rfl, rfl, SqT.of e1', atI_nat (j := 1) rfl, _, rfl, _, tx [x], rfl, rfl, small (by rw [tx_len, tx_len]; show _ + 1 ≤ 1000; omega), ?_⟩
      rw [tx_app]
      refine ⟨_, rfl, d2, _, _, _, rfl, rfl, SqT.of e2, atI_nat (j := 1) rfl, _, _, rfl, rfl, small (by rw [tx_len, tx_len, List.length_append]; show _ + 1 + _ ≤ 1000; omega), ?_⟩
      rw [tx_app]
      refine ⟨_, rfl, d1, _, _, _, rfl, rfl, SqT.of e1', atI_nat (j := 2) rfl, _, rfl, d2, _, _, _, rfl, rfl, SqT.of e2, atI_nat (j := 2) rfl, _, _, rfl, rfl, small (by rw [tx_len, tx_len]; omega), ?_⟩
      rw [tx_app]
      refine ⟨_, rfl, _, tx [x], rfl, rfl, small (by rw [tx_len, tx_len, List.length_append]; show _ + _ + 1 ≤ 1000; omega), ?_⟩
      rw [tx_app]
      refine ⟨(by show 3 ≤ sizeLine; decide), fun p np => q p _ (s1.trans (s2.trans (same_new np _))) ?_⟩
      rw [upd_same]
      show some (HO.tup [vt ([x] ++ tl.pre ++ tr.pre), vt (tl.mid ++ [x] ++ tr.mid), vt (tl.post ++ tr.post ++ [x])]) = some (HO.tup [vt (x :: (tl.pre ++ tr.pre)), vt (tl.mid ++ x :: tr.mid), vt (tl.post ++ tr.post ++ [x])])
      rw [List.append_assoc tl.mid]
      rfl
theorem ok_hidden (F : Fun K "_law_hidden" "_law_hidden" s__law_hidden f fd) (M : Mgs mg) (D_law_draw : Df P w K mg base 1 "_law_draw" ["_law_deck_here", "_law_many"] spDraw) : FnOk P w K mg base CX0 2 f fd ["_law_deck_here", "_law_row"] spHid := by
  refine F.ok sc__law_hidden (fun vs H Q E h => ?_) (fun cdv A outer s H vs Q E hr h => ?_)
  · obtain ⟨D, n, r, rfl, _⟩ := h
    rfl
  obtain ⟨D, n, r, rfl, d, hn, ok, q⟩ := h
  have r0 : 0 < r.length := List.length_pos_iff.mpr ok.ne
  have r12 := ok.few
  refine ⟨_, (pss_cons (ps_set (i := 2) sc__law_hidden.nd rfl (.inl rfl) (pe_call D_law_draw.ok (hr.mono (by omega)) rfl D_law_draw.g D_law_draw.kp D_law_draw.b .nil pass0 (pa_cons (pv 0) (pa_cons pe_int pa_nil))))
    (pss_cons (ps_if (pt_cmpR op_eq (pv 2) pe_int (nomark _))
      (pss_one (ps_ret (pv 1))) pss_nil)
    (pss_cons (ps_if (pt_cmpR op_eq (pv 2) pe_int (nomark _))
      (pss_one (ps_ret (pe_op op_timesS pe_str (pe_callB call_len_str rfl M.len PySem.boot_len (pa_cons (pv 1) pa_nil))))) pss_nil)
    (pss_one (ps_ret (pe_bm PySem.F.plainAttrs_str PySem.F.slot_str_join PySem.F.type_str_join mt_join pe_str (pa_cons (pe_lc (own := [("_law_sign", 3)]) (g := gName 3) (tt := tYes) rfl sc__law_hidden.nd (pi_str (pv 1)) (blkOk_by (N := ["_law_deck_here", "_law_row", "_law_way", "_law_sign"]) (sc := defScope s__law_hidden) (by decide +kernel)) (fun _ _ _ _ _ => (pg_name (i := 3) sc__law_hidden.nd rfl (.inl rfl))) (fun _ _ _ _ _ => pts_nil) (fun _ _ _ _ _ => (pe_ix (show IxR _ (rIxL K) from ix_list) (pe_lst (pa_cons (pv 3) (pa_cons pe_str pa_nil))) (pe_callTy call_int1 rfl M.int (by decide +kernel) (pa_cons (pe_cmpR op_eq (pe_call D_law_draw.ok (hr.mono (by omega)) rfl D_law_draw.g D_law_draw.kp D_law_draw.b .nil pass0 (pa_cons (pv 0) (pa_cons pe_int pa_nil))) pe_int (nomark _)) pa_nil)) (fun _ _ => rfl)))) pa_nil))))))), ?_⟩
  refine ⟨_, rfl, D, n, _, rfl, d, by omega, by decide, by decide, fun i H1 i0 i1 d1 s1 => ?_⟩
  refine ⟨_, rfl, rfl, _, rfl, ite2 (fun _ => ?_) (fun _ => ?_)⟩
  · exact ⟨_, rfl, q r (n + 1) H1 (by omega) (by omega) d1 s1 ok rfl⟩
  refine ⟨_, rfl, rfl, _, rfl, ite2 (fun _ => ?_) (fun _ => ?_)⟩
  · refine ⟨_, rfl, _, rfl, small (by rw [tx_len]; omega), 63, r.length, ?_, rfl, by omega, by omega, ?_⟩
    · rw [str_q]; rfl
    · exact q (List.replicate r.length 63) (n + 1) H1 (by omega) (by omega) d1 s1 ⟨by intro e; have := congrArg List.length e; rw [List.length_replicate] at this; exact absurd this (by show ¬ (r.length = 0); omega), by rw [List.length_replicate]; exact r12, fun c hc => .inl (List.eq_of_mem_replicate hc)⟩ List.length_replicate
  refine ⟨rfl, _, rfl, _, rfl, fun L nL => ?_⟩
  have nLH : H L = none := s1.free d1 nL
  refine lc_text (x := tx r) (fun j H' => ∃ xs : List Nat, xs.length = j ∧ DeckOk H' D (n + 1 + j) ∧ SameD D H H' ∧ H' L = some (.lst (xs.map vc)) ∧ Off D L ∧ ∀ c ∈ xs, sgn c) ⟨[], rfl, d1.same (same_new nL _), s1.put nLH _, upd_same, d1.new nL, fun c h => nomatch h⟩ (fun j c H' hc hp => ?_) (fun H4 hp => ?_)
  · obtain ⟨xs, hx, d4, s5, eL, oL, lo⟩ := hp
    have hc : r[j]? = some c := hc
    have hj := (List.getElem?_eq_some_iff.mp hc).1
    have sg := ok.all c (List.mem_of_getElem? hc)
    refine ⟨rfl, kept ?_⟩
    refine ⟨_, rfl, (by show 2 ≤ sizeLine; decide), fun p np => ?_⟩
    have kp := same_new np (.lst [vc c, V.str (Str.ofString "?")])
    have ep := upd_same (H := H') (a := p) (o := .lst [vc c, V.str (Str.ofString "?")])
    have op := d4.new np
    have eL2 := kp _ _ eL
    have d5 := d4.same kp
    have s6 := s5.trans (SameD.of kp)
    generalize upd H' p (.lst [vc c, V.str (Str.ofString "?")]) = H5 at ep eL2 d5 s6
    refine ⟨_, rfl, D, n + 1 + j, _, rfl, d5, by omega, by decide, by decide, fun i9 H6 i90 i91 d6 s7 => ?_⟩
    have out : ∀ e : Nat, sgn e → ∃ acc, H6 L = some (.lst acc) ∧ acc.length < sizeLine ∧ (∃ xs : List Nat, xs.length = j + 1 ∧ DeckOk (upd H6 L (.lst (acc ++ [vc e]))) D (n + 1 + (j + 1)) ∧ SameD D H (upd H6 L (.lst (acc ++ [vc e]))) ∧ upd H6 L (.lst (acc ++ [vc e])) L = some (.lst (xs.map vc)) ∧ Off D L ∧ ∀ c ∈ xs, sgn c) := fun e he => by
      refine ⟨_, s7.at oL eL2, ?_, xs ++ [e], by rw [List.length_append, hx]; rfl, d6.put oL _, (s6.trans s7).put nLH _, by rw [upd_same, List.map_append]; rfl, oL, fun c hc => ?_⟩
      · rw [List.length_map]; exact small1000 (by omega)
      · rcases List.mem_append.mp hc with hc | hc
        · exact lo c hc
        · rw [List.mem_singleton.mp hc]; exact he
    refine ⟨rfl, .inr ⟨_, rfl, ?_⟩⟩
    by_cases hb : i9 = 0
    · rw [show (if decide (V.int i9 = V.int 0) = true then (1 : Int) else 0) = 1 by rw [hb]; rfl]
      refine ⟨p, _, 1, V.str (Str.ofString "?"), rfl, rfl, SqL.of (s7.at op ep), atI_nat (j := 1) rfl, ?_⟩
      rw [str_q]
      exact out 63 (.inl rfl)
    · rw [show (if decide (V.int i9 = V.int 0) = true then (1 : Int) else 0) = 0 by rw [decide_eq_false (fun z => hb (V.int.inj z))]; rfl]
      exact ⟨p, _, 0, vc c, rfl, rfl, SqL.of (s7.at op ep), atI_nat (j := 0) rfl, out c sg⟩
  obtain ⟨xs, hx, d4, s5, eL, oL, lo⟩ := hp
  have hx : xs.length = r.length := hx
  have eL2 : H4 L = some (.lst ((xs.map ch).map V.str)) := by rw [eL, map_vc]
  refine ⟨_, L, xs.map ch, rfl, rfl, .inl (SqL.of eL2), tx_joinOk _ (by omega), ?_⟩
  rw [tx_join]
  exact q xs (n + 1 + r.length) H4 (by omega) (by omega) d4 s5 ⟨fun e => by rw [e] at hx; exact absurd hx (by show ¬ (0 = r.length); omega), by omega, lo⟩ hx
end
/-! ### _law_rows, _law_is_like -/
def spLRows : Sp := fun vs H Q _ => ∃ (D : Deck) (n m : Nat), vs = [.ref D.dk, .int (m : Int)] ∧ DeckOk H D n ∧ n + 200 < 1000000 ∧ 0 < m ∧ m ≤ 12 ∧
  ∀ (p : Addr) (a b c : List Nat) (e : Nat) (H' : Hp), n ≤ e → e ≤ n + 110 → DeckOk H' D e → SameD D H H' → H' p = some (.tup [vt a, vt b, vt c]) → RowOk a → RowOk b → RowOk c → b.length = a.length → c.length = a.length → Q (.ref p) H'
def spLike : Sp := fun vs H Q _ => ∃ r x : List Nat, vs = [vt r, vt x] ∧ r.length ≤ 12 ∧ x.length ≤ 30 ∧ ∀ H', Same H H' → Q (.bl (decide (r.length = x.length) && fit r x)) H'
theorem DeckOk.of_tup {H : Hp} {D : Deck} {n : Nat} {p : Addr} {xs : List V} (d : DeckOk H D n) (e : H p = some (.tup xs)) : Off D p := by
  obtain ⟨c, r, h1, h2, h3, _⟩ := d.ex
  refine ⟨fun z => ?_, fun z => ?_, fun z => ?_⟩
  · rw [z, h1] at e
    cases e
  · rw [z, h2] at e
    cases e
  · rw [z, h3] at e
    cases e
theorem B.post_mem (t : B) (c : Nat) : c ∈ t.post ↔ c ∈ t.pre := by
  induction t with
  | nil => exact Iff.rfl
  | node l x r h1 h2 =>
    show c ∈ l.post ++ r.post ++ [x] ↔ c ∈ x :: (l.pre ++ r.pre)
    rw [List.mem_append, List.mem_append, List.mem_singleton, List.mem_cons, List.mem_append, h1, h2]
    constructor
    · rintro ((h | h) | h)
      · exact .inr (.inl h)
      · exact .inr (.inr h)
      · exact .inl h
    · rintro (h | h | h)
      · exact .inr h
      · exact .inl (.inl h)
      · exact .inl (.inr h)
theorem wk_row {t : B} (lo : lowT t) (ne : t ≠ .nil) (h : t.size ≤ 12) (k : Kd) : RowOk (t.wk k) ∧ (t.wk k).length = t.size := by
  have l := t.wk_len k
  have s0 : 0 < t.size := by
    cases t with
    | nil => exact absurd rfl ne
    | node a x b => show 0 < a.size + 1 + b.size; omega
  refine ⟨⟨fun e => by rw [e] at l; exact absurd l (by show ¬ (0 = t.size); omega), by omega, fun c hc => .inr (lo c ?_)⟩, l⟩
  cases k
  · exact hc
  · exact (t.mid_mem c).mp hc
  · exact (t.post_mem c).mp hc
theorem wk_at {t : B} {i : Nat} {x : V} (h : [vt t.pre, vt t.mid, vt t.post][i]? = some x) : ∃ k : Kd, x = vt (t.wk k) := by
  match i, h with
  | 0, h => cases h; exact ⟨.first, rfl⟩
  | 1, h => cases h; exact ⟨.between, rfl⟩
  | 2, h => cases h; exact ⟨.last, rfl⟩
theorem abzq {y : Nat} (h : y < 4) : ∃ c, atI (Str.ofString "abz?").cps.toList (y : Int) = some c ∧ sgn c := by
  have e : (Str.ofString "abz?").cps.toList = [97, 98, 122, 63] := by decide +kernel
  rw [e]
  have h4 : y = 0 ∨ y = 1 ∨ y = 2 ∨ y = 3 := by omega
  rcases h4 with rfl | rfl | rfl | rfl
  · exact ⟨97, rfl, .inr (by decide)⟩
  · exact ⟨98, rfl, .inr (by decide)⟩
  · exact ⟨122, rfl, .inr (by decide)⟩
  · exact ⟨63, rfl, .inl rfl⟩
theorem row_put {r : List Nat} {s c : Nat} (ok : RowOk r) (h : s < r.length) (hc : sgn c) : RowOk (r.take s ++ [c] ++ r.drop (s + 1)) ∧ (r.take s ++ [c] ++ r.drop (s + 1)).length = r.length := by
  have l : (r.take s ++ [c] ++ r.drop (s + 1)).length = r.length := by
    rw [List.length_append, List.length_append, List.length_take, List.length_drop]
    show min s r.length + 1 + (r.length - (s + 1)) = r.length
    omega
  have few := ok.few
  refine ⟨⟨fun e => by rw [e] at l; exact absurd l (by show ¬ (0 = r.length); omega), by omega, fun d hd => ?_⟩, l⟩
  rcases List.mem_append.mp hd with hd | hd
  · rcases List.mem_append.mp hd with hd | hd
    · exact ok.all d (List.mem_of_mem_take hd)
    · rw [List.mem_singleton.mp hd]; exact hc
  · exact ok.all d (List.mem_of_mem_drop hd)
section
variable {P : Program} {w : World} {K : PySem.W.Frag} {mg : Str → Option Value} {base : Heap} {f : Addr} {fd : FuncData}
theorem ok_lrows (F : Fun K "_law_rows" "_law_rows" s__law_rows f fd) (M : Mgs mg) (D_law_draw : Df P w K mg base 1 "_law_draw" ["_law_deck_here", "_law_many"] spDraw) (D_law_tree : Df P w K mg base 52 "_law_tree" ["_law_deck_here", "_law_most"] spTree)
    (D_law_walks : Df P w K mg base 21 "_law_walks" ["_law_tree_here"] (spLWalks 21)) (D_law_hidden : Df P w K mg base 2 "_law_hidden" ["_law_deck_here", "_law_row"] spHid) : FnOk P w K mg base CX0 53 f fd ["_law_deck_here", "_law_most"] spLRows := by
  refine F.ok sc__law_rows (fun vs H Q E h => ?_) (fun cdv A outer s H vs Q E hr h => ?_)
  · obtain ⟨D, n, m, rfl, _⟩ := h
    rfl
  obtain ⟨D, n, m, rfl, d, hn, m0, m12, q⟩ := h
  refine ⟨_, (pss_cons (ps_setLc (i := 3) (own := [("_law_row", 2)]) (g := gName 2) (tt := tYes) (by rfl) sc__law_rows.nd rfl rfl (sw_true rfl rfl rfl (by decide +kernel)) (pi_tup (pe_call D_law_walks.ok (hr.mono (by omega)) rfl D_law_walks.g D_law_walks.kp D_law_walks.b .nil pass0 (pa_cons (pe_call D_law_tree.ok (hr.mono (by omega)) rfl D_law_tree.g D_law_tree.kp D_law_tree.b .nil pass0 (pa_cons (pv 0) (pa_cons (pv 1) pa_nil))) pa_nil))) (blkOk_by (N := ["_law_deck_here", "_law_most", "_law_row", "_law_rows_here", "_law_which", "_law_spot"]) (sc := defScope s__law_rows) (by decide +kernel)) (fun _ _ _ _ _ => (pg_name (i := 2) sc__law_rows.nd rfl (.inl rfl))) (fun _ _ _ _ _ => pts_nil) (fun _ _ _ _ _ => (pe_call D_law_hidden.ok (hr.mono (by omega)) rfl D_law_hidden.g D_law_hidden.kp D_law_hidden.b .nil pass0 (pa_cons (pv 0) (pa_cons (pv 2) pa_nil)))))
    (pss_cons (ps_if (pt_cmpR op_eq (pe_call D_law_draw.ok (hr.mono (by omega)) rfl D_law_draw.g D_law_draw.kp D_law_draw.b .nil pass0 (pa_cons (pv 0) (pa_cons pe_int pa_nil))) pe_int (nomark _))
      (pss_cons (ps_par (i := 4) (j := 5) (by rfl) sc__law_rows.nd rfl rfl (by decide) rfl rfl (pa_cons (pe_call D_law_draw.ok (hr.mono (by omega)) rfl D_law_draw.g D_law_draw.kp D_law_draw.b .nil pass0 (pa_cons (pv 0) (pa_cons pe_int pa_nil))) (pa_cons (pe_call D_law_draw.ok (hr.mono (by omega)) rfl D_law_draw.g D_law_draw.kp D_law_draw.b .nil pass0 (pa_cons (pv 0) (pa_cons (pe_callB call_len_str rfl M.len PySem.boot_len (pa_cons (pe_ix ix_list (pv 3) pe_int (fun _ _ => rfl)) pa_nil)) pa_nil))) pa_nil)) (by rfl))
    (pss_one (ps_asg (pe_op op_add_str (pe_op op_add_str (pe_slice sl_str (pe_ix ix_list (pv 3) (pv 4) (fun _ _ => rfl)) po_none (po_some (pv 5))) (pe_ix ix_str pe_str (pe_call D_law_draw.ok (hr.mono (by omega)) rfl D_law_draw.g D_law_draw.kp D_law_draw.b .nil pass0 (pa_cons (pv 0) (pa_cons pe_int pa_nil))) (fun _ _ => rfl))) (pe_slice sl_str (pe_ix ix_list (pv 3) (pv 4) (fun _ _ => rfl)) (po_some (pe_op op_add (pv 5) pe_int)) po_none)) (pg_sub (pv 3) (pv 4) set_list)))) pss_nil)
    (pss_one (ps_ret (pe_tup (pa_cons (pe_ix ix_list (pv 3) pe_int (fun _ _ => rfl)) (pa_cons (pe_ix ix_list (pv 3) pe_int (fun _ _ => rfl)) (pa_cons (pe_ix ix_list (pv 3) pe_int (fun _ _ => rfl)) pa_nil)))))))), ?_⟩
  refine ⟨_, rfl, _, rfl, D, n, m, rfl, d, by omega, m0, m12, fun u t c H1 c0 c1 d1 s1 hb tne tz lo => ?_⟩
  refine ⟨u, t, rfl, hb, by omega, by omega, fun p H2 s2 ep => ?_⟩
  refine ⟨p, rfl, ⟨_, SqT.of ep⟩, fun L nL => ?_⟩
  have d2 := d1.same s2
  have s3 := s1.trans (SameD.of s2)
  have nLH : H L = none := s3.free d2 nL
  have op := d2.of_tup ep
  refine lc_tup (K := K) (a := p) (xs := [vt t.pre, vt t.mid, vt t.post]) (fun j H' => ∃ (xs : List (List Nat)) (e : Nat), xs.length = j ∧ c ≤ e ∧ e ≤ c + 13 * j ∧ DeckOk H' D e ∧ SameD D H H' ∧ H' p = some (.tup [vt t.pre, vt t.mid, vt t.post]) ∧ H' L = some (.lst (xs.map vt)) ∧ Off D L ∧ ∀ x ∈ xs, RowOk x ∧ x.length = t.size)
    ⟨[], c, rfl, by omega, by omega, d2.same (same_new nL _), s3.put nLH _, (same_new nL _) _ _ ep, upd_same, d2.new nL, fun c h => nomatch h⟩ (fun j H' _ hp => by obtain ⟨_, _, _, _, _, _, _, e, _⟩ := hp; exact SqT.of e) (fun j x H' hx hp => ?_) (fun H4 hp => ?_)
  · obtain ⟨xs, e, hl, e0, e1, d4, s4, ep4, eL, oL, all⟩ := hp
    obtain ⟨k, rfl⟩ := wk_at hx
    obtain ⟨rk, rl⟩ := wk_row lo tne (by omega) k
    have j3 : j < 3 := (List.getElem?_eq_some_iff.mp hx).1
    refine ⟨rfl, kept ?_⟩
    refine ⟨_, rfl, _, rfl, D, e, _, rfl, d4, by omega, rk, fun z e' H5 e2 e3 d5 s5 okz lz => ?_⟩
    refine ⟨_, s5.at oL eL, ?_, xs ++ [z], e', by rw [List.length_append, hl]; rfl, by omega, by omega, d5.put oL _, (s4.trans s5).put nLH _, ?_, by rw [upd_same, List.map_append]; rfl, oL, fun y hy => ?_⟩
    · rw [List.length_map]; exact small1000 (by omega)
    · rw [upd_ne (fun z => by rw [z] at ep4; rw [eL] at ep4; cases ep4)]
      exact s5.at op ep4
    · rcases List.mem_append.mp hy with hy | hy
      · exact all y hy
      · rw [List.mem_singleton.mp hy]
        exact ⟨okz, by rw [lz, rl]⟩
  obtain ⟨xs, e, hl, e0, e1, d4, s4, ep4, eL, oL, all⟩ := hp
  obtain ⟨x0, x1, x2, rfl⟩ : ∃ x0 x1 x2, xs = [x0, x1, x2] := by
    match xs, hl with
    | [x0, x1, x2], _ => exact ⟨_, _, _, rfl⟩
  have e1' : e ≤ c + 39 := e1
  refine ⟨_, rfl, D, e, _, rfl, d4, by omega, by decide, by decide, fun i H5 i0 i1 d5 s5 => ⟨rfl, _, rfl, ?_⟩⟩
  have eL5 := s5.at oL eL
  have s6 := s4.trans s5
  have a0 := all x0 List.mem_cons_self
  have a1 := all x1 (List.mem_cons_of_mem _ List.mem_cons_self)
  have a2 := all x2 (List.mem_cons_of_mem _ (List.mem_cons_of_mem _ List.mem_cons_self))
  have t0 : 0 < t.size := by rw [← a0.2]; exact List.length_pos_iff.mpr a0.1.ne
  refine ite2 (fun _ => ?_) (fun _ => ?_)
  · refine ⟨_, rfl, D, e + 1, _, rfl, d5, by omega, by decide, by decide, fun w1 H6 w10 w11 d6 s7 => ?_⟩
    have eL6 := s7.at oL eL5
    refine ⟨_, rfl, _, rfl, L, _, _, _, rfl, rfl, SqL.of eL6, atI_nat (j := 0) rfl, _, rfl, small (by rw [tx_len, a0.2]; omega), D, e + 2, _, rfl, d6, by omega, by rw [tx_len, a0.2]; omega, by rw [tx_len, a0.2]; omega, fun w2 H7 w20 w21 d7 s8 => ⟨_, _, rfl, ?_⟩⟩
    rw [tx_len, a0.2] at w21
    have eL7 := s8.at oL eL6
    obtain ⟨j, rfl⟩ : ∃ j : Nat, w1 = (j : Int) := ⟨w1.toNat, by omega⟩
    obtain ⟨k, rfl⟩ : ∃ k : Nat, w2 = (k : Int) := ⟨w2.toNat, by omega⟩
    obtain ⟨xj, hj⟩ : ∃ xj, [x0, x1, x2][j]? = some xj := ⟨_, List.getElem?_eq_getElem (show j < 3 by omega)⟩
    have oj := all xj (List.mem_of_getElem? hj)
    have lj : (tx xj).length ≤ sizeLine := small (by rw [tx_len, oj.2]; omega)
    have hat : atI ([x0, x1, x2].map vt) (j : Int) = some (vt xj) := atI_nat (by rw [List.getElem?_map, hj]; rfl)
    refine ⟨_, rfl, _, rfl, L, _, _, _, rfl, rfl, SqL.of eL7, hat, ?_⟩
    refine ⟨_, rfl, (k : Int), rfl, _, rfl, lj, ?_⟩
    rw [tx_to]
    refine ⟨_, rfl, D, e + 3, _, rfl, d7, by omega, by decide, by decide, fun w3 H8 w30 w31 d8 s9 => ?_⟩
    obtain ⟨y, rfl⟩ : ∃ y : Nat, w3 = (y : Int) := ⟨w3.toNat, by omega⟩
    obtain ⟨cc, hcc, hsg⟩ := abzq (show y < 4 by omega)
    refine ⟨_, _, _, rfl, rfl, (by decide +kernel), hcc, ?_⟩
    refine ⟨_, tx [cc], rfl, rfl, small (by rw [tx_len, tx_len, List.length_take]; show _ + 1 ≤ 1000; omega), ?_⟩
    rw [tx_app]
    have eL8 := s9.at oL eL7
    refine ⟨_, rfl, _, rfl, L, _, _, _, rfl, rfl, SqL.of eL8, hat, ?_⟩
    refine ⟨_, rfl, _, _, rfl, rfl, ((k + 1 : Nat) : Int), rfl, _, rfl, lj, ?_⟩
    rw [tx_from]
    refine ⟨_, _, rfl, rfl, small (by rw [tx_len, tx_len, List.length_append, List.length_take, List.length_drop]; show _ + 1 + _ ≤ 1000; omega), ?_⟩
    rw [tx_app]
    have row := row_put oj.1 (s := k) (c := cc) (by rw [oj.2]; omega) hsg
    refine ⟨_, rfl, _, rfl, L, _, _, j, rfl, rfl, eL8, ?_, ?_⟩
    · exact (ixN_nat (n := 3) (i := (j : Int)) (by omega) (by omega)).trans (by rw [Int.toNat_natCast])
    obtain ⟨y0, y1, y2, ey, ally⟩ : ∃ y0 y1 y2, ([x0, x1, x2].map vt).set j (vt (xj.take k ++ [cc] ++ xj.drop (k + 1))) = [vt y0, vt y1, vt y2] ∧ ∀ x ∈ [y0, y1, y2], RowOk x ∧ x.length = t.size := by
      have rw' := row.2.trans oj.2
      have h3 : j = 0 ∨ j = 1 ∨ j = 2 := by omega
      rcases h3 with rfl | rfl | rfl
      · refine ⟨_, x1, x2, rfl, fun x hx => ?_⟩
        rcases List.mem_cons.mp hx with rfl | hx
        · exact ⟨row.1, rw'⟩
        · exact all x (List.mem_cons_of_mem _ hx)
      · refine ⟨x0, _, x2, rfl, fun x hx => ?_⟩
        rcases List.mem_cons.mp hx with rfl | hx
        · exact a0
        rcases List.mem_cons.mp hx with rfl | hx
        · exact ⟨row.1, rw'⟩
        · rw [List.mem_singleton.mp hx]; exact a2
      · refine ⟨x0, x1, _, rfl, fun x hx => ?_⟩
        rcases List.mem_cons.mp hx with rfl | hx
        · exact a0
        rcases List.mem_cons.mp hx with rfl | hx
        · exact a1
        · rw [List.mem_singleton.mp hx]; exact ⟨row.1, rw'⟩
    have b0 := ally y0 List.mem_cons_self
    have b1 := ally y1 (List.mem_cons_of_mem _ List.mem_cons_self)
    have b2 := ally y2 (List.mem_cons_of_mem _ (List.mem_cons_of_mem _ List.mem_cons_self))
    have sE := ((s6.trans s7).trans (s8.trans s9)).put nLH (.lst (([x0, x1, x2].map vt).set j (vt (xj.take k ++ [cc] ++ xj.drop (k + 1)))))
    have dE := d8.put oL (.lst (([x0, x1, x2].map vt).set j (vt (xj.take k ++ [cc] ++ xj.drop (k + 1)))))
    have ez : (upd H8 L (.lst (([x0, x1, x2].map vt).set j (vt (xj.take k ++ [cc] ++ xj.drop (k + 1)))))) L = some (.lst [vt y0, vt y1, vt y2]) := by rw [upd_same, ey]
    refine ⟨_, rfl, L, _, _, _, rfl, rfl, SqL.of ez, atI_nat (j := 0) rfl, _, rfl, L, _, _, _, rfl, rfl, SqL.of ez, atI_nat (j := 1) rfl, _, rfl, L, _, _, _, rfl, rfl, SqL.of ez, atI_nat (j := 2) rfl, (by show 3 ≤ sizeLine; decide), fun z nz => ?_⟩
    exact q z y0 y1 y2 (e + 3 + 1) _ (by omega) (by omega) (dE.same (same_new nz _)) (sE.trans (SameD.of (same_new nz _))) upd_same b0.1 b1.1 b2.1 (by rw [b0.2, b1.2]) (by rw [b0.2, b2.2])
  · refine ⟨_, rfl, L, _, _, _, rfl, rfl, SqL.of eL5, atI_nat (j := 0) rfl, _, rfl, L, _, _, _, rfl, rfl, SqL.of eL5, atI_nat (j := 1) rfl, _, rfl, L, _, _, _, rfl, rfl, SqL.of eL5, atI_nat (j := 2) rfl, (by show 3 ≤ sizeLine; decide), fun z nz => ?_⟩
    exact q z x0 x1 x2 (e + 1) _ (by omega) (by omega) (d5.same (same_new nz _)) (s6.trans (SameD.of (same_new nz _))) upd_same a0.1 a1.1 a2.1 (by rw [a0.2, a1.2]) (by rw [a0.2, a2.2])
end
/-! ### _law_is_like -/
theorem op_eqL {X : Cx} (hu : X.A.units < cLine) : OpR X (compareOp .Eq) (fun x y H Q => ∃ a b xs, x = .ref a ∧ y = .ref b ∧ SqL X.K H a xs ∧ SqL X.K H b [] ∧ Q (.bl xs.isEmpty) H) := by
  intro pins s σ H x y v u Q I rx ry h
  obtain ⟨a, b, xs, rfl, rfl, hx, hy, q⟩ := h
  cases rx
  cases ry
  obtain ⟨its, r1, t1, _⟩ := I.list hx
  obtain ⟨its2, r2, t2, _⟩ := I.list hy
  cases r2
  cases r1 with
  | nil =>
    have rc := SeqAt.RcAt.lists (A := X.A) (s := s) (items := ([] : List Value).toArray) (items2 := ([] : List Value).toArray) (e := fun _ => true) t1.isList t2.isList rfl hu (fun j h1 _ => absurd h1 (by simp))
    exact rc X.prog X.w X.xe _ ⟨.bl _, H, I, rfl, q⟩
  | cons _ _ =>
    have rc := SeqAt.RcAt.lists_lengths (A := X.A) (s := s) t1.isList t2.isList (by simp) hu
    exact rc X.prog X.w X.xe _ ⟨.bl _, H, I, rfl, q⟩
def missL (l : List Bool) : List V := (l.filter fun b => !b).map fun _ => V.int 1
theorem miss_empty : ∀ l : List Bool, (missL l).isEmpty = l.all id
  | [] => rfl
  | true :: l => by
    show (missL l).isEmpty = _
    rw [miss_empty l]
    rfl
  | false :: l => rfl
theorem miss_next {l : List Bool} {j : Nat} {b : Bool} (h : l[j]? = some b) : missL (l.take (j + 1)) = missL (l.take j) ++ (if b = true then [] else [V.int 1]) := by
  unfold missL
  rw [take_next h, List.filter_append, List.map_append]
  cases b <;> rfl
theorem miss_len (l : List Bool) : (missL l).length ≤ l.length := by
  unfold missL
  rw [List.length_map]
  exact List.length_filter_le _ _
section
variable {P : Program} {w : World} {K : PySem.W.Frag} {mg : Str → Option Value} {base : Heap} {f : Addr} {fd : FuncData}
theorem ok_like (F : Fun K "_law_is_like" "_law_is_like" s__law_is_like f fd) (M : Mgs mg) : FnOk P w K mg base CX0 1 f fd ["_law_row", "_law_text"] spLike := by
  refine F.ok sc__law_is_like (fun vs H Q E h => ?_) (fun cdv A outer s H vs Q E hr h => ?_)
  · obtain ⟨r, x, rfl, _⟩ := h
    rfl
  obtain ⟨r, x, rfl, lr, lx, q⟩ := h
  refine ⟨_, (pss_one (ps_ret (pe_and (pe_cmpR op_eq (pe_callB call_len_str rfl M.len PySem.boot_len (pa_cons (pv 0) pa_nil)) (pe_callB call_len_str rfl M.len PySem.boot_len (pa_cons (pv 1) pa_nil)) (nomark _)) (pe_one (pe_cmpR (op_eqL hr.units0) (pe_lc (own := [("_law_one", 2), ("_law_other", 3)]) (g := gTup K 2 (gCons (gName 2) (gCons (gName 3) gNil))) rfl sc__law_is_like.nd (pi_zipS rfl M.zip (pa_cons (pv 0) (pa_cons (pv 1) pa_nil))) (blkOk_by (N := ["_law_row", "_law_text", "_law_one", "_law_other"]) (sc := defScope s__law_is_like) (by decide +kernel)) (fun _ _ _ _ _ => (pg_tup rfl (pgs_cons (pg_name (i := 2) sc__law_is_like.nd rfl (.inl rfl)) (pgs_cons (pg_name (i := 3) sc__law_is_like.nd rfl (.inl rfl)) pgs_nil)))) (fun _ _ _ _ _ => pts_one (pt_cmpR (show OpR _ (compareOp .NotIn) (rIn K true) from op_notIn_seq) (pv 2) (pe_tup (pa_cons pe_str (pa_cons (pv 3) pa_nil))) (by rfl))) (fun _ _ _ _ _ => pe_int)) (pe_lst pa_nil) (nomark _)))))), ?_⟩
  refine ⟨_, rfl, _, rfl, small (by rw [tx_len]; omega), _, rfl, _, rfl, small (by rw [tx_len]; omega), rfl, _, rfl, ?_⟩
  rw [tx_len, tx_len]
  by_cases hl : r.length = x.length
  · rw [show decide (V.int (r.length : Int) = V.int (x.length : Int)) = true by rw [hl]; exact decide_eq_true rfl]
    rw [decide_eq_true hl] at q
    refine iteT ⟨_, rfl, _, rfl, _, _, rfl, fun D nD => ?_⟩
    have kD := same_new nD (.lst [])
    refine lc_it (walk_zipS (x := tx r) (y := tx x) rfl) (fun j H' => Same H H' ∧ H' D = some (.lst (missL ((tst r x).take j)))) ⟨kD, upd_same⟩ (fun _ _ _ _ => trivial) (fun j y H3 H3' hj hp hy => ?_) (fun H3 hp => ?_)
    · obtain ⟨s4, eD3⟩ := hp
      obtain ⟨q1, e, l, rfl, nq, rfl, he, hl'⟩ := hy
      have he' : r[j]? = some e := by rw [← he]; simp [tx]
      have hl'' : x[j]? = some l := by rw [← hl']; simp [tx]
      have hz : (tst r x)[j]? = some (decide (e = 63) || decide (e = l)) := by
        unfold tst
        rw [List.getElem?_map, List.getElem?_zip_eq_some (z := (e, l)) |>.mpr ⟨he', hl''⟩]
        rfl
      have kq := same_new nq (.tup [vc e, vc l])
      refine ⟨q1, _, rfl, SqT.of upd_same, rfl, _, _, rfl, _, _, rfl, rfl, rfl, ?_⟩
      refine ⟨_, rfl, _, rfl, (by show 2 ≤ sizeLine; decide), fun m nm => ⟨m, _, rfl, .inr (SqT.of upd_same), rfl, rfl, _, rfl, ?_⟩⟩
      have ev : (if true = true then !inV (.str ⟨#[e]⟩) [V.str (Str.ofString "?"), .str ⟨#[l]⟩] else inV (.str ⟨#[e]⟩) [V.str (Str.ofString "?"), .str ⟨#[l]⟩]) = !(decide (e = 63) || decide (e = l)) := by
        rw [str_q]
        exact congrArg (!·) (in_two e l)
      rw [ev]
      have km := same_new nm (.tup [V.str (Str.ofString "?"), vc l])
      have sm := (s4.trans kq).trans km
      have eD4 := km _ _ (kq _ _ eD3)
      have mn := miss_next hz
      cases hb : (decide (e = 63) || decide (e = l)) with
      | true =>
        rw [hb] at mn
        refine ⟨sm, ?_⟩
        show _ = _
        rw [mn, if_pos rfl, List.append_nil]
        exact eD4
      | false =>
        rw [hb] at mn
        refine ⟨_, eD4, ?_, fun b' o e' => ?_, ?_⟩
        · have h1 := miss_len ((tst r x).take j)
          rw [List.length_take] at h1
          have h2 := tst_len r x
          exact small1000 (by omega)
        · rw [upd_ne (ne_of_none e' nD)]; exact sm _ _ e'
        · rw [upd_same, mn]; rfl
    · obtain ⟨s4, eD⟩ := hp
      have e1 : (tst r x).take (min (tx r).cps.size (tx x).cps.size) = tst r x := by
        refine List.take_of_length_le ?_
        unfold tst
        rw [List.length_map, List.length_zip, tx_size, tx_size]
        exact Nat.le_refl _
      rw [e1] at eD
      refine ⟨(by show 0 ≤ sizeLine; decide), fun z nz => ⟨D, z, _, rfl, rfl, SqL.of ((same_new nz _) _ _ eD), SqL.of upd_same, ?_⟩⟩
      rw [miss_empty]
      exact q _ (s4.trans (same_new nz _))
  · rw [decide_eq_false (fun z => hl (by have := V.int.inj z; omega))]
    rw [decide_eq_false hl] at q
    exact iteF (q H (Same.refl _))
end
/-! ### law -/
theorem B.data_depth : ∀ t : B, t.data.depth = t.deep
  | .nil => by simp only [B.data, PyData.depth, B.deep]
  | .node l x r => by
    simp only [B.data, PyData.depth, PyData.depthAll, B.deep, l.data_depth, r.data_depth]
    omega
theorem okR_ch {c : Nat} (h : c < 128) : okR (.str (ch c)) = true := by
  simp only [okR, Bool.and_eq_true, decide_eq_true_eq, List.all_eq_true]
  refine ⟨by show 1 ≤ 64; decide, fun z hz => ?_⟩
  have : z = c := by simpa using hz
  omega
theorem okR_tree : ∀ t : B, lowT t → okR t.data = true ∧ wtR t.data ≤ 25 * t.size + 4
  | .nil, _ => by simp only [B.data, okR, wtR]; exact ⟨trivial, Nat.le_add_left ..⟩
  | .node l x r, h => by
    obtain ⟨a1, a2⟩ := okR_tree l fun c hc => h c (List.mem_cons_of_mem _ (List.mem_append_left _ hc))
    obtain ⟨b1, b2⟩ := okR_tree r fun c hc => h c (List.mem_cons_of_mem _ (List.mem_append_right _ hc))
    have hx := h x List.mem_cons_self
    have e1 : okR (.str (ch x)) = true := okR_ch (by omega)
    have e2 : wtR (.str (ch x)) = 12 := rfl
    simp only [B.data, okR, okRs, a1, b1, Bool.and_true, Bool.true_and]
    refine ⟨by simpa only [okR] using e1, ?_⟩
    show wtR (.tuple [l.data, .str (ch x), r.data]) ≤ 25 * (l.size + 1 + r.size) + 4
    have e3 : wtR (.tuple [l.data, .str (ch x), r.data]) = 3 + (wtR l.data + 2 + (wtR (.str (ch x)) + 2 + (wtR r.data + 2 + 0))) := by simp only [wtR, wtRs]
    rw [e3, e2]
    omega
theorem fit_hid : ∀ (n : Nat) (x : List Nat), fit (List.replicate n 63) x = true
  | 0, x => rfl
  | n + 1, [] => rfl
  | n + 1, c :: x => by
    have h := fit_hid n x
    show ((true || decide (63 = c)) && (tst (List.replicate n 63) x).all id) = true
    rw [Bool.true_or, Bool.true_and]
    exact h
theorem dp_bools {K : PySem.W.Frag} {H : Hp} : ∀ bs : List Bool, DpAll K H (bs.map V.bl) (bs.map PyData.bool)
  | [] => .nil
  | _ :: bs => .cons (.bl _) (dp_bools bs)
theorem bools_ok : ∀ bs : List Bool, okRs (bs.map PyData.bool) = true ∧ wtRs (bs.map PyData.bool) = 7 * bs.length ∧ PyData.depthAll (bs.map PyData.bool) = 0
  | [] => by simp only [List.map_nil, okRs, wtRs, PyData.depthAll, List.length_nil, Nat.mul_zero, and_self]
  | b :: bs => by
    obtain ⟨h1, h2, h3⟩ := bools_ok bs
    simp only [List.map_cons, okRs, okR, wtRs, wtR, PyData.depthAll, PyData.depth, h1, h2, h3, List.length_cons, Bool.and_self, true_and]
    refine ⟨by omega, by omega⟩
theorem bool_list {bs : List Bool} (h : bs.length ≤ 20) : okR (.list (bs.map PyData.bool)) = true ∧ wtR (.list (bs.map PyData.bool)) ≤ 1000000 ∧ (PyData.list (bs.map PyData.bool)).depth ≤ 60 := by
  obtain ⟨h1, h2, h3⟩ := bools_ok bs
  simp only [okR, wtR, PyData.depth, h1, h2, h3]
  refine ⟨trivial, by omega, by omega⟩
theorem all_three (a b c : Bool) : PyData.eqv (.list ([a, b, c].map PyData.bool)) (.list ([true, true, true].map PyData.bool)) = (a && b && c) := by
  simp only [List.map_cons, List.map_nil, PyData.eqv, PyData.eqvAll]
  cases a <;> cases b <;> cases c <;> rfl
theorem tree_ok {t : B} (lo : lowT t) (h : t.size ≤ 12) : okR t.data = true ∧ wtR t.data ≤ 1000000 ∧ t.data.depth ≤ 60 := by
  obtain ⟨a, b⟩ := okR_tree t lo
  have := t.deep_le
  exact ⟨a, by omega, by rw [t.data_depth]; omega⟩
theorem seq_cut {t u : TS} {D : Ends} {σ : L2.St} {H : Hp} (I : L2.St → Hp → Prop) (h2 : ∀ σ' H', I σ' H' → u D σ' H') (h1 : (∀ σ' H', I σ' H' → u D σ' H') → t { D with nx := u D } σ H) : tSeq t u D σ H := h1 h2
theorem seq_cutN {t u : TS} {D : Ends} {r1 : VK} {r2 r3 : L2.St → Hp → Prop} {σ : L2.St} {H : Hp} (I : L2.St → Hp → Prop) (h2 : ∀ σ' H', I σ' H' → u D σ' H') (h1 : (∀ σ' H', I σ' H' → u D σ' H') → t { D with nx := u D } σ H) : (Ends.mk (tSeq t u D) r1 r2 r3).nx σ H := h1 h2
abbrev got (t : B) (n : Nat) (L : Rows) : Bool := decide (t.size = n) && fit3 (rowOf L n .first) (rowOf L n .between) (rowOf L n .last) t
abbrev lik (r x : List Nat) : Bool := decide (r.length = x.length) && fit r x
theorem found_wanted {t : B} {a b c : List Nat} {n : Nat} (la : a.length = n) (lb : b.length = n) (lc : c.length = n) :
    [got t n [(.first, a)], got t n [(.between, b)], got t n [(.last, c)], got t n [(.last, c), (.first, a)], got t n [(.between, b), (.first, a)], got t n [(.between, b), (.last, c)], got t n [(.last, c), (.between, b), (.first, a)]] =
    [lik a t.pre, lik b t.mid, lik c t.post, lik a t.pre && lik c t.post, lik a t.pre && lik b t.mid, lik b t.mid && lik c t.post, (lik a t.pre && lik b t.mid && lik c t.post)] := by
  have e1 : lik a t.pre = (decide (t.size = n) && fit a t.pre) := by unfold lik; rw [la, t.pre_len]; exact congrArg (· && _) (decide_eq_decide.mpr eq_comm)
  have e2 : lik b t.mid = (decide (t.size = n) && fit b t.mid) := by unfold lik; rw [lb, t.mid_len]; exact congrArg (· && _) (decide_eq_decide.mpr eq_comm)
  have e3 : lik c t.post = (decide (t.size = n) && fit c t.post) := by unfold lik; rw [lc, t.post_len]; exact congrArg (· && _) (decide_eq_decide.mpr eq_comm)
  rw [e1, e2, e3]
  show [decide (t.size = n) && (fit a t.pre && (fit (List.replicate n 63) t.mid && fit (List.replicate n 63) t.post)), decide (t.size = n) && (fit (List.replicate n 63) t.pre && (fit b t.mid && fit (List.replicate n 63) t.post)), decide (t.size = n) && (fit (List.replicate n 63) t.pre && (fit (List.replicate n 63) t.mid && fit c t.post)),
    decide (t.size = n) && (fit a t.pre && (fit (List.replicate n 63) t.mid && fit c t.post)), decide (t.size = n) && (fit a t.pre && (fit b t.mid && fit (List.replicate n 63) t.post)), decide (t.size = n) && (fit (List.replicate n 63) t.pre && (fit b t.mid && fit c t.post)), decide (t.size = n) && (fit a t.pre && (fit b t.mid && fit c t.post))] = _
  simp only [fit_hid]
  generalize decide (t.size = n) = d
  generalize fit a t.pre = x
  generalize fit b t.mid = y
  generalize fit c t.post = z
  cases d <;> cases x <;> cases y <;> cases z <;> rfl
theorem same_none {H H' : Hp} (s : Same H H') {p : Addr} (h : H' p = none) : H p = none := by
  cases z : H p with
  | none => rfl
  | some o => rw [s _ _ z] at h; cases h
theorem same_put {H H' : Hp} (s : Same H H') {p : Addr} (h : H p = none) (o : HO) : Same H (upd H' p o) := fun b u e => by
  rw [upd_ne (fun z => by rw [z, h] at e; cases e)]
  exact s b u e
theorem shaped3 (a b c : Bool) : SeqAt.shaped (.list ([a, b, c].map PyData.bool)) = true := by cases a <;> cases b <;> cases c <;> rfl
theorem tand_of {ta tb : TE} {σ : L2.St} {H : Hp} {Q : VK} {c d : Bool} (ha : ∀ R : VK, R (.bl c) H → ta σ H R) (hb : ∀ R : VK, R (.bl d) H → tb σ H R) (q : Q (.bl (c && d)) H) : tAndV ta tb σ H Q := ha _ ⟨c, rfl, by
  cases c with
  | true => exact hb _ q
  | false => exact q⟩
/-- the defs called with keywords -/
def ksAll : List (List Kd) := [[.first], [.between], [.last], [.last, .first], [.between, .first], [.between, .last], [.last, .between, .first]]
structure DfK (P : Program) (w : World) (K : PySem.W.Frag) (mg : Str → Option Value) (base : Heap) (k : Nat) where
  f : Addr
  ok : ∀ ks : List Kd, ks ∈ ksAll → FnKw P w K mg base k f 1 (ks.map Kd.str) (spFits ks)
  kp : PySem.W.keepIn K (.ref f) = true
  g : mg "fits" = some (.ref f)
theorem pg_or {X : Cx} {tg : Expr} {g1 g2 : TG} (h1 : PG X tg g1) (h2 : PG X tg g2) : PG X tg (fun x σ H Q => g1 x σ H Q ∨ g2 x σ H Q) := by
  refine ⟨fun pins s σ H v u Q I r h => ?_⟩
  rcases h with h | h
  · exact h1.run pins s σ H v u Q I r h
  · exact h2.run pins s σ H v u Q I r h
section
variable {P : Program} {w : World} {K : PySem.W.Frag} {mg : Str → Option Value} {base : Heap} {f : Addr} {fd : FuncData}
theorem run_law {s : Shared} {H : Hp} {a : Addr} {ns : List Int} (F : Fun K "law" "law" s_law f fd) (bd : BindsTo s fd ⟨[.ref a], []⟩ [("_law_script", .ref a)]) (en : Env0 P w K mg base callerA [] s H) (hS : SqL K H a (ns.map V.int))
    (M : Mgs mg) (mrepr : mg "repr" = none) (D_law_deck : Df P w K mg base 1 "_law_deck" ["_law_script"] (spDeck K)) (D_law_draw : Df P w K mg base 1 "_law_draw" ["_law_deck_here", "_law_many"] spDraw) (D_law_tree : Df P w K mg base 52 "_law_tree" ["_law_deck_here", "_law_most"] spTree)
    (D_law_walks : Df P w K mg base 21 "_law_walks" ["_law_tree_here"] (spLWalks 21)) (D_law_hidden : Df P w K mg base 2 "_law_hidden" ["_law_deck_here", "_law_row"] spHid) (D_law_rows : Df P w K mg base 53 "_law_rows" ["_law_deck_here", "_law_most"] spLRows) (D_law_is_like : Df P w K mg base 1 "_law_is_like" ["_law_row", "_law_text"] spLike) (Dfits : DfK P w K mg base 65) :
    codeAny (model P w) callerA (.call (.ref f) ⟨[.ref a], []⟩) (CR CX0 [] P w H s (fun v _ => v = .bl true) fun _ _ _ => False) s := by
  refine enter_def (k := 66) (vs := [.ref a]) (us := [.ref a]) F sc_law ⟨rfl, by decide, by decide⟩ en bd (.cons rfl .nil) rfl fun cdv hr => ?_
  refine ⟨_, (pss_cons (ps_set (i := 1) sc_law.nd rfl (.inr rfl) (pe_call D_law_deck.ok (hr.mono (by omega)) rfl D_law_deck.g D_law_deck.kp D_law_deck.b .nil pass0 (pa_cons (pv 0) pa_nil)))
    (pss_cons (ps_for PassesOwn.never rfl (pi_range1 rfl M.range (pa_cons pe_int pa_nil)) (pg_name (i := 2) sc_law.nd rfl (.inl rfl))
      (pss_cons (ps_par (i := 3) (j := 4) (by rfl) sc_law.nd rfl rfl (by decide) rfl rfl (pa_cons (pe_call D_law_tree.ok (hr.mono (by omega)) rfl D_law_tree.g D_law_tree.kp D_law_tree.b .nil pass0 (pa_cons (pv 1) (pa_cons pe_int pa_nil))) (pa_cons (pe_call D_law_tree.ok (hr.mono (by omega)) rfl D_law_tree.g D_law_tree.kp D_law_tree.b .nil pass0 (pa_cons (pv 1) (pa_cons pe_int pa_nil))) pa_nil)) (by rfl))
    (pss_cons (ps_setLc (i := 6) (own := [("_law_row", 5)]) (g := gName 5) (tt := tYes) (by rfl) sc_law.nd rfl rfl (sw_true rfl rfl rfl (by decide +kernel)) (pi_tup (pe_call D_law_walks.ok (hr.mono (by omega)) rfl D_law_walks.g D_law_walks.kp D_law_walks.b .nil pass0 (pa_cons (pv 3) pa_nil))) (blkOk_by (N := ["_law_script", "_law_deck_here", "_law_turn", "_law_tree_here", "_law_other", "_law_row", "_law_rows_here", "_law_a", "_law_b", "_law_c", "_law_one", "_law_before", "_law_text", "_law_due", "_law_found", "_law_wanted"]) (sc := defScope s_law) (by decide +kernel)) (fun _ _ _ _ _ => (pg_name (i := 5) sc_law.nd rfl (.inl rfl))) (fun _ _ _ _ _ => pts_nil) (fun _ _ _ _ _ => (pe_call D_law_hidden.ok (hr.mono (by omega)) rfl D_law_hidden.g D_law_hidden.kp D_law_hidden.b .nil pass0 (pa_cons (pv 1) (pa_cons (pv 5) pa_nil)))))
    (pss_cons (ps_if (pt_cmpR op_eq (pe_call D_law_draw.ok (hr.mono (by omega)) rfl D_law_draw.g D_law_draw.kp D_law_draw.b .nil pass0 (pa_cons (pv 1) (pa_cons pe_int pa_nil))) pe_int (nomark _))
      (pss_one (ps_set (i := 6) sc_law.nd rfl (.inl rfl) (pe_call D_law_rows.ok (hr.mono (by omega)) rfl D_law_rows.g D_law_rows.kp D_law_rows.b .nil pass0 (pa_cons (pv 1) (pa_cons pe_int pa_nil))))) pss_nil)
    (pss_cons (ps_asg (pv 6) (pg_or (pg_tup rfl (pgs_cons (pg_name (i := 7) sc_law.nd rfl (.inl rfl)) (pgs_cons (pg_name (i := 8) sc_law.nd rfl (.inl rfl)) (pgs_cons (pg_name (i := 9) sc_law.nd rfl (.inl rfl)) pgs_nil)))) (pg_unl rfl (pgs_cons (pg_name (i := 7) sc_law.nd rfl (.inl rfl)) (pgs_cons (pg_name (i := 8) sc_law.nd rfl (.inl rfl)) (pgs_cons (pg_name (i := 9) sc_law.nd rfl (.inl rfl)) pgs_nil))))))
    (pss_one (ps_for PassesOwn.never rfl (pi_list (pe_lst (pa_cons (pv 3) (pa_cons (pv 4) pa_nil)))) (pg_name (i := 10) sc_law.nd rfl (.inl rfl))
      (pss_cons (ps_set (i := 11) sc_law.nd rfl (.inl rfl) (pe_callB (call_reprR rfl hr.units) rfl mrepr (by decide +kernel) (pa_cons (pv 10) pa_nil)))
    (pss_cons (ps_set (i := 12) sc_law.nd rfl (.inl rfl) (pe_call D_law_walks.ok (hr.mono (by omega)) rfl D_law_walks.g D_law_walks.kp D_law_walks.b .nil pass0 (pa_cons (pv 10) pa_nil)))
    (pss_cons (ps_set (i := 13) sc_law.nd rfl (.inl rfl) (pe_lst (pa_cons (pe_call D_law_is_like.ok (hr.mono (by omega)) rfl D_law_is_like.g D_law_is_like.kp D_law_is_like.b .nil pass0 (pa_cons (pv 7) (pa_cons (pe_ix ix_tup (pv 12) pe_int (fun _ _ => rfl)) pa_nil))) (pa_cons (pe_call D_law_is_like.ok (hr.mono (by omega)) rfl D_law_is_like.g D_law_is_like.kp D_law_is_like.b .nil pass0 (pa_cons (pv 8) (pa_cons (pe_ix ix_tup (pv 12) pe_int (fun _ _ => rfl)) pa_nil))) (pa_cons (pe_call D_law_is_like.ok (hr.mono (by omega)) rfl D_law_is_like.g D_law_is_like.kp D_law_is_like.b .nil pass0 (pa_cons (pv 9) (pa_cons (pe_ix ix_tup (pv 12) pe_int (fun _ _ => rfl)) pa_nil))) pa_nil)))))
    (pss_cons (ps_set (i := 14) sc_law.nd rfl (.inl rfl) (pe_lst (pa_cons (pe_callKw (Dfits.ok [.first] (by decide)) (hr.mono (by omega)) rfl Dfits.g Dfits.kp (pa_cons (pv 10) pa_nil) (pk_cons (pv 7) pk_nil)) (pa_cons (pe_callKw (Dfits.ok [.between] (by decide)) (hr.mono (by omega)) rfl Dfits.g Dfits.kp (pa_cons (pv 10) pa_nil) (pk_cons (pv 8) pk_nil)) (pa_cons (pe_callKw (Dfits.ok [.last] (by decide)) (hr.mono (by omega)) rfl Dfits.g Dfits.kp (pa_cons (pv 10) pa_nil) (pk_cons (pv 9) pk_nil)) (pa_cons (pe_callKw (Dfits.ok [.last, .first] (by decide)) (hr.mono (by omega)) rfl Dfits.g Dfits.kp (pa_cons (pv 10) pa_nil) (pk_cons (pv 9) (pk_cons (pv 7) pk_nil))) pa_nil))))))
    (pss_cons (ps_set (i := 14) sc_law.nd rfl (.inl rfl) (pe_op op_cat (pv 14) (pe_lst (pa_cons (pe_callKw (Dfits.ok [.between, .first] (by decide)) (hr.mono (by omega)) rfl Dfits.g Dfits.kp (pa_cons (pv 10) pa_nil) (pk_cons (pv 8) (pk_cons (pv 7) pk_nil))) (pa_cons (pe_callKw (Dfits.ok [.between, .last] (by decide)) (hr.mono (by omega)) rfl Dfits.g Dfits.kp (pa_cons (pv 10) pa_nil) (pk_cons (pv 8) (pk_cons (pv 9) pk_nil))) pa_nil)))))
    (pss_cons (ps_expr (pe_bm PySem.F.plainAttrs_list PySem.F.slot_list_append PySem.F.type_list_append mt_append (pv 14) (pa_cons (pe_callKw (Dfits.ok [.last, .between, .first] (by decide)) (hr.mono (by omega)) rfl Dfits.g Dfits.kp (pa_cons (pv 10) pa_nil) (pk_cons (pv 9) (pk_cons (pv 8) (pk_cons (pv 7) pk_nil)))) pa_nil)))
    (pss_cons (ps_set (i := 15) sc_law.nd rfl (.inl rfl) (pe_op op_cat (pv 13) (pe_lst (pa_cons (pe_and (pe_ix ix_list (pv 13) pe_int (fun _ _ => rfl)) (pe_one (pe_ix ix_list (pv 13) pe_int (fun _ _ => rfl)))) (pa_cons (pe_and (pe_ix ix_list (pv 13) pe_int (fun _ _ => rfl)) (pe_one (pe_ix ix_list (pv 13) pe_int (fun _ _ => rfl)))) (pa_cons (pe_and (pe_ix ix_list (pv 13) pe_int (fun _ _ => rfl)) (pe_one (pe_ix ix_list (pv 13) pe_int (fun _ _ => rfl)))) (pa_cons (pe_cmpR (op_eqD hr.units) (pv 13) (pe_op op_rep (pe_lst (pa_cons pe_bl pa_nil)) pe_int) (nomark _)) pa_nil)))))))
    (pss_one (ps_if (PW.pt (pw_or (pt_cmpR op_ne (pe_callB (call_reprR rfl hr.units) rfl mrepr (by decide +kernel) (pa_cons (pv 14) pa_nil)) (pe_callB (call_reprR rfl hr.units) rfl mrepr (by decide +kernel) (pa_cons (pv 15) pa_nil)) (nomark _)) (pw_or1 (pt_cmpR op_ne (pe_callB (call_reprR rfl hr.units) rfl mrepr (by decide +kernel) (pa_cons (pv 10) pa_nil)) (pv 11) (nomark _)))))
      (pss_one (ps_ret pe_bl)) pss_nil))))))))))))))))
    (pss_one (ps_ret pe_bl)))), ?_⟩
  refine ⟨_, rfl, a, ns, rfl, hS, fun D H1 d1 s1 => ?_⟩
  refine ⟨10, rfl, by decide, by decide, ?_⟩
  refine for_range (lo := 0) (n := 10) (fun i σ H' => ∃ (o2 o3 o4 o5 o6 o7 o8 o9 o10 o11 o12 o13 o14 o15 : Option V) (c : Nat), σ = [some (.ref a), some (.ref D.dk), o2, o3, o4, o5, o6, o7, o8, o9, o10, o11, o12, o13, o14, o15] ∧ DeckOk H' D c ∧ c ≤ 400 * i) ⟨none, none, none, none, none, none, none, none, none, none, none, none, none, none, 0, rfl, d1, by omega⟩ (fun i σ H2 hi hp => ?_) (fun σ H2 hp => rfl)
  · obtain ⟨o2, o3, o4, o5, o6, o7, o8, o9, o10, o11, o12, o13, o14, o15, c, rfl, d2, hc⟩ := hp
    refine ⟨_, rfl, D, c, 12, rfl, d2, by omega, by decide, by decide, fun v1 t1 c3 H3 c31 c32 d3 s3 at1 ne1 z1 lo1 => ?_⟩
    refine ⟨_, rfl, D, c3, 4, rfl, d3, by omega, by decide, by decide, fun v2 t2 c4 H4 c41 c42 d4 s4 at2 ne2 z2 lo2 => ⟨_, _, rfl, ?_⟩⟩
    have at1 := at1.keep (s4.keepT d3)
    refine ⟨_, rfl, v1, t1, rfl, at1, by omega, by omega, fun p H5 s5 ep => ?_⟩
    refine ⟨p, rfl, ⟨_, SqT.of ep⟩, fun L nL => ?_⟩
    have d5 := d4.same s5
    have k5 := Tw.Same.keepT s5
    have at1 := at1.keep k5
    have at2 := at2.keep k5
    have nL5 := d5.new nL
    refine lc_tup (K := K) (a := p) (xs := [vt t1.pre, vt t1.mid, vt t1.post]) (fun j H' => ∃ (xs : List (List Nat)) (e : Nat), xs.length = j ∧ c4 ≤ e ∧ e ≤ c4 + 13 * j ∧ DeckOk H' D e ∧ SameD D H5 H' ∧ H' p = some (.tup [vt t1.pre, vt t1.mid, vt t1.post]) ∧ H' L = some (.lst (xs.map vt)) ∧ ∀ x ∈ xs, RowOk x ∧ x.length = t1.size)
      ⟨[], c4, rfl, by omega, by omega, d5.same (same_new nL _), (SameD.refl _ _).put nL _, (same_new nL _) _ _ ep, upd_same, fun c h => nomatch h⟩ (fun j H' _ hp => by obtain ⟨_, _, _, _, _, _, _, e, _⟩ := hp; exact SqT.of e) (fun j x H' hx hp => ?_) (fun H6 hp => ?_)
    · obtain ⟨xs, e, hl, e0, e1, d6, s6, ep6, eL, all⟩ := hp
      obtain ⟨k, rfl⟩ := wk_at hx
      obtain ⟨rk, rl⟩ := wk_row lo1 ne1 (by omega) k
      have j3 : j < 3 := (List.getElem?_eq_some_iff.mp hx).1
      refine ⟨rfl, kept ?_⟩
      refine ⟨_, rfl, _, rfl, D, e, _, rfl, d6, by omega, rk, fun z e' H7 e2 e3 d7 s7 okz lz => ?_⟩
      refine ⟨_, s7.at nL5 eL, ?_, xs ++ [z], e', by rw [List.length_append, hl]; rfl, by omega, by omega, d7.put nL5 _, (s6.trans s7).put nL _, ?_, by rw [upd_same, List.map_append]; rfl, fun y hy => ?_⟩
      · rw [List.length_map]; exact small1000 (by omega)
      · rw [upd_ne (fun z => by rw [z] at ep6; rw [eL] at ep6; cases ep6)]
        exact s7.at (d6.of_tup ep6) ep6
      · rcases List.mem_append.mp hy with hy | hy
        · exact all y hy
        · rw [List.mem_singleton.mp hy]
          exact ⟨okz, by rw [lz, rl]⟩
    obtain ⟨xs, e, hl, e0, e1, d6, s6, ep6, eL, all⟩ := hp
    obtain ⟨x0, x1, x2, rfl⟩ : ∃ x0 x1 x2, xs = [x0, x1, x2] := by
      match xs, hl with
      | [x0, x1, x2], _ => exact ⟨_, _, _, rfl⟩
    have e1' : e ≤ c4 + 39 := e1
    have a0 := all x0 List.mem_cons_self
    have a1 := all x1 (List.mem_cons_of_mem _ List.mem_cons_self)
    have a2 := all x2 (List.mem_cons_of_mem _ (List.mem_cons_of_mem _ List.mem_cons_self))
    have k6 := s6.keepT d5
    have at1 := at1.keep k6
    have at2 := at2.keep k6
    have oL6 := nL5
    clear all hl ep6 ep k5 k6 nL5
    refine seq_cutN (fun σ H' => ∃ (q6 : Addr) (ra rb rc : List Nat) (c6 : Nat), σ = [some (.ref a), some (.ref D.dk), some (.int (0 + (i : Int))), some v1, some v2, o5, some (.ref q6), o7, o8, o9, o10, o11, o12, o13, o14, o15] ∧ DeckOk H' D c6 ∧ c6 ≤ c + 380 ∧ BAt H' v1 t1 ∧ BAt H' v2 t2 ∧
      (H' q6 = some (.tup [vt ra, vt rb, vt rc]) ∨ H' q6 = some (.lst [vt ra, vt rb, vt rc])) ∧ RowOk ra ∧ RowOk rb ∧ RowOk rc ∧ rb.length = ra.length ∧ rc.length = ra.length) (fun σ H7 hp => ?_) (fun fin => ?_)
    · obtain ⟨q6, ra, rb, rc, c6, rfl, d7, hc6, at1, at2, hq, ka, kb, kc, lb, lc⟩ := hp
      refine seq_cut (fun σ H' => σ = [some (.ref a), some (.ref D.dk), some (.int (0 + (i : Int))), some v1, some v2, o5, some (.ref q6), some (vt ra), some (vt rb), some (vt rc), o10, o11, o12, o13, o14, o15] ∧ H' = H7) (fun σ H8 hp => ?_) (fun fin => ?_)
      · obtain ⟨rfl, rfl⟩ := hp
        clear hq
        refine ⟨_, rfl, _, rfl, (by show 2 ≤ sizeLine; decide), fun lp nlp => ⟨lp, rfl, ⟨_, SqL.of upd_same⟩, ?_⟩⟩
        have kl := same_new nlp (.lst [v1, v2])
        have d8 := d7.same kl
        have elp := upd_same (H := H8) (a := lp) (o := .lst [v1, v2])
        have at1 := at1.same kl
        have at2 := at2.same kl
        generalize upd H8 lp (.lst [v1, v2]) = H9 at d8 elp at1 at2 ⊢
        refine for_list (K := K) (a := lp) (xs := [v1, v2]) (fun j σ Hx => ∃ (o10 o11 o12 o13 o14 o15 : Option V), σ = [some (.ref a), some (.ref D.dk), some (.int (0 + (i : Int))), some v1, some v2, o5, some (.ref q6), some (vt ra), some (vt rb), some (vt rc), o10, o11, o12, o13, o14, o15] ∧ Same H9 Hx) ⟨_, _, _, _, _, _, rfl, Same.refl _⟩ (fun j σ Hx _ hp => by obtain ⟨_, _, _, _, _, _, _, sm⟩ := hp; exact SqL.of (sm _ _ elp)) (fun j x σ Hx hx hp => ?_) (fun σ Hx hp => ?_)
        · obtain ⟨o10, o11, o12, o13, o14, o15, rfl, sm⟩ := hp
          obtain ⟨a0, t, rfl, at0, tz, low⟩ : ∃ (a0 : Addr) (t : B), x = .ref a0 ∧ BAt H9 (.ref a0) t ∧ t.size ≤ 12 ∧ lowT t := by
            match j, hx with
            | 0, h =>
              cases h
              rcases at1.inv with ⟨_, z⟩ | ⟨a0, _, _, _, _, _, e, _⟩
              · exact absurd z ne1
              · exact ⟨a0, t1, e, by rw [← e]; exact at1, by omega, lo1⟩
            | 1, h =>
              cases h
              rcases at2.inv with ⟨_, z⟩ | ⟨a0, _, _, _, _, _, e, _⟩
              · exact absurd z ne2
              · exact ⟨a0, t2, e, by rw [← e]; exact at2, by omega, lo2⟩
          have att := at0.same sm
          obtain ⟨g1, g2, g3⟩ := tree_ok low tz
          clear at0 at1 at2 hx
          refine ⟨_, rfl, a0, _, rfl, att.dp, g1, g2, g3, ?_⟩
          refine ⟨_, rfl, _, t, rfl, att, by omega, by omega, fun pt Hy sy ept => ?_⟩
          have sm := sm.trans sy
          have att := att.same sy
          have fa := ka.few
          have fb := kb.few
          have fc := kc.few
          have l1 := t.pre_len
          have l2 := t.mid_len
          have l3 := t.post_len
          refine ⟨_, rfl, _, rfl, pt, _, _, _, rfl, rfl, SqT.of ept, atI_nat (j := 0) rfl, ra, t.pre, rfl, by omega, by omega, fun H10 s10 => ?_⟩
          have ept := s10 _ _ ept
          refine ⟨_, rfl, _, rfl, pt, _, _, _, rfl, rfl, SqT.of ept, atI_nat (j := 1) rfl, rb, t.mid, rfl, by omega, by omega, fun H11 s11 => ?_⟩
          have ept := s11 _ _ ept
          refine ⟨_, rfl, _, rfl, pt, _, _, _, rfl, rfl, SqT.of ept, atI_nat (j := 2) rfl, rc, t.post, rfl, by omega, by omega, fun H12 s12 => ⟨(by show 3 ≤ sizeLine; decide), fun du ndu => ?_⟩⟩
          have kd := same_new ndu (.lst [.bl (lik ra t.pre), .bl (lik rb t.mid), .bl (lik rc t.post)])
          have edu := upd_same (H := H12) (a := du) (o := .lst [.bl (lik ra t.pre), .bl (lik rb t.mid), .bl (lik rc t.post)])
          have s13 := (s10.trans s11).trans (s12.trans kd)
          have sm := sm.trans s13
          have att := att.same s13
          clear ept s10 s11 s12 kd s13 ndu
          have okL : ∀ L : Rows, (∀ p ∈ L, p.2 = ra ∨ p.2 = rb ∨ p.2 = rc) → ∀ p ∈ L, RowOk p.2 ∧ p.2.length = ra.length := fun L h p hp => by
            rcases h p hp with e | e | e <;> rw [e]
            · exact ⟨ka, rfl⟩
            · exact ⟨kb, lb⟩
            · exact ⟨kc, lc⟩
          refine ⟨_, rfl, _, rfl, rfl, rfl, _, t, [(.first, ra)], ra.length, rfl, rfl, rfl, att, by omega, List.cons_ne_nil _ _, (show ([.first] : List Kd).Nodup by decide), (show 1 ≤ 3 by decide), okL _ (by simp), fun F1 f1 => ?_⟩
          have sm := sm.trans f1
          have att := att.same f1
          have edu := f1 _ _ edu
          refine ⟨_, rfl, _, rfl, rfl, rfl, _, t, [(.between, rb)], ra.length, rfl, rfl, rfl, att, by omega, List.cons_ne_nil _ _, (show ([.between] : List Kd).Nodup by decide), (show 1 ≤ 3 by decide), okL _ (by simp), fun F2 f2 => ?_⟩
          have sm := sm.trans f2
          have att := att.same f2
          have edu := f2 _ _ edu
          refine ⟨_, rfl, _, rfl, rfl, rfl, _, t, [(.last, rc)], ra.length, rfl, rfl, rfl, att, by omega, List.cons_ne_nil _ _, (show ([.last] : List Kd).Nodup by decide), (show 1 ≤ 3 by decide), okL _ (by simp), fun F3 f3 => ?_⟩
          have sm := sm.trans f3
          have att := att.same f3
          have edu := f3 _ _ edu
          refine ⟨_, rfl, _, rfl, _, rfl, rfl, rfl, _, t, [(.last, rc), (.first, ra)], ra.length, rfl, rfl, rfl, att, by omega, List.cons_ne_nil _ _, (show ([.last, .first] : List Kd).Nodup by decide), (show 2 ≤ 3 by decide), okL _ (by simp), fun F4 f4 => ⟨(by show 4 ≤ sizeLine; decide), fun fo nfo => ?_⟩⟩
          have sm := sm.trans f4
          have att := att.same f4
          have edu := f4 _ _ edu
          have kf := same_new nfo (.lst [.bl (got t ra.length [(.first, ra)]), .bl (got t ra.length [(.between, rb)]), .bl (got t ra.length [(.last, rc)]), .bl (got t ra.length [(.last, rc), (.first, ra)])])
          have efo := upd_same (H := F4) (a := fo) (o := .lst [.bl (got t ra.length [(.first, ra)]), .bl (got t ra.length [(.between, rb)]), .bl (got t ra.length [(.last, rc)]), .bl (got t ra.length [(.last, rc), (.first, ra)])])
          have sm := sm.trans kf
          have att := att.same kf
          have edu := kf _ _ edu
          refine ⟨_, rfl, ?_⟩
          refine ⟨_, rfl, _, rfl, _, rfl, rfl, rfl, _, t, [(.between, rb), (.first, ra)], ra.length, rfl, rfl, rfl, att, by omega, List.cons_ne_nil _ _, (show ([.between, .first] : List Kd).Nodup by decide), (show 2 ≤ 3 by decide), okL _ (by simp), fun F5 f5 => ?_⟩
          have sm := sm.trans f5
          have att := att.same f5
          have edu := f5 _ _ edu
          refine ⟨_, rfl, _, rfl, _, rfl, rfl, rfl, _, t, [(.between, rb), (.last, rc)], ra.length, rfl, rfl, rfl, att, by omega, List.cons_ne_nil _ _, (show ([.between, .last] : List Kd).Nodup by decide), (show 2 ≤ 3 by decide), okL _ (by simp), fun F6 f6 => ⟨(by show 2 ≤ sizeLine; decide), fun fp nfp => ?_⟩⟩
          have sm := sm.trans f6
          have att := att.same f6
          have edu := f6 _ _ edu
          have efo := f6 _ _ (f5 _ _ efo)
          have kp := same_new nfp (.lst [.bl (got t ra.length [(.between, rb), (.first, ra)]), .bl (got t ra.length [(.between, rb), (.last, rc)])])
          have efp := upd_same (H := F6) (a := fp) (o := .lst [.bl (got t ra.length [(.between, rb), (.first, ra)]), .bl (got t ra.length [(.between, rb), (.last, rc)])])
          have efo := kp _ _ efo
          have sm := sm.trans kp
          have att := att.same kp
          have edu := kp _ _ edu
          refine ⟨fo, fp, _, _, rfl, rfl, efo, efp, small (by show 6 ≤ 1000; decide), fun fq nfq => ?_⟩
          have smq := sm
          have eduq := edu
          have kq := same_new nfq (.lst [.bl (got t ra.length [(.first, ra)]), .bl (got t ra.length [(.between, rb)]), .bl (got t ra.length [(.last, rc)]), .bl (got t ra.length [(.last, rc), (.first, ra)]), .bl (got t ra.length [(.between, rb), (.first, ra)]), .bl (got t ra.length [(.between, rb), (.last, rc)])])
          have efq := upd_same (H := upd F6 fp (.lst [.bl (got t ra.length [(.between, rb), (.first, ra)]), .bl (got t ra.length [(.between, rb), (.last, rc)])])) (a := fq) (o := .lst [.bl (got t ra.length [(.first, ra)]), .bl (got t ra.length [(.between, rb)]), .bl (got t ra.length [(.last, rc)]), .bl (got t ra.length [(.last, rc), (.first, ra)]), .bl (got t ra.length [(.between, rb), (.first, ra)]), .bl (got t ra.length [(.between, rb), (.last, rc)])])
          have sm := sm.trans kq
          have att := att.same kq
          have edu := kq _ _ edu
          have nfq9 : H9 fq = none := same_none smq nfq
          have ndq : du ≠ fq := ne_of_none eduq nfq
          refine ⟨_, rfl, .inl ⟨rfl, _, SqL.of efq⟩, ?_⟩
          clear efo efp kf kp kq nfo nfp nfq
          refine ⟨_, rfl, _, rfl, _, rfl, _, rfl, rfl, rfl, _, t, [(.last, rc), (.between, rb), (.first, ra)], ra.length, rfl, rfl, rfl, att, by omega, List.cons_ne_nil _ _, (show ([.last, .between, .first] : List Kd).Nodup by decide), (show 3 ≤ 3 by decide), okL _ (by simp), fun F7 f7 => ?_⟩
          have sm := sm.trans f7
          have att := att.same f7
          have edu := f7 _ _ edu
          have efq := f7 _ _ efq
          refine ⟨fq, _, _, rfl, rfl, efq, small1000 (by show 6 ≤ 1000; decide), ?_⟩
          have sm := same_put sm nfq9 (.lst ([.bl (got t ra.length [(.first, ra)]), .bl (got t ra.length [(.between, rb)]), .bl (got t ra.length [(.last, rc)]), .bl (got t ra.length [(.last, rc), (.first, ra)]), .bl (got t ra.length [(.between, rb), (.first, ra)]), .bl (got t ra.length [(.between, rb), (.last, rc)])] ++ [.bl (got t ra.length [(.last, rc), (.between, rb), (.first, ra)])]))
          have efq2 := upd_same (H := F7) (a := fq) (o := .lst ([.bl (got t ra.length [(.first, ra)]), .bl (got t ra.length [(.between, rb)]), .bl (got t ra.length [(.last, rc)]), .bl (got t ra.length [(.last, rc), (.first, ra)]), .bl (got t ra.length [(.between, rb), (.first, ra)]), .bl (got t ra.length [(.between, rb), (.last, rc)])] ++ [.bl (got t ra.length [(.last, rc), (.between, rb), (.first, ra)])]))
          have edu := (upd_ne (o := .lst ([.bl (got t ra.length [(.first, ra)]), .bl (got t ra.length [(.between, rb)]), .bl (got t ra.length [(.last, rc)]), .bl (got t ra.length [(.last, rc), (.first, ra)]), .bl (got t ra.length [(.between, rb), (.first, ra)]), .bl (got t ra.length [(.between, rb), (.last, rc)])] ++ [.bl (got t ra.length [(.last, rc), (.between, rb), (.first, ra)])])) ndq).trans edu
          have att : BAt (upd F7 fq (.lst ([.bl (got t ra.length [(.first, ra)]), .bl (got t ra.length [(.between, rb)]), .bl (got t ra.length [(.last, rc)]), .bl (got t ra.length [(.last, rc), (.first, ra)]), .bl (got t ra.length [(.between, rb), (.first, ra)]), .bl (got t ra.length [(.between, rb), (.last, rc)])] ++ [.bl (got t ra.length [(.last, rc), (.between, rb), (.first, ra)])]))) (.ref a0) t := att.keep fun b xs e => by
            rw [upd_ne (fun z => by rw [z, efq] at e; cases e)]; exact e
          refine ⟨_, rfl, ?_⟩
          refine tand_of (c := lik ra t.pre) (d := lik rc t.post) (fun R z => ⟨_, rfl, du, _, _, _, rfl, rfl, SqL.of edu, atI_nat (j := 0) rfl, z⟩) (fun R z => ⟨_, rfl, du, _, _, _, rfl, rfl, SqL.of edu, atI_nat (j := 2) rfl, z⟩) ?_
          refine tand_of (c := lik ra t.pre) (d := lik rb t.mid) (fun R z => ⟨_, rfl, du, _, _, _, rfl, rfl, SqL.of edu, atI_nat (j := 0) rfl, z⟩) (fun R z => ⟨_, rfl, du, _, _, _, rfl, rfl, SqL.of edu, atI_nat (j := 1) rfl, z⟩) ?_
          refine tand_of (c := lik rb t.mid) (d := lik rc t.post) (fun R z => ⟨_, rfl, du, _, _, _, rfl, rfl, SqL.of edu, atI_nat (j := 1) rfl, z⟩) (fun R z => ⟨_, rfl, du, _, _, _, rfl, rfl, SqL.of edu, atI_nat (j := 2) rfl, z⟩) ?_
          refine ⟨_, rfl, (by show 1 ≤ sizeLine; decide), fun tr ntr => ⟨tr, 3, _, rfl, rfl, upd_same, by decide, by decide, (by show 3 ≤ sizeLine; decide), fun tq ntq => ?_⟩⟩
          have k1 := same_new ntr (.lst [V.bl true])
          have edu := k1 _ _ edu
          have efq3 := k1 _ _ efq2
          have sm := sm.trans k1
          have att := att.same k1
          have k2 := same_new ntq (.lst (List.replicate (3 : Int).toNat [V.bl true]).flatten)
          have edu := k2 _ _ edu
          have efq3 := k2 _ _ efq3
          have sm := sm.trans k2
          have att := att.same k2
          refine ⟨_, _, .lst (SqL.of edu) (dp_bools [lik ra t.pre, lik rb t.mid, lik rc t.post]), .lst (SqL.of upd_same) (dp_bools [true, true, true]), shaped3 _ _ _, shaped3 _ _ _, ?_⟩
          rw [all_three]
          refine ⟨(by show 4 ≤ sizeLine; decide), fun wo nwo => ?_⟩
          have k3 := same_new nwo (.lst [.bl (lik ra t.pre && lik rc t.post), .bl (lik ra t.pre && lik rb t.mid), .bl (lik rb t.mid && lik rc t.post), .bl (lik ra t.pre && lik rb t.mid && lik rc t.post)])
          have edu := k3 _ _ edu
          have efq3 := k3 _ _ efq3
          have sm := sm.trans k3
          have att := att.same k3
          refine ⟨du, wo, _, _, rfl, rfl, edu, upd_same, small (by show 7 ≤ 1000; decide), fun wt nwt => ?_⟩
          have k4 := same_new nwt (.lst ([.bl (lik ra t.pre), .bl (lik rb t.mid), .bl (lik rc t.post)] ++ [.bl (lik ra t.pre && lik rc t.post), .bl (lik ra t.pre && lik rb t.mid), .bl (lik rb t.mid && lik rc t.post), .bl (lik ra t.pre && lik rb t.mid && lik rc t.post)]))
          have efq3 := k4 _ _ efq3
          have sm := sm.trans k4
          have att := att.same k4
          have fw := found_wanted (t := t) (a := ra) (b := rb) (c := rc) rfl lb lc
          have ok7 := bool_list (bs := [lik ra t.pre, lik rb t.mid, lik rc t.post, lik ra t.pre && lik rc t.post, lik ra t.pre && lik rb t.mid, lik rb t.mid && lik rc t.post, lik ra t.pre && lik rb t.mid && lik rc t.post]) (by show 7 ≤ 20; decide)
          refine ⟨_, rfl, fq, _, rfl, .lst (SqL.of efq3) (dp_bools [(got t ra.length [(.first, ra)]), (got t ra.length [(.between, rb)]), (got t ra.length [(.last, rc)]), (got t ra.length [(.last, rc), (.first, ra)]), (got t ra.length [(.between, rb), (.first, ra)]), (got t ra.length [(.between, rb), (.last, rc)]), (got t ra.length [(.last, rc), (.between, rb), (.first, ra)])]), by rw [fw]; exact ok7.1, by rw [fw]; exact ok7.2.1, by rw [fw]; exact ok7.2.2, ?_⟩
          rw [fw]
          refine ⟨_, rfl, wt, _, rfl, .lst (SqL.of upd_same) (dp_bools [lik ra t.pre, lik rb t.mid, lik rc t.post, lik ra t.pre && lik rc t.post, lik ra t.pre && lik rb t.mid, lik rb t.mid && lik rc t.post, lik ra t.pre && lik rb t.mid && lik rc t.post]), ok7.1, ok7.2.1, ok7.2.2, rfl, _, rfl, ?_⟩
          rw [decide_eq_true rfl]
          refine iteF ?_
          refine ⟨_, rfl, a0, _, rfl, att.dp, g1, g2, g3, _, rfl, rfl, _, rfl, ?_⟩
          rw [decide_eq_true rfl]
          refine iteF ?_
          exact ⟨_, _, _, _, _, _, rfl, sm⟩
        · obtain ⟨o10, o11, o12, o13, o14, o15, rfl, sm⟩ := hp
          exact ⟨_, _, _, _, _, _, _, _, _, _, _, _, _, _, c6, rfl, d8.same sm, by omega⟩
      · have f2 := fin _ _ ⟨rfl, rfl⟩
        rcases hq with hq | hq
        · exact ⟨_, rfl, .inl ⟨q6, _, rfl, SqT.of hq, rfl, _, _, rfl, _, _, rfl, _, _, rfl, rfl, f2⟩⟩
        · exact ⟨_, rfl, .inr ⟨q6, _, rfl, SqL.of hq, rfl, _, _, rfl, _, _, rfl, _, _, rfl, rfl, f2⟩⟩
    · refine ⟨_, rfl, D, e, _, rfl, d6, by omega, by decide, by decide, fun w H7 w0 w1 d7 s7 => ⟨rfl, _, rfl, ite2 (fun _ => ?_) (fun _ => ?_)⟩⟩
      · refine ⟨_, rfl, D, e + 1, 12, rfl, d7, by omega, by decide, by decide, fun q6 ra rb rc c6 H8 c60 c61 d8 s8 eq6 ka kb kc lb lc => ?_⟩
        have kk := (s7.keepT d6).trans (s8.keepT d7)
        exact fin _ _ ⟨q6, ra, rb, rc, c6, rfl, d8, by omega, at1.keep kk, at2.keep kk, .inl eq6, ka, kb, kc, lb, lc⟩
      · have kk := s7.keepT d6
        refine fin _ _ ⟨L, x0, x1, x2, e + 1, rfl, d7, by omega, at1.keep kk, at2.keep kk, .inr (s7.at oL6 eL), a0.1, a1.1, a2.1, by rw [a0.2, a1.2], by rw [a0.2, a2.2]⟩
end
/-! ### how fits binds its keywords -/
theorem kw_one {kV dc pm cd ct : Value} {an : Option Addr} (a : Kd) : KwBind (PySem.W.fnOf "fits" "fits" (defArgs s_fits) (defBody s_fits) (defScope s_fits) .none kV dc pm an cd ct) ["tree"] "rows" [a.str] := by
  refine ⟨fun us ws h1 h2 => ?_, ?_⟩
  · match us, ws, h1, h2 with
    | [u], [w1], _, _ => cases a <;> rfl
  · cases a <;> decide +kernel
theorem kw_two {kV dc pm cd ct : Value} {an : Option Addr} {a b : Kd} (h : a ≠ b) : KwBind (PySem.W.fnOf "fits" "fits" (defArgs s_fits) (defBody s_fits) (defScope s_fits) .none kV dc pm an cd ct) ["tree"] "rows" [a.str, b.str] := by
  refine ⟨fun us ws h1 h2 => ?_, ?_⟩
  · match us, ws, h1, h2 with
    | [u], [w1, w2], _, _ => cases a <;> cases b <;> rfl
  · cases a <;> cases b <;> first | exact absurd rfl h | decide +kernel
theorem kw_three {kV dc pm cd ct : Value} {an : Option Addr} : KwBind (PySem.W.fnOf "fits" "fits" (defArgs s_fits) (defBody s_fits) (defScope s_fits) .none kV dc pm an cd ct) ["tree"] "rows" [Kd.last.str, Kd.between.str, Kd.first.str] := by
  refine ⟨fun us ws h1 h2 => ?_, ?_⟩
  · match us, ws, h1, h2 with
    | [u], [w1, w2, w3], _, _ => rfl
  · decide +kernel
theorem kw_fits {kV dc pm cd ct : Value} {an : Option Addr} {ks : List Kd} (h : ks ∈ ksAll) : KwBind (PySem.W.fnOf "fits" "fits" (defArgs s_fits) (defBody s_fits) (defScope s_fits) .none kV dc pm an cd ct) ["tree"] "rows" (ks.map Kd.str) ∧ ks.length ≤ 3 := by
  rcases List.mem_cons.mp h with rfl | h
  · exact ⟨kw_one _, by decide⟩
  rcases List.mem_cons.mp h with rfl | h
  · exact ⟨kw_one _, by decide⟩
  rcases List.mem_cons.mp h with rfl | h
  · exact ⟨kw_one _, by decide⟩
  rcases List.mem_cons.mp h with rfl | h
  · exact ⟨kw_two (by decide), by decide⟩
  rcases List.mem_cons.mp h with rfl | h
  · exact ⟨kw_two (by decide), by decide⟩
  rcases List.mem_cons.mp h with rfl | h
  · exact ⟨kw_two (by decide), by decide⟩
  rw [List.mem_singleton.mp h]
  exact ⟨kw_three, by decide⟩
theorem ks_len {ks : List Kd} (h : ks ∈ ksAll) : ks.length ≤ 3 := by
  have : ∀ k ∈ ksAll, k.length ≤ 3 := by decide
  exact this ks h
/-! ### what the top has left -/
theorem all_mk {l : PySem.W.OpenLaw} {w : World} {K : PySem.W.Frag} {h : Heap} {mg : Str → Option Value} {fa f1 f2 f3 f4 f5 f6 f7 f8 f9 f10 f11 f12 f13 f14 f15 f16 f17 f18 f19 f20 f21 f22 f23  : Addr} (X : K.In h) (G : h.Ns mainGlobals mg) (hfa : mg "law" = some (.ref fa))
    {od1 an1 od2 an2 od3 an3 od4 an4 od5 an5 od6 an6 od7 an7 od8 an8 od9 an9 od10 an10 od11 an11 od12 an12 od13 an13 od14 an14 od15 an15 od16 an16 od17 an17 od18 an18 od19 an19 od20 an20 od21 an21 od22 an22 od23 an23 : Option Addr} {sl1 sl2 sl3 sl4 sl5 sl6 sl7 sl8 sl9 sl10 sl11 sl12 sl13 sl14 sl15 sl16 sl17 sl18 sl19 sl20 sl21 sl22 sl23 : Array (Option Value)}
    {oc1 kV1 dc1 pm1 cd1 ct1 oc2 kV2 dc2 pm2 cd2 ct2 oc3 kV3 dc3 pm3 cd3 ct3 oc4 kV4 dc4 pm4 cd4 ct4 oc5 kV5 dc5 pm5 cd5 ct5 oc6 kV6 dc6 pm6 cd6 ct6 oc7 kV7 dc7 pm7 cd7 ct7 oc8 kV8 dc8 pm8 cd8 ct8 oc9 kV9 dc9 pm9 cd9 ct9 oc10 kV10 dc10 pm10 cd10 ct10 oc11 kV11 dc11 pm11 cd11 ct11 oc12 kV12 dc12 pm12 cd12 ct12 oc13 kV13 dc13 pm13 cd13 ct13 oc14 kV14 dc14 pm14 cd14 ct14 oc15 kV15 dc15 pm15 cd15 ct15 oc16 kV16 dc16 pm16 cd16 ct16 oc17 kV17 dc17 pm17 cd17 ct17 oc18 kV18 dc18 pm18 cd18 ct18 oc19 kV19 dc19 pm19 cd19 ct19 oc20 kV20 dc20 pm20 cd20 ct20 oc21 kV21 dc21 pm21 cd21 ct21 oc22 kV22 dc22 pm22 cd22 ct22 oc23 kV23 dc23 pm23 cd23 ct23 : Value} {t1 : Tok}
    {aK aR : Addr} {oK oR : Option Addr} {tK1 tK2 tK3 tK4 tR1 tR2 tR3 : Tok} {nK nR : Nat} {sK sR : Array (Option Value)}
    (aKn : PySem.W.nsIn K mainGlobals "KINDS" = some (some (.ref aK)))
    (aKl : K.lookup aK = some ⟨.type "tuple", oK, .seq #[.str "first" tK1, .str "between" tK2, .str "last" tK3, .str "level" tK4] nK, sK⟩)
    (aRn : PySem.W.nsIn K mainGlobals "ROW_KINDS" = some (some (.ref aR)))
    (aRl : K.lookup aR = some ⟨.type "tuple", oR, .seq #[.str "first" tR1, .str "between" tR2, .str "last" tR3] nR, sR⟩)
    (a1 : PySem.W.nsIn K mainGlobals "is_letter" = some (some (.ref f1)))
    (l1 : K.lookup f1 = some ⟨oc1, od1, .func (PySem.W.fnOf "is_letter" "is_letter" (defArgs s_is_letter) (defBody s_is_letter) (defScope s_is_letter) .none kV1 dc1 pm1 an1 cd1 ct1), sl1⟩)
    (c1 : PySem.W.codeIn K cd1 "is_letter" = true)
    (k1 : PySem.W.keepIn K (.ref f1) = true)
    (a2 : PySem.W.nsIn K mainGlobals "size_of" = some (some (.ref f2)))
    (l2 : K.lookup f2 = some ⟨oc2, od2, .func (PySem.W.fnOf "size_of" "size_of" (defArgs s_size_of) (defBody s_size_of) (defScope s_size_of) .none kV2 dc2 pm2 an2 cd2 ct2), sl2⟩)
    (c2 : PySem.W.codeIn K cd2 "size_of" = true)
    (k2 : PySem.W.keepIn K (.ref f2) = true)
    (a3 : PySem.W.nsIn K mainGlobals "is_kind" = some (some (.ref f3)))
    (l3 : K.lookup f3 = some ⟨oc3, od3, .func (PySem.W.fnOf "is_kind" "is_kind" (defArgs s_is_kind) (defBody s_is_kind) (defScope s_is_kind) .none kV3 dc3 pm3 an3 cd3 ct3), sl3⟩)
    (c3 : PySem.W.codeIn K cd3 "is_kind" = true)
    (k3 : PySem.W.keepIn K (.ref f3) = true)
    (a4 : PySem.W.nsIn K mainGlobals "ordered_steps" = some (some (.ref f4)))
    (l4 : K.lookup f4 = some ⟨oc4, od4, .func (PySem.W.fnOf "ordered_steps" "ordered_steps" (defArgs s_ordered_steps) (defBody s_ordered_steps) (defScope s_ordered_steps) .none kV4 dc4 pm4 an4 cd4 ct4), sl4⟩)
    (c4 : PySem.W.codeIn K cd4 "ordered_steps" = true)
    (k4 : PySem.W.keepIn K (.ref f4) = true)
    (a5 : PySem.W.nsIn K mainGlobals "deep_steps" = some (some (.ref f5)))
    (l5 : K.lookup f5 = some ⟨oc5, od5, .func (PySem.W.fnOf "deep_steps" "deep_steps" (defArgs s_deep_steps) (defBody s_deep_steps) (defScope s_deep_steps) .none kV5 dc5 pm5 an5 cd5 ct5), sl5⟩)
    (c5 : PySem.W.codeIn K cd5 "deep_steps" = true)
    (k5 : PySem.W.keepIn K (.ref f5) = true)
    (a6 : PySem.W.nsIn K mainGlobals "walk" = some (some (.ref f6)))
    (l6 : K.lookup f6 = some ⟨oc6, od6, .func (PySem.W.fnOf "walk" "walk" (defArgs s_walk) (defBody s_walk) (defScope s_walk) .none kV6 dc6 pm6 an6 cd6 ct6), sl6⟩)
    (c6 : PySem.W.codeIn K cd6 "walk" = true)
    (k6 : PySem.W.keepIn K (.ref f6) = true)
    (a7 : PySem.W.nsIn K mainGlobals "walks" = some (some (.ref f7)))
    (l7 : K.lookup f7 = some ⟨oc7, od7, .func (PySem.W.fnOf "walks" "walks" (defArgs s_walks) (defBody s_walks) (defScope s_walks) .none kV7 dc7 pm7 an7 cd7 ct7), sl7⟩)
    (c7 : PySem.W.codeIn K cd7 "walks" = true)
    (k7 : PySem.W.keepIn K (.ref f7) = true)
    (a8 : PySem.W.nsIn K mainGlobals "is_row" = some (some (.ref f8)))
    (l8 : K.lookup f8 = some ⟨oc8, od8, .func (PySem.W.fnOf "is_row" "is_row" (defArgs s_is_row) (defBody s_is_row) (defScope s_is_row) .none kV8 dc8 pm8 an8 cd8 ct8), sl8⟩)
    (c8 : PySem.W.codeIn K cd8 "is_row" = true)
    (k8 : PySem.W.keepIn K (.ref f8) = true)
    (a9 : PySem.W.nsIn K mainGlobals "three_rows" = some (some (.ref f9)))
    (l9 : K.lookup f9 = some ⟨oc9, od9, .func (PySem.W.fnOf "three_rows" "three_rows" (defArgs s_three_rows) (defBody s_three_rows) (defScope s_three_rows) .none kV9 dc9 pm9 an9 cd9 ct9), sl9⟩)
    (c9 : PySem.W.codeIn K cd9 "three_rows" = true)
    (k9 : PySem.W.keepIn K (.ref f9) = true)
    (a10 : PySem.W.nsIn K mainGlobals "tree_fits" = some (some (.ref f10)))
    (l10 : K.lookup f10 = some ⟨oc10, od10, .func (PySem.W.fnOf "tree_fits" "tree_fits" (defArgs s_tree_fits) (defBody s_tree_fits) (defScope s_tree_fits) .none kV10 dc10 pm10 an10 cd10 ct10), sl10⟩)
    (c10 : PySem.W.codeIn K cd10 "tree_fits" = true)
    (k10 : PySem.W.keepIn K (.ref f10) = true)
    (a11 : PySem.W.nsIn K mainGlobals "fits" = some (some (.ref f11)))
    (l11 : K.lookup f11 = some ⟨oc11, od11, .func (PySem.W.fnOf "fits" "fits" (defArgs s_fits) (defBody s_fits) (defScope s_fits) .none kV11 dc11 pm11 an11 cd11 ct11), sl11⟩)
    (c11 : PySem.W.codeIn K cd11 "fits" = true)
    (k11 : PySem.W.keepIn K (.ref f11) = true)
    (a12 : PySem.W.nsIn K mainGlobals "_law_deck" = some (some (.ref f12)))
    (l12 : K.lookup f12 = some ⟨oc12, od12, .func (PySem.W.fnOf "_law_deck" "_law_deck" (defArgs s__law_deck) (defBody s__law_deck) (defScope s__law_deck) .none kV12 dc12 pm12 an12 cd12 ct12), sl12⟩)
    (c12 : PySem.W.codeIn K cd12 "_law_deck" = true)
    (k12 : PySem.W.keepIn K (.ref f12) = true)
    (a13 : PySem.W.nsIn K mainGlobals "_law_draw" = some (some (.ref f13)))
    (l13 : K.lookup f13 = some ⟨oc13, od13, .func (PySem.W.fnOf "_law_draw" "_law_draw" (defArgs s__law_draw) (defBody s__law_draw) (defScope s__law_draw) .none kV13 dc13 pm13 an13 cd13 ct13), sl13⟩)
    (c13 : PySem.W.codeIn K cd13 "_law_draw" = true)
    (k13 : PySem.W.keepIn K (.ref f13) = true)
    (a14 : PySem.W.nsIn K mainGlobals "_law_mixed" = some (some (.ref f14)))
    (l14 : K.lookup f14 = some ⟨oc14, od14, .func (PySem.W.fnOf "_law_mixed" "_law_mixed" (defArgs s__law_mixed) (defBody s__law_mixed) (defScope s__law_mixed) .none kV14 dc14 pm14 an14 cd14 ct14), sl14⟩)
    (c14 : PySem.W.codeIn K cd14 "_law_mixed" = true)
    (k14 : PySem.W.keepIn K (.ref f14) = true)
    (a15 : PySem.W.nsIn K mainGlobals "_law_size" = some (some (.ref f15)))
    (l15 : K.lookup f15 = some ⟨oc15, od15, .func (PySem.W.fnOf "_law_size" "_law_size" (defArgs s__law_size) (defBody s__law_size) (defScope s__law_size) .none kV15 dc15 pm15 an15 cd15 ct15), sl15⟩)
    (c15 : PySem.W.codeIn K cd15 "_law_size" = true)
    (k15 : PySem.W.keepIn K (.ref f15) = true)
    (a16 : PySem.W.nsIn K mainGlobals "_law_labelled" = some (some (.ref f16)))
    (l16 : K.lookup f16 = some ⟨oc16, od16, .func (PySem.W.fnOf "_law_labelled" "_law_labelled" (defArgs s__law_labelled) (defBody s__law_labelled) (defScope s__law_labelled) .none kV16 dc16 pm16 an16 cd16 ct16), sl16⟩)
    (c16 : PySem.W.codeIn K cd16 "_law_labelled" = true)
    (k16 : PySem.W.keepIn K (.ref f16) = true)
    (a17 : PySem.W.nsIn K mainGlobals "_law_shape" = some (some (.ref f17)))
    (l17 : K.lookup f17 = some ⟨oc17, od17, .func (PySem.W.fnOf "_law_shape" "_law_shape" (defArgs s__law_shape) (defBody s__law_shape) (defScope s__law_shape) .none kV17 dc17 pm17 an17 cd17 ct17), sl17⟩)
    (c17 : PySem.W.codeIn K cd17 "_law_shape" = true)
    (k17 : PySem.W.keepIn K (.ref f17) = true)
    (a18 : PySem.W.nsIn K mainGlobals "_law_tree" = some (some (.ref f18)))
    (l18 : K.lookup f18 = some ⟨oc18, od18, .func (PySem.W.fnOf "_law_tree" "_law_tree" (defArgs s__law_tree) (defBody s__law_tree) (defScope s__law_tree) .none kV18 dc18 pm18 an18 cd18 ct18), sl18⟩)
    (c18 : PySem.W.codeIn K cd18 "_law_tree" = true)
    (k18 : PySem.W.keepIn K (.ref f18) = true)
    (a19 : PySem.W.nsIn K mainGlobals "_law_walks" = some (some (.ref f19)))
    (l19 : K.lookup f19 = some ⟨oc19, od19, .func (PySem.W.fnOf "_law_walks" "_law_walks" (defArgs s__law_walks) (defBody s__law_walks) (defScope s__law_walks) .none kV19 dc19 pm19 an19 cd19 ct19), sl19⟩)
    (c19 : PySem.W.codeIn K cd19 "_law_walks" = true)
    (k19 : PySem.W.keepIn K (.ref f19) = true)
    (a20 : PySem.W.nsIn K mainGlobals "_law_hidden" = some (some (.ref f20)))
    (l20 : K.lookup f20 = some ⟨oc20, od20, .func (PySem.W.fnOf "_law_hidden" "_law_hidden" (defArgs s__law_hidden) (defBody s__law_hidden) (defScope s__law_hidden) .none kV20 dc20 pm20 an20 cd20 ct20), sl20⟩)
    (c20 : PySem.W.codeIn K cd20 "_law_hidden" = true)
    (k20 : PySem.W.keepIn K (.ref f20) = true)
    (a21 : PySem.W.nsIn K mainGlobals "_law_rows" = some (some (.ref f21)))
    (l21 : K.lookup f21 = some ⟨oc21, od21, .func (PySem.W.fnOf "_law_rows" "_law_rows" (defArgs s__law_rows) (defBody s__law_rows) (defScope s__law_rows) .none kV21 dc21 pm21 an21 cd21 ct21), sl21⟩)
    (c21 : PySem.W.codeIn K cd21 "_law_rows" = true)
    (k21 : PySem.W.keepIn K (.ref f21) = true)
    (a22 : PySem.W.nsIn K mainGlobals "_law_is_like" = some (some (.ref f22)))
    (l22 : K.lookup f22 = some ⟨oc22, od22, .func (PySem.W.fnOf "_law_is_like" "_law_is_like" (defArgs s__law_is_like) (defBody s__law_is_like) (defScope s__law_is_like) .none kV22 dc22 pm22 an22 cd22 ct22), sl22⟩)
    (c22 : PySem.W.codeIn K cd22 "_law_is_like" = true)
    (k22 : PySem.W.keepIn K (.ref f22) = true)
    (a23 : PySem.W.nsIn K mainGlobals "law" = some (some (.ref f23)))
    (l23 : K.lookup f23 = some ⟨oc23, od23, .func (PySem.W.fnOf "law" "law" (defArgs s_law) (defBody s_law) (defScope s_law) .none kV23 dc23 pm23 an23 cd23 ct23), sl23⟩)
    (c23 : PySem.W.codeIn K cd23 "law" = true)
    (k23 : PySem.W.keepIn K (.ref f23) = true)
    (z1 : PySem.W.nsIn K mainGlobals "zip" = some none)
    (z2 : PySem.W.nsIn K mainGlobals "all" = some none)
    (z3 : PySem.W.nsIn K mainGlobals "repr" = some none)
    (z4 : PySem.W.nsIn K mainGlobals "sum" = some none)
    (z5 : PySem.W.nsIn K mainGlobals "len" = some none)
    (z6 : PySem.W.nsIn K mainGlobals "isinstance" = some none)
    (z7 : PySem.W.nsIn K mainGlobals "list" = some none)
    (z8 : PySem.W.nsIn K mainGlobals "tuple" = some none)
    (z9 : PySem.W.nsIn K mainGlobals "str" = some none)
    (z10 : PySem.W.nsIn K mainGlobals "int" = some none)
    (z11 : PySem.W.nsIn K mainGlobals "bool" = some none)
    (z12 : PySem.W.nsIn K mainGlobals "dict" = some none)
    (z13 : PySem.W.nsIn K mainGlobals "range" = some none)
    (z14 : PySem.W.nsIn K mainGlobals "sorted" = some none)
    (z15 : PySem.W.nsIn K mainGlobals "abs" = some none)
    (z16 : PySem.W.nsIn K mainGlobals "min" = some none)
    (z17 : PySem.W.nsIn K mainGlobals "max" = some none)
    (v1 : PySem.W.nsIn K mainGlobals "MAX_NODES" = some (some (.int 12 t1)))
    : ∀ (base : Heap) (H : Hp) (s : Shared) (a : Addr) (ns : List Int), K.In base → base.Ns mainGlobals mg → Env0 l.prog w K mg base callerA [] s H → SqL K H a (ns.map V.int) → ns.length ≤ 63 →
      codeAny (model l.prog w) callerA (.call (.ref fa) ⟨[.ref a], []⟩) (CR CX0 [] l.prog w H s (fun v _ => v = .bl true) fun _ _ _ => False) s := by
  intro base H s a ns _ _ en hS hn
  have e := hfa.symm.trans (PySem.W.mg_of X G a23)
  cases e
  have F1 := fun_mk (st := s_is_letter) l1 c1 k1
  have g1 := PySem.W.mg_of X G a1
  have F2 := fun_mk (st := s_size_of) l2 c2 k2
  have g2 := PySem.W.mg_of X G a2
  have F3 := fun_mk (st := s_is_kind) l3 c3 k3
  have g3 := PySem.W.mg_of X G a3
  have F4 := fun_mk (st := s_ordered_steps) l4 c4 k4
  have g4 := PySem.W.mg_of X G a4
  have F5 := fun_mk (st := s_deep_steps) l5 c5 k5
  have g5 := PySem.W.mg_of X G a5
  have F6 := fun_mk (st := s_walk) l6 c6 k6
  have g6 := PySem.W.mg_of X G a6
  have F7 := fun_mk (st := s_walks) l7 c7 k7
  have g7 := PySem.W.mg_of X G a7
  have F8 := fun_mk (st := s_is_row) l8 c8 k8
  have g8 := PySem.W.mg_of X G a8
  have F9 := fun_mk (st := s_three_rows) l9 c9 k9
  have g9 := PySem.W.mg_of X G a9
  have F10 := fun_mk (st := s_tree_fits) l10 c10 k10
  have g10 := PySem.W.mg_of X G a10
  have F11 := fun_mk (st := s_fits) l11 c11 k11
  have g11 := PySem.W.mg_of X G a11
  have F12 := fun_mk (st := s__law_deck) l12 c12 k12
  have g12 := PySem.W.mg_of X G a12
  have F13 := fun_mk (st := s__law_draw) l13 c13 k13
  have g13 := PySem.W.mg_of X G a13
  have F14 := fun_mk (st := s__law_mixed) l14 c14 k14
  have g14 := PySem.W.mg_of X G a14
  have F15 := fun_mk (st := s__law_size) l15 c15 k15
  have g15 := PySem.W.mg_of X G a15
  have F16 := fun_mk (st := s__law_labelled) l16 c16 k16
  have g16 := PySem.W.mg_of X G a16
  have F17 := fun_mk (st := s__law_shape) l17 c17 k17
  have g17 := PySem.W.mg_of X G a17
  have F18 := fun_mk (st := s__law_tree) l18 c18 k18
  have g18 := PySem.W.mg_of X G a18
  have F19 := fun_mk (st := s__law_walks) l19 c19 k19
  have g19 := PySem.W.mg_of X G a19
  have F20 := fun_mk (st := s__law_hidden) l20 c20 k20
  have g20 := PySem.W.mg_of X G a20
  have F21 := fun_mk (st := s__law_rows) l21 c21 k21
  have g21 := PySem.W.mg_of X G a21
  have F22 := fun_mk (st := s__law_is_like) l22 c22 k22
  have g22 := PySem.W.mg_of X G a22
  have F23 := fun_mk (st := s_law) l23 c23 k23
  have m_zip := PySem.W.mg_none_of X G z1
  have m_all := PySem.W.mg_none_of X G z2
  have m_repr := PySem.W.mg_none_of X G z3
  have m_sum := PySem.W.mg_none_of X G z4
  have m_len := PySem.W.mg_none_of X G z5
  have m_isinstance := PySem.W.mg_none_of X G z6
  have m_list := PySem.W.mg_none_of X G z7
  have m_tuple := PySem.W.mg_none_of X G z8
  have m_str := PySem.W.mg_none_of X G z9
  have m_int := PySem.W.mg_none_of X G z10
  have m_bool := PySem.W.mg_none_of X G z11
  have m_dict := PySem.W.mg_none_of X G z12
  have m_range := PySem.W.mg_none_of X G z13
  have m_sorted := PySem.W.mg_none_of X G z14
  have m_abs := PySem.W.mg_none_of X G z15
  have m_min := PySem.W.mg_none_of X G z16
  have m_max := PySem.W.mg_none_of X G z17
  have m1 := PySem.W.mg_of X G v1
  have b1 := F1.binds (ps := ["value"]) fun _ _ _ _ _ _ us hl => match us, hl with | [_], _ => rfl
  have b2 := F2.binds (ps := ["tree"]) fun _ _ _ _ _ _ us hl => match us, hl with | [_], _ => rfl
  have b3 := F3.binds (ps := ["value"]) fun _ _ _ _ _ _ us hl => match us, hl with | [_], _ => rfl
  have b4 := F4.binds (ps := ["tree", "kind"]) fun _ _ _ _ _ _ us hl => match us, hl with | [_, _], _ => rfl
  have b5 := F5.binds (ps := ["tree", "kind", "path"]) fun _ _ _ _ _ _ us hl => match us, hl with | [_, _, _], _ => rfl
  have b6 := F6.binds (ps := ["tree", "kind"]) fun _ _ _ _ _ _ us hl => match us, hl with | [_, _], _ => rfl
  have b8 := F8.binds (ps := ["value"]) fun _ _ _ _ _ _ us hl => match us, hl with | [_], _ => rfl
  have b9 := F9.binds (ps := ["rows"]) fun _ _ _ _ _ _ us hl => match us, hl with | [_], _ => rfl
  have b10 := F10.binds (ps := ["tree", "given"]) fun _ _ _ _ _ _ us hl => match us, hl with | [_, _], _ => rfl
  have b12 := F12.binds (ps := ["_law_script"]) fun _ _ _ _ _ _ us hl => match us, hl with | [_], _ => rfl
  have b13 := F13.binds (ps := ["_law_deck_here", "_law_many"]) fun _ _ _ _ _ _ us hl => match us, hl with | [_, _], _ => rfl
  have b14 := F14.binds (ps := ["_law_deck_here", "_law_row"]) fun _ _ _ _ _ _ us hl => match us, hl with | [_, _], _ => rfl
  have b15 := F15.binds (ps := ["_law_tree_here"]) fun _ _ _ _ _ _ us hl => match us, hl with | [_], _ => rfl
  have b16 := F16.binds (ps := ["_law_shape_here", "_law_letters"]) fun _ _ _ _ _ _ us hl => match us, hl with | [_, _], _ => rfl
  have b17 := F17.binds (ps := ["_law_deck_here", "_law_many", "_law_way"]) fun _ _ _ _ _ _ us hl => match us, hl with | [_, _, _], _ => rfl
  have b18 := F18.binds (ps := ["_law_deck_here", "_law_most"]) fun _ _ _ _ _ _ us hl => match us, hl with | [_, _], _ => rfl
  have b19 := F19.binds (ps := ["_law_tree_here"]) fun _ _ _ _ _ _ us hl => match us, hl with | [_], _ => rfl
  have b20 := F20.binds (ps := ["_law_deck_here", "_law_row"]) fun _ _ _ _ _ _ us hl => match us, hl with | [_, _], _ => rfl
  have b21 := F21.binds (ps := ["_law_deck_here", "_law_most"]) fun _ _ _ _ _ _ us hl => match us, hl with | [_, _], _ => rfl
  have b22 := F22.binds (ps := ["_law_row", "_law_text"]) fun _ _ _ _ _ _ us hl => match us, hl with | [_, _], _ => rfl
  have M : Mgs mg := ⟨m_zip, m_all, m_repr, m_sum, m_len, m_isinstance, m_list, m_tuple, m_str, m_int, m_bool, m_dict, m_range, m_sorted, m_abs, m_min, m_max⟩
  have Kk : KindsT K mg aK := ⟨PySem.W.mg_of X G aKn, fun H => .inr ⟨_, _, _, aKl, rfl, rfl, (by show 4 ≤ sizeLine; decide), .cons ⟨_, rfl⟩ (.cons ⟨_, rfl⟩ (.cons ⟨_, rfl⟩ (.cons ⟨_, rfl⟩ .nil)))⟩⟩
  have Rk : RowT K mg aR := ⟨PySem.W.mg_of X G aRn, fun H => .inr ⟨_, _, _, aRl, rfl, rfl, (by show 3 ≤ sizeLine; decide), .cons ⟨_, rfl⟩ (.cons ⟨_, rfl⟩ (.cons ⟨_, rfl⟩ .nil))⟩⟩
  have Dis_letter : Df l.prog w K mg base 1 "is_letter" ["value"] spOne := ⟨f1, _, ok_one (k := 0) F1 M, b1, k1, g1⟩
  have Dsize_of : Df l.prog w K mg base 60 "size_of" ["tree"] (fun vs H Q _ => ∃ (v : V) (t : B), vs = [v] ∧ BAt H v t ∧ t.size < 60 ∧ Q (.int (t.size : Int)) H) := ⟨f2, _, ok_size F2 b2 g2 60, b2, k2, g2⟩
  have Dis_kind : Df l.prog w K mg base 1 "is_kind" ["value"] spKind := ⟨f3, _, ok_kind (k := 0) F3 M Kk, b3, k3, g3⟩
  have Ddeep_steps : Df l.prog w K mg base 60 "deep_steps" ["tree", "kind", "path"] (spDeep 60) := ⟨f5, _, ok_deep F5 b5 g5 60, b5, k5, g5⟩
  have Dordered_steps : Df l.prog w K mg base 61 "ordered_steps" ["tree", "kind"] spSteps := ⟨f4, _, ok_steps F4 Dis_kind Ddeep_steps, b4, k4, g4⟩
  have Dwalk : Df l.prog w K mg base 62 "walk" ["tree", "kind"] spWalk := ⟨f6, _, ok_walk F6 Dordered_steps, b6, k6, g6⟩
  have Dwalks : DfR l.prog w K mg base 63 "walks" spWalks := ⟨f7, ok_walks F7 M Dwalk, k7, g7⟩
  have Dis_row : Df l.prog w K mg base 2 "is_row" ["value"] spRow := ⟨f8, _, ok_row F8 M m1 Dis_letter, b8, k8, g8⟩
  have Dthree_rows : Df l.prog w K mg base 3 "three_rows" ["rows"] spThree := ⟨f9, _, ok_three F9 M Rk Dis_row, b9, k9, g9⟩
  have Dtree_fits : Df l.prog w K mg base 64 "tree_fits" ["tree", "given"] spTreeFits := ⟨f10, _, ok_treeFits F10 M Rk Dsize_of Dwalks, b10, k10, g10⟩
  have Dfits : DfK l.prog w K mg base 65 := ⟨f11, fun ks hk => ok_fits (ks_len hk) F11 (kw_fits hk).1 Dthree_rows Dtree_fits, k11, g11⟩
  have D_law_deck : Df l.prog w K mg base 1 "_law_deck" ["_law_script"] (spDeck K) := ⟨f12, _, ok_deck (k := 0) F12 M, b12, k12, g12⟩
  have D_law_draw : Df l.prog w K mg base 1 "_law_draw" ["_law_deck_here", "_law_many"] spDraw := ⟨f13, _, ok_draw (k := 0) F13 M, b13, k13, g13⟩
  have D_law_mixed : Df l.prog w K mg base 2 "_law_mixed" ["_law_deck_here", "_law_row"] spMixed := ⟨f14, _, ok_mixed (k := 0) F14 M D_law_draw, b14, k14, g14⟩
  have D_law_size : Df l.prog w K mg base 30 "_law_size" ["_law_tree_here"] (spSSize 30) := ⟨f15, _, ok_ssize F15 b15 g15 30, b15, k15, g15⟩
  have D_law_labelled : Df l.prog w K mg base 51 "_law_labelled" ["_law_shape_here", "_law_letters"] (spLab 21) := ⟨f16, _, ok_lab F16 b16 g16 D_law_size 21, b16, k16, g16⟩
  have D_law_shape : Df l.prog w K mg base 22 "_law_shape" ["_law_deck_here", "_law_many", "_law_way"] (spShape 21) := ⟨f17, _, ok_shape F17 b17 g17 D_law_draw 21, b17, k17, g17⟩
  have D_law_tree : Df l.prog w K mg base 52 "_law_tree" ["_law_deck_here", "_law_most"] spTree := ⟨f18, _, ok_tree F18 M D_law_draw D_law_mixed D_law_labelled D_law_shape, b18, k18, g18⟩
  have D_law_walks : Df l.prog w K mg base 21 "_law_walks" ["_law_tree_here"] (spLWalks 21) := ⟨f19, _, ok_lwalks F19 b19 g19 21, b19, k19, g19⟩
  have D_law_hidden : Df l.prog w K mg base 2 "_law_hidden" ["_law_deck_here", "_law_row"] spHid := ⟨f20, _, ok_hidden F20 M D_law_draw, b20, k20, g20⟩
  have D_law_rows : Df l.prog w K mg base 53 "_law_rows" ["_law_deck_here", "_law_most"] spLRows := ⟨f21, _, ok_lrows F21 M D_law_draw D_law_tree D_law_walks D_law_hidden, b21, k21, g21⟩
  have D_law_is_like : Df l.prog w K mg base 1 "_law_is_like" ["_law_row", "_law_text"] spLike := ⟨f22, _, ok_like F22 M, b22, k22, g22⟩
  exact run_law F23 (.of_eq rfl) en hS M m_repr D_law_deck D_law_draw D_law_tree D_law_walks D_law_hidden D_law_rows D_law_is_like Dfits
theorem walk_at {l : PySem.W.OpenLaw} {q : Program} {loose : List Str} {XP : (Str → Option Value) → Heap → Prop} {YP : World → Heap → Prop} {d : DefRec} {K : Params → PySem.W.Frag} (most : l.most = some 63) (noDf : d.params.defaults = [])
    (inK : ∀ (w : World) (h : Heap), YP w h → (K w.params).In h)
    (F : ∀ (w : World) (mg : Str → Option Value) (fa : Addr) (h : Heap), (K w.params).In h → h.Ns mainGlobals mg → mg d.name = some (.ref fa) →
      ∀ (base : Heap) (H : Hp) (s : Shared) (a : Addr) (ns : List Int), (K w.params).In base → base.Ns mainGlobals mg → Env0 l.prog w (K w.params) mg base callerA [] s H → SqL (K w.params) H a (ns.map V.int) → ns.length ≤ 63 →
        codeAny (model l.prog w) callerA (.call (.ref fa) ⟨[.ref a], []⟩) (CR CX0 [] l.prog w H s (fun v _ => v = .bl true) fun _ _ _ => False) s) :
    PySem.W.WalkO q loose XP YP l.row.toRowW d [] (fun f vs => PySem.call f vs) := by
  refine Att.attach_call most noDf ?_
  intro w s₀ s₁ mg mb fa o pm cd doc a vs ns G Y ho hd hcd hmg hobj hints hlen hg
  exact law_at (inK w _ Y) G.T.g G.T.b G.T.builtins G.T.nolimit hg hobj hints (Nat.le_trans hlen (by decide)) fun base H h1 h2 en hS => F w mg fa _ (inK w _ Y) G.T.g hmg base H s₁ a ns h1 h2 en hS hlen
end Tw
open PySem PySem.W PyProof.Rows
set_option maxRecDepth 100000 in
set_option maxHeartbeats 0 in
theorem PySem.Challenge.cw_treewalks_k20_trees_judged_holds : PySem.Challenge.rw_treewalks_k20_trees_judged.Holds := by
  w_on; o_law; k_head; (case hw => w_witness2)
  k_fill
  refine Tw.walk_at (l := PySem.Challenge.rw_treewalks_k20_trees_judged) rfl rfl (fun w h Y => by first | exact PySem.W.kIn_of Y | exact PySem.W.km_in_of Y) ?F
  case F =>
    intro w mg fa h KX G hmg
    refine' Tw.all_mk KX G hmg ?aKn ?aKl ?aRn ?aRl ?a1 ?l1 ?c1 ?k1 ?a2 ?l2 ?c2 ?k2 ?a3 ?l3 ?c3 ?k3 ?a4 ?l4 ?c4 ?k4 ?a5 ?l5 ?c5 ?k5 ?a6 ?l6 ?c6 ?k6 ?a7 ?l7 ?c7 ?k7 ?a8 ?l8 ?c8 ?k8 ?a9 ?l9 ?c9 ?k9 ?a10 ?l10 ?c10 ?k10 ?a11 ?l11 ?c11 ?k11 ?a12 ?l12 ?c12 ?k12 ?a13 ?l13 ?c13 ?k13 ?a14 ?l14 ?c14 ?k14 ?a15 ?l15 ?c15 ?k15 ?a16 ?l16 ?c16 ?k16 ?a17 ?l17 ?c17 ?k17 ?a18 ?l18 ?c18 ?k18 ?a19 ?l19 ?c19 ?k19 ?a20 ?l20 ?c20 ?k20 ?a21 ?l21 ?c21 ?k21 ?a22 ?l22 ?c22 ?k22 ?a23 ?l23 ?c23 ?k23 ?z1 ?z2 ?z3 ?z4 ?z5 ?z6 ?z7 ?z8 ?z9 ?z10 ?z11 ?z12 ?z13 ?z14 ?z15 ?z16 ?z17 ?v1
    (case aKn => first | k_is | rfl | decide +kernel)
    (case aKl => first | k_is | rfl | decide +kernel)
    (case aRn => first | k_is | rfl | decide +kernel)
    (case aRl => first | k_is | rfl | decide +kernel)
    (case a1 => k_is)
    (case l1 => k_is)
    (case c1 => k_is)
    (case k1 => k_is)
    (case a2 => k_is)
    (case l2 => k_is)
    (case c2 => k_is)
    (case k2 => k_is)
    (case a3 => k_is)
    (case l3 => k_is)
    (case c3 => k_is)
    (case k3 => k_is)
    (case a4 => k_is)
    (case l4 => k_is)
    (case c4 => k_is)
    (case k4 => k_is)
    (case a5 => k_is)
    (case l5 => k_is)
    (case c5 => k_is)
    (case k5 => k_is)
    (case a6 => k_is)
    (case l6 => k_is)
    (case c6 => k_is)
    (case k6 => k_is)
    (case a7 => k_is)
    (case l7 => k_is)
    (case c7 => k_is)
    (case k7 => k_is)
    (case a8 => k_is)
    (case l8 => k_is)
    (case c8 => k_is)
    (case k8 => k_is)
    (case a9 => k_is)
    (case l9 => k_is)
    (case c9 => k_is)
    (case k9 => k_is)
    (case a10 => k_is)
    (case l10 => k_is)
    (case c10 => k_is)
    (case k10 => k_is)
    (case a11 => k_is)
    (case l11 => k_is)
    (case c11 => k_is)
    (case k11 => k_is)
    (case a12 => k_is)
    (case l12 => k_is)
    (case c12 => k_is)
    (case k12 => k_is)
    (case a13 => k_is)
    (case l13 => k_is)
    (case c13 => k_is)
    (case k13 => k_is)
    (case a14 => k_is)
    (case l14 => k_is)
    (case c14 => k_is)
    (case k14 => k_is)
    (case a15 => k_is)
    (case l15 => k_is)
    (case c15 => k_is)
    (case k15 => k_is)
    (case a16 => k_is)
    (case l16 => k_is)
    (case c16 => k_is)
    (case k16 => k_is)
    (case a17 => k_is)
    (case l17 => k_is)
    (case c17 => k_is)
    (case k17 => k_is)
    (case a18 => k_is)
    (case l18 => k_is)
    (case c18 => k_is)
    (case k18 => k_is)
    (case a19 => k_is)
    (case l19 => k_is)
    (case c19 => k_is)
    (case k19 => k_is)
    (case a20 => k_is)
    (case l20 => k_is)
    (case c20 => k_is)
    (case k20 => k_is)
    (case a21 => k_is)
    (case l21 => k_is)
    (case c21 => k_is)
    (case k21 => k_is)
    (case a22 => k_is)
    (case l22 => k_is)
    (case c22 => k_is)
    (case k22 => k_is)
    (case a23 => k_is)
    (case l23 => k_is)
    (case c23 => k_is)
    (case k23 => k_is)
    (case z1 => k_is)
    (case z2 => k_is)
    (case z3 => k_is)
    (case z4 => k_is)
    (case z5 => k_is)
    (case z6 => k_is)
    (case z7 => k_is)
    (case z8 => k_is)
    (case z9 => k_is)
    (case z10 => k_is)
    (case z11 => k_is)
    (case z12 => k_is)
    (case z13 => k_is)
    (case z14 => k_is)
    (case z15 => k_is)
    (case z16 => k_is)
    (case z17 => k_is)
    (case v1 => k_is)
