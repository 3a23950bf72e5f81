import PyProof.Rows.All
import Wide.All
import OpenK.AllK
import Wide.FinOn
import HandS.ForMost
import HandS.ForExc
import HandS.Wide
import HandS.IsInst
import HandS.Flow
import HandS.FStrTup
import HandS.NoneIn
import HandS.TupAny
import HandS.Style
import HandS.TryMany
import HandS.ExcIs
import HandS.ExcField
import HandS.ExcOwn
import KE.KExcInit
import KE.KExcIs
import HandS.Walk
import HandS.Zip
import HandS.Star
import HandS.Style
import PyProof.Rows.SortShellAny
import KE.GoesZip
import KE.GoesMore
import KE.SortKeyHeap
import HandS.Lambda
import HandS.EndTab
import PyProof.CollectStr
import PyProof.P3Eq
import HandS.Sort
import HandS.Set
import HandS.SetFor
import HandS.Strs
import HandS.SetTxt0
import HandS.TupSets
import HandS.DictComp
import KE.KSortTupG
import KE.KSortTupUse
import HandS.More
import HandS.Replace
import PySem.Challenge.RW_treewalks_k10_pairs_judged
set_option Elab.async false
set_option maxRecDepth 100000
set_option maxHeartbeats 4000000
namespace Tw
open PySem PySem.Spec PyProof.Rows L2
/-! ### trees over signs -/
abbrev ch (c : Nat) : Str := ⟨#[c]⟩
def tx (l : List Nat) : Str := ⟨l.toArray⟩
theorem tx_cps (l : List Nat) : (tx l).cps.toList = l := rfl
theorem tx_size (l : List Nat) : (tx l).cps.size = l.length := rfl
theorem tx_len (l : List Nat) : (tx l).length = l.length := rfl
theorem tx_one (c : Nat) : tx [c] = ch c := rfl
theorem tx_app (a b : List Nat) : tx a ++ tx b = tx (a ++ b) := by
  show (⟨(tx a).cps ++ (tx b).cps⟩ : Str) = _
  simp [tx]
theorem ch_app (c : Nat) (b : List Nat) : ch c ++ tx b = tx (c :: b) := tx_app [c] b
theorem tx_inj {a b : List Nat} (h : tx a = tx b) : a = b := congrArg (fun z : Str => z.cps.toList) h
theorem ch_inj {a b : Nat} (h : ch a = ch b) : a = b := by have := tx_inj (a := [a]) (b := [b]) h; simpa using this
theorem ch_lt (a b : Nat) : decide ((ch a).cps.toList < (ch b).cps.toList) = decide (a < b) := by
  have : ((ch a).cps.toList < (ch b).cps.toList) ↔ a < b := by
    show [a] < [b] ↔ _
    simp [List.cons_lt_cons_iff]
  simp only [this]
theorem tx_to (l : List Nat) (k : Nat) : cutS (tx l) none (some (k : Int)) = tx (l.take k) := by
  unfold cutS tx
  show (⟨_⟩ : Str) = ⟨_⟩
  rw [HT.sIx_nat, HT.sIx_none]
  show (⟨((l.drop 0).take (min k l.length - 0)).toArray⟩ : Str) = ⟨(l.take k).toArray⟩
  rw [List.drop_zero, Nat.sub_zero, Nat.min_def]
  split
  · rfl
  · rw [List.take_of_length_le (Nat.le_refl _), List.take_of_length_le (by omega)]
theorem tx_from (l : List Nat) (k : Nat) : cutS (tx l) (some (k : Int)) none = tx (l.drop k) := by
  unfold cutS tx
  show (⟨_⟩ : Str) = ⟨_⟩
  rw [HT.sIx_nat, HT.sIx_none]
  show (⟨((l.drop (min k l.length)).take (l.length - min k l.length)).toArray⟩ : Str) = ⟨(l.drop k).toArray⟩
  by_cases h : k ≤ l.length
  · rw [Nat.min_eq_left h, List.take_of_length_le (by rw [List.length_drop]; omega)]
  · rw [Nat.min_eq_right (by omega), List.drop_eq_nil_of_le (Nat.le_refl _), List.drop_eq_nil_of_le (by omega), List.take_nil]
theorem joinL_ones : ∀ l : List Nat, TL.joinL [] (l.map fun c => [c]) = l
  | [] => rfl
  | [c] => rfl
  | c :: d :: r => by
    have := joinL_ones (d :: r)
    show [c] ++ ([] ++ TL.joinL [] ((d :: r).map fun c => [c])) = _
    rw [this]; rfl
theorem tx_join (l : List Nat) : Txt.join (Str.ofString "") (l.map ch) = tx l := by
  rw [TL.join_eq]
  have e := TL.tl_join (Str.ofString "") (l.map ch)
  refine TL.ext_tl (e.trans ?_)
  rw [List.map_map]
  exact joinL_ones l
theorem tx_joinOk (l : List Nat) (h : l.length ≤ 1000) : ((l.map ch).map (·.length)).sum + (l.map ch).length * (Str.ofString "").length ≤ 16777216 := by
  have e0 : (Str.ofString "").length = 0 := by decide +kernel
  have e1 : ∀ l : List Nat, ((l.map ch).map (·.length)).sum = l.length := by
    intro l
    induction l with
    | nil => rfl
    | cons c r ih =>
      rw [List.map_cons, List.map_cons, List.sum_cons, ih, List.length_cons]
      show 1 + r.length = _
      omega
  rw [e0, e1]
  omega
inductive B where
  | nil
  | node (l : B) (x : Nat) (r : B)
  deriving DecidableEq
def B.size : B → Nat
  | .nil => 0
  | .node l _ r => l.size + 1 + r.size
def B.deep : B → Nat
  | .nil => 0
  | .node l _ r => 1 + max l.deep r.deep
def B.data : B → PyData
  | .nil => .none
  | .node l x r => .tuple [l.data, .str (ch x), r.data]
def B.pre : B → List Nat
  | .nil => []
  | .node l x r => x :: (l.pre ++ r.pre)
def B.mid : B → List Nat
  | .nil => []
  | .node l x r => l.mid ++ x :: r.mid
theorem B.deep_le : ∀ t : B, t.deep ≤ t.size
  | .nil => Nat.le_refl _
  | .node l _ r => by
    have h1 := l.deep_le
    have h2 := r.deep_le
    show 1 + max l.deep r.deep ≤ l.size + 1 + r.size
    omega
theorem B.pre_len : ∀ t : B, t.pre.length = t.size
  | .nil => rfl
  | .node l x r => by
    have h1 := l.pre_len
    have h2 := r.pre_len
    show (x :: (l.pre ++ r.pre)).length = l.size + 1 + r.size
    rw [List.length_cons, List.length_append]
    omega
theorem B.mid_len : ∀ t : B, t.mid.length = t.size
  | .nil => rfl
  | .node l x r => by
    have h1 := l.mid_len
    have h2 := r.mid_len
    show (l.mid ++ x :: r.mid).length = l.size + 1 + r.size
    rw [List.length_append, List.length_cons]
    omega
theorem B.mid_mem (t : B) (c : Nat) : c ∈ t.mid ↔ c ∈ t.pre := by
  induction t with
  | nil => exact Iff.rfl
  | node l x r h1 h2 =>
    show c ∈ l.mid ++ x :: r.mid ↔ c ∈ x :: (l.pre ++ r.pre)
    rw [List.mem_append, List.mem_cons, List.mem_cons, List.mem_append, h1, h2]
    constructor
    · rintro (h | h | h)
      · exact .inr (.inl h)
      · exact .inl h
      · exact .inr (.inr h)
    · rintro (h | h | h)
      · exact .inr (.inl h)
      · exact .inl h
      · exact .inr (.inr h)
/-- the tree t lies at v -/
inductive BAt (H : Hp) : V → B → Prop
  | nil : BAt H .non .nil
  | node {a : Addr} {l r : V} {x : Nat} {tl tr : B} : H a = some (.tup [l, .str (ch x), r]) → BAt H l tl → BAt H r tr → BAt H (.ref a) (.node tl x tr)
/-- tuples stand still -/
def KeepT (H H' : Hp) : Prop := ∀ b xs, H b = some (.tup xs) → H' b = some (.tup xs)
theorem KeepT.refl (H : Hp) : KeepT H H := fun _ _ h => h
theorem KeepT.trans {H H1 H2 : Hp} (a : KeepT H H1) (b : KeepT H1 H2) : KeepT H H2 := fun c xs h => b c xs (a c xs h)
theorem Same.keepT {H H' : Hp} (h : Same H H') : KeepT H H' := fun b xs e => h b _ e
theorem BAt.keep {H H' : Hp} (k : KeepT H H') {v : V} {t : B} (h : BAt H v t) : BAt H' v t := by
  induction h with
  | nil => exact .nil
  | node e _ _ h1 h2 => exact .node (k _ _ e) h1 h2
theorem BAt.same {H H' : Hp} (k : Same H H') {v : V} {t : B} (h : BAt H v t) : BAt H' v t := h.keep (Tw.Same.keepT k)
theorem BAt.dp {K : PySem.W.Frag} {H : Hp} {v : V} {t : B} (h : BAt H v t) : Dp K H v t.data := by
  induction h with
  | nil => exact .non
  | node e _ _ h1 h2 => exact .tup (SqT.of e) (.cons h1 (.cons (.str _) (.cons h2 .nil)))
theorem BAt.inv {H : Hp} {v : V} {t : B} (h : BAt H v t) : (v = .non ∧ t = .nil) ∨ ∃ a l r x tl tr, v = .ref a ∧ t = .node tl x tr ∧ H a = some (.tup [l, .str (ch x), r]) ∧ BAt H l tl ∧ BAt H r tr := by
  cases h with
  | nil => exact .inl ⟨rfl, rfl⟩
  | node e h1 h2 => exact .inr ⟨_, _, _, _, _, _, rfl, rfl, e, h1, h2⟩
theorem same_new {H : Hp} {p : Addr} (h : H p = none) (o : HO) : Same H (upd H p o) := fun b u q => by rw [upd_ne (ne_of_none q h)]; exact q
theorem small {n : Nat} (h : n ≤ 1000) : n ≤ sizeLine := Nat.le_of_lt (small1000 h)
theorem at_map {α : Type} {f : α → V} {ns : List α} {i : Int} {v : α} (h0 : 0 ≤ i) (h : ns[i.toNat]? = some v) : atI (ns.map f) i = some (f v) := by
  have e : i = ((i.toNat : Nat) : Int) := by omega
  rw [e]
  exact atI_nat (by rw [List.getElem?_map, h]; rfl)
theorem ixN_nat {n : Nat} {i : Int} (h0 : 0 ≤ i) (h : i < n) : ixN n i = some i.toNat := by
  unfold ixN
  first
    | rw [if_pos h0, if_pos h]
    | (rw [if_pos h0]; rw [if_pos (by omega)])
    | simp [h0, h]
theorem cut_to (xs : List V) (k : Nat) : cutV xs none (some (k : Int)) = xs.take k := by
  unfold cutV
  rw [HT.sIx_nat, HT.sIx_none, List.drop_zero, Nat.sub_zero]
  rw [Nat.min_def]
  split
  · rfl
  · rw [List.take_of_length_le (Nat.le_refl _), List.take_of_length_le (by omega)]
theorem cut_from (xs : List V) (k : Nat) : cutV xs (some (k : Int)) none = xs.drop k := by
  unfold cutV
  rw [HT.sIx_nat, HT.sIx_none]
  by_cases h : k ≤ xs.length
  · rw [Nat.min_eq_left h, List.take_of_length_le (by rw [List.length_drop]; omega)]
  · rw [Nat.min_eq_right (by omega), List.drop_eq_nil_of_le (Nat.le_refl _), List.drop_eq_nil_of_le (by omega), List.take_nil]
theorem kept {σ : L2.St} {H : Hp} {A B : Hp → Prop} (h : A H) : tYes σ H (fun b H3 => if b = true then A H3 else B H3) := by
  show if true = true then A H else B H
  exact iteT h
theorem erase_map {α β : Type} (f : α → β) : ∀ (l : List α) (i : Nat), (l.map f).eraseIdx i = (l.eraseIdx i).map f
  | [], _ => rfl
  | _ :: _, 0 => rfl
  | x :: l, i + 1 => congrArg (f x :: ·) (erase_map f l i)
/-- a def that stands at a name, with its promise -/
structure Df (P : Program) (w : World) (K : PySem.W.Frag) (mg : Str → Option Value) (base : Heap) (k : Nat) (nm : Str) (ps : List Str) (sp : Sp) where
  f : Addr
  fd : FuncData
  ok : FnOk P w K mg base CX0 k f fd ps sp
  b : Binds K fd ps []
  kp : PySem.W.keepIn K (.ref f) = true
  g : mg nm = some (.ref f)
structure Mgs (mg : Str → Option Value) : Prop where
  zip : mg "zip" = none
  all : mg "all" = none
  repr : mg "repr" = none
  len : mg "len" = none
  isinstance : mg "isinstance" = none
  list : mg "list" = none
  tuple : mg "tuple" = none
  str : mg "str" = none
  int : mg "int" = none
  bool : mg "bool" = none
  dict : mg "dict" = none
  range : mg "range" = none
  enumerate : mg "enumerate" = none
  sum : mg "sum" = none
  sorted : mg "sorted" = none
  abs : mg "abs" = none
  min : mg "min" = none
  max : mg "max" = none
theorem vals_signs : ∀ (l : List Nat) (vs : List Value), vs.length = l.length → (∀ (j : Nat) (v : Value), vs[j]? = some v → ∃ c u, l[j]? = some c ∧ v = .str ⟨#[c]⟩ u) → Vals (l.map fun c => V.str ⟨#[c]⟩) vs
  | [], [], _, _ => .nil
  | [], _ :: _, h, _ => by simp at h
  | _ :: _, [], h, _ => by simp at h
  | c :: l, v :: vs, h, k => by
    obtain ⟨c', u, e, rfl⟩ := k 0 v rfl
    cases e
    exact .cons ⟨u, rfl⟩ (vals_signs l vs (by simpa using h) fun j v e => k (j + 1) v e)
theorem call_signs {X : Cx} (hc : X.calm = true) : CallR X (.type "list") (fun xs H Q => ∃ x : Str, xs = [.str x] ∧ x.cps.size ≤ 1000 ∧ ∀ p, H p = none → Q (.ref p) (upd H p (.lst (x.cps.toList.map fun c => V.str ⟨#[c]⟩)))) := by
  intro pins s σ H xs us Q I r h
  obtain ⟨x, rfl, hz, q⟩ := h
  obtain ⟨u, rfl, t, rfl⟩ := vals1 r
  have hz' : x.cps.size ≤ sizeLine := small hz
  refine call_list_str (I.ok.hd hc) x t (fun h' tk acc' c' hk hS hacc => ?_) hz'
  have hv : Vals (x.cps.toList.map fun c => V.str ⟨#[c]⟩) acc'.toList := vals_signs _ _ (by rw [Array.length_toList, Array.length_toList]; exact hacc.1) fun j v e => by
    obtain ⟨c, u, h1, h2⟩ := hacc.2 j v (by rw [← Array.getElem?_toList]; exact e)
    exact ⟨c, u, by rw [Array.getElem?_toList]; exact h1, h2⟩
  exact ⟨.ref s.heap.objs.size, _, I.laid (t' := tk) hk (Nat.le_refl _) (show ObjOk X.prog X.w _ h' _ (.lst _) from ⟨by rw [List.length_map, Array.length_toList]; exact hz', acc'.toList, c', hv, by rw [Array.toArray_toList]; exact hS⟩), rfl, q _ (I.hok.fresh (Nat.le_refl _))⟩
/-- for c in text -/
theorem for_text {x : Str} {g : TG} {tb : TS} {D : Ends} {σ : L2.St} {H : Hp} (Pv : Nat → L2.St → Hp → Prop) (h0 : Pv 0 σ H)
    (hs : ∀ i c σ H, x.cps.toList[i]? = some c → Pv i σ H → g (.str ⟨#[c]⟩) σ H fun σ2 H2 => tb { D with nx := Pv (i + 1), ct := Pv (i + 1), bk := D.nx } σ2 H2)
    (hd : ∀ σ H, Pv x.cps.toList.length σ H → D.nx σ H) :
    ∃ W : Nat → Nat → L2.St → Hp → Prop, (∃ m, W 0 m σ H) ∧ ∀ i m σ H, W i m σ H →
      ((Its x).stop i H ∧ D.nx σ H) ∨ ((Its x).go i H ∧ ∃ N : L2.St → Hp → Prop, (∀ σ' H', N σ' H' → ∃ m', m' < m ∧ W (i + 1) m' σ' H') ∧ ∀ v H', (Its x).yld i H v H' → g v σ H' fun σ2 H2 => tb { D with nx := N, ct := N, bk := D.nx } σ2 H2) := by
  refine for_it walk_str Pv h0 (fun _ _ _ _ _ => trivial) (fun i v σ H H' hi hp hy => ?_) (fun σ H hp => hd σ H (by rw [Array.length_toList]; exact hp))
  obtain ⟨rfl, c, hc, rfl⟩ := hy
  exact hs i c σ H' (by rw [Array.getElem?_toList]; exact hc) hp
theorem lc_text {x : Str} {g : TG} {tt : TT} {te : TE} {vs : List Nat} {σ : L2.St} {H1 : Hp} {D : Addr} {Qd : Hp → Prop} (Pv : Nat → Hp → Prop) (h0 : Pv 0 (upd H1 D (.lst [])))
    (hs : ∀ i c H, x.cps.toList[i]? = some c → Pv i H → g (.str ⟨#[c]⟩) (wipe σ vs) H fun σ2 H2 => wipe σ2 vs = wipe σ vs ∧ tt σ2 H2 fun b H3 =>
      if b = true then te σ2 H3 fun y H4 => ∃ acc, H4 D = some (.lst acc) ∧ acc.length < sizeLine ∧ Pv (i + 1) (upd H4 D (.lst (acc ++ [y]))) else Pv (i + 1) H3) (hd : ∀ H, Pv x.cps.toList.length H → Qd H) :
    ∃ W : Nat → Nat → Hp → Prop, (∃ m, W 0 m (upd H1 D (.lst []))) ∧ ∀ i m H, W i m H →
      ((Its x).stop i H ∧ Qd H) ∨ ((Its x).go i H ∧ ∃ Nx : Hp → Prop, (∀ H', Nx H' → ∃ m', m' < m ∧ W (i + 1) m' H') ∧ ∀ v H', (Its x).yld i H v H' → g v (wipe σ vs) H' fun σ2 H2 => wipe σ2 vs = wipe σ vs ∧ tt σ2 H2 fun b H3 =>
        if b = true then te σ2 H3 fun y H4 => ∃ acc, H4 D = some (.lst acc) ∧ acc.length < sizeLine ∧ Nx (upd H4 D (.lst (acc ++ [y]))) else Nx H3) := by
  refine lc_it walk_str Pv h0 (fun _ _ _ _ => trivial) (fun i v H H' hi hp hy => ?_) (fun H hp => hd H (by rw [Array.length_toList]; exact hp))
  obtain ⟨rfl, c, hc, rfl⟩ := hy
  exact hs i c H' (by rw [Array.getElem?_toList]; exact hc) hp
/-! ### the text by places -/
def top (i : Nat) : Stmt := PySem.Challenge.pw_treewalks_k10_pairs_judged.main.body.getD i (.Pass ⟨0, 0, 0, 0⟩)
abbrev s_is_letter : Stmt := top 4
abbrev s_is_kind : Stmt := top 7
abbrev s_ordered_steps : Stmt := top 8
abbrev s_deep_steps : Stmt := top 9
abbrev s_level_steps : Stmt := top 10
abbrev s_walk : Stmt := top 11
abbrev s_walks : Stmt := top 12
abbrev s_has_different_letters : Stmt := top 14
abbrev s_is_pair : Stmt := top 15
abbrev s_pair_of : Stmt := top 16
abbrev s__law_spring : Stmt := top 18
abbrev s__law_draw : Stmt := top 19
abbrev s__law_one : Stmt := top 20
abbrev s__law_same : Stmt := top 21
abbrev s__law_letters : Stmt := top 22
abbrev s__law_grown : Stmt := top 23
abbrev s__law_drawn_tree : Stmt := top 24
abbrev s__law_front : Stmt := top 25
abbrev s__law_back : Stmt := top 26
abbrev s__law_closed : Stmt := top 27
abbrev s__law_pair : Stmt := top 28
abbrev s__law_odd : Stmt := top 29
abbrev s__law_bent : Stmt := top 30
abbrev s__law_is_text : Stmt := top 31
abbrev s__law_due : Stmt := top 32
abbrev s__law_renamed : Stmt := top 33
abbrev s_law : Stmt := top 34
theorem sc_is_letter : FnScope ["value"] ["value"] (defScope s_is_letter) := ⟨rfl, rfl, rfl, by decide +kernel, rfl, by decide +kernel, by decide +kernel⟩
theorem sc_is_kind : FnScope ["value"] ["value"] (defScope s_is_kind) := ⟨rfl, rfl, rfl, by decide +kernel, rfl, by decide +kernel, by decide +kernel⟩
theorem sc_ordered_steps : FnScope ["tree", "kind"] ["tree", "kind"] (defScope s_ordered_steps) := ⟨rfl, rfl, rfl, by decide +kernel, rfl, by decide +kernel, by decide +kernel⟩
theorem sc_deep_steps : FnScope ["tree", "kind", "path", "left", "label", "right", "root", "lefts", "rights"] ["tree", "kind", "path"] (defScope s_deep_steps) := ⟨rfl, rfl, rfl, by decide +kernel, rfl, by decide +kernel, by decide +kernel⟩
theorem sc_level_steps : FnScope ["tree"] ["tree"] (defScope s_level_steps) := ⟨rfl, rfl, rfl, by decide +kernel, rfl, by decide +kernel, by decide +kernel⟩
theorem sc_walk : FnScope ["tree", "kind", "path", "label"] ["tree", "kind"] (defScope s_walk) := ⟨rfl, rfl, rfl, by decide +kernel, rfl, by decide +kernel, by decide +kernel⟩
theorem sc_has_different_letters : FnScope ["value", "sign"] ["value"] (defScope s_has_different_letters) := ⟨rfl, rfl, rfl, by decide +kernel, rfl, by decide +kernel, by decide +kernel⟩
theorem sc_is_pair : FnScope ["value", "first", "last"] ["value"] (defScope s_is_pair) := ⟨rfl, rfl, rfl, by decide +kernel, rfl, by decide +kernel, by decide +kernel⟩
theorem sc_pair_of : FnScope ["tree"] ["tree"] (defScope s_pair_of) := ⟨rfl, rfl, rfl, by decide +kernel, rfl, by decide +kernel, by decide +kernel⟩
theorem sc__law_spring : FnScope ["_law_script", "_law_cell", "_law_cells"] ["_law_script"] (defScope s__law_spring) := ⟨rfl, rfl, rfl, by decide +kernel, rfl, by decide +kernel, by decide +kernel⟩
theorem sc__law_draw : FnScope ["_law_spring_here", "_law_bound", "_law_cells", "_law_rests", "_law_count", "_law_spot", "_law_digit", "_law_mixed"] ["_law_spring_here", "_law_bound"] (defScope s__law_draw) := ⟨rfl, rfl, rfl, by decide +kernel, rfl, by decide +kernel, by decide +kernel⟩
theorem sc__law_one : FnScope ["_law_spring_here", "_law_items"] ["_law_spring_here", "_law_items"] (defScope s__law_one) := ⟨rfl, rfl, rfl, by decide +kernel, rfl, by decide +kernel, by decide +kernel⟩
theorem sc__law_same : FnScope ["_law_found", "_law_due_here", "_law_k"] ["_law_found", "_law_due_here"] (defScope s__law_same) := ⟨rfl, rfl, rfl, by decide +kernel, rfl, by decide +kernel, by decide +kernel⟩
theorem sc__law_letters : FnScope ["_law_spring_here", "_law_many", "_law_left", "_law_k"] ["_law_spring_here", "_law_many"] (defScope s__law_letters) := ⟨rfl, rfl, rfl, by decide +kernel, rfl, by decide +kernel, by decide +kernel⟩
theorem sc__law_grown : FnScope ["_law_spring_here", "_law_letters_here", "_law_way", "_law_some", "_law_spot", "_law_left", "_law_right"] ["_law_spring_here", "_law_letters_here", "_law_way"] (defScope s__law_grown) := ⟨rfl, rfl, rfl, by decide +kernel, rfl, by decide +kernel, by decide +kernel⟩
theorem sc__law_drawn_tree : FnScope ["_law_spring_here", "_law_bound", "_law_letters_here"] ["_law_spring_here", "_law_bound"] (defScope s__law_drawn_tree) := ⟨rfl, rfl, rfl, by decide +kernel, rfl, by decide +kernel, by decide +kernel⟩
theorem sc__law_front : FnScope ["_law_tree"] ["_law_tree"] (defScope s__law_front) := ⟨rfl, rfl, rfl, by decide +kernel, rfl, by decide +kernel, by decide +kernel⟩
theorem sc__law_back : FnScope ["_law_tree"] ["_law_tree"] (defScope s__law_back) := ⟨rfl, rfl, rfl, by decide +kernel, rfl, by decide +kernel, by decide +kernel⟩
theorem sc__law_closed : FnScope ["_law_spring_here", "_law_letters_here", "_law_stack", "_law_found", "_law_letter", "_law_many"] ["_law_spring_here", "_law_letters_here"] (defScope s__law_closed) := ⟨rfl, rfl, rfl, by decide +kernel, rfl, by decide +kernel, by decide +kernel⟩
theorem sc__law_pair : FnScope ["_law_spring_here", "_law_bound", "_law_tree", "_law_way", "_law_front_here", "_law_back_here", "_law_k", "_law_p", "_law_q"] ["_law_spring_here", "_law_bound"] (defScope s__law_pair) := ⟨rfl, rfl, rfl, by decide +kernel, rfl, by decide +kernel, by decide +kernel⟩
theorem sc__law_odd : FnScope ["_law_spring_here", "_law_items"] ["_law_spring_here"] (defScope s__law_odd) := ⟨rfl, rfl, rfl, by decide +kernel, rfl, by decide +kernel, by decide +kernel⟩
theorem sc__law_bent : FnScope ["_law_spring_here", "_law_value", "_law_spot", "_law_some"] ["_law_spring_here", "_law_value"] (defScope s__law_bent) := ⟨rfl, rfl, rfl, by decide +kernel, rfl, by decide +kernel, by decide +kernel⟩
theorem sc__law_is_text : FnScope ["_law_value", "_law_sign"] ["_law_value"] (defScope s__law_is_text) := ⟨rfl, rfl, rfl, by decide +kernel, rfl, by decide +kernel, by decide +kernel⟩
theorem sc__law_due : FnScope ["_law_value"] ["_law_value"] (defScope s__law_due) := ⟨rfl, rfl, rfl, by decide +kernel, rfl, by decide +kernel, by decide +kernel⟩
theorem sc__law_renamed : FnScope ["_law_spring_here", "_law_tree"] ["_law_spring_here", "_law_tree"] (defScope s__law_renamed) := ⟨rfl, rfl, rfl, by decide +kernel, rfl, by decide +kernel, by decide +kernel⟩
theorem sc_law : FnScope ["_law_script", "_law_spring_here", "_law_turn", "_law_pair_here", "_law_tree", "_law_many", "_law_values", "_law_k", "_law_bent_here", "_law_value", "_law_kept", "_law_one_here"] ["_law_script"] (defScope s_law) := ⟨rfl, rfl, rfl, by decide +kernel, rfl, by decide +kernel, by decide +kernel⟩
/-! ### xs != [], xs == [] -/
section
variable {X : Cx}
theorem op_neL (hu : X.A.units < cLine) : OpR X (compareOp .NotEq) (fun x y H Q => ∃ a b xs, x = .ref a ∧ y = .ref b ∧ SqL X.K H a xs ∧ SqL X.K H b [] ∧ Q (.bl (!xs.isEmpty)) H) := by
  intro pins s σ H x y v u Q I rx ry h
  obtain ⟨a, b, xs, rfl, rfl, hx, hy, q⟩ := h
  cases rx
  cases ry
  obtain ⟨its, r1, t1, _⟩ := I.list hx
  obtain ⟨its2, r2, t2, _⟩ := I.list hy
  cases r2
  cases r1 with
  | nil =>
    have rc := SeqAt.RcNeAt.lists (A := X.A) (s := s) (items := ([] : List Value).toArray) (items2 := ([] : List Value).toArray) (e := fun _ => true) t1.isList t2.isList rfl hu (fun j h1 _ => absurd h1 (by simp))
    exact rc X.prog X.w X.xe _ ⟨.bl _, H, I, rfl, q⟩
  | cons _ _ =>
    have rc := SeqAt.RcNeAt.lists_lengths (A := X.A) (s := s) t1.isList t2.isList (by simp) hu
    exact rc X.prog X.w X.xe _ ⟨.bl _, H, I, rfl, q⟩
theorem cmpOf_ltS {prog : Program} {w : World} {A : Around} (x y : Str) (t u : Tok) :
    CmpOf prog w A .Lt (fun i v => (#[Value.str x t, Value.str y u])[i]? = some v) (fun i j => decide (([x, y].getD i x).cps.toList < ([x, y].getD j x).cps.toList)) := fun i j vi vj s Q E hi hj h => by
  have one : ∀ (i : Nat) (v : Value), (#[Value.str x t, Value.str y u])[i]? = some v → ∃ tk, v = .str ([x, y].getD i x) tk := fun i v e => by
    match i with
    | 0 => exact ⟨t, by simpa using e.symm⟩
    | 1 => exact ⟨u, by simpa using e.symm⟩
    | n + 2 => simp at e
  obtain ⟨t1, rfl⟩ := one i vi hi
  obtain ⟨t2, rfl⟩ := one j vj hj
  exact lt_str h
theorem cmpOf_gtS {prog : Program} {w : World} {A : Around} (x y : Str) (t u : Tok) :
    CmpOf prog w A .Gt (fun i v => (#[Value.str x t, Value.str y u])[i]? = some v) (fun i j => decide (([x, y].getD j x).cps.toList < ([x, y].getD i x).cps.toList)) := fun i j vi vj s Q E hi hj h => by
  have one : ∀ (i : Nat) (v : Value), (#[Value.str x t, Value.str y u])[i]? = some v → ∃ tk, v = .str ([x, y].getD i x) tk := fun i v e => by
    match i with
    | 0 => exact ⟨t, by simpa using e.symm⟩
    | 1 => exact ⟨u, by simpa using e.symm⟩
    | n + 2 => simp at e
  obtain ⟨t1, rfl⟩ := one i vi hi
  obtain ⟨t2, rfl⟩ := one j vj hj
  exact PySem.P.gt_str h
theorem argBest1 (bt : Nat → Nat → Bool) : argBest bt 1 = if bt 1 0 = true then 1 else 0 := rfl
theorem max_two_str {prog : Program} {w : World} {A : Around} {E : Value → Shared → Prop} {s : Shared} {Q : Value → Shared → Prop} {x y : Str} {t u : Tok} (hh : A.handled = none)
    (h : ∀ h' tk, (∀ c o, s.heap.get? c = some o → h'.get? c = some o) → Q (if x.cps.toList < y.cps.toList then .str y u else .str x t) { s with heap := h', toks := tk }) :
    wpAny (model prog w) A (call (.builtin "max") [.str x t, .str y u]) Q E s := by
  have hT : (s.heap.push { cls := .type "tuple", data := .seq #[.str x t, .str y u] }).IsTuple s.heap.objs.size #[.str x t, .str y u] := ⟨_, Heap.get?_push_size _ rfl, rfl, 0, rfl⟩
  refine call_max_two (wpAny_pyIter_tuple hT ?_)
  have hsz : (s.heap.push { cls := .type "tuple", data := .seq #[.str x t, .str y u] }).objs.size = s.heap.objs.size + 1 := Heap.size_push ..
  refine ⟨_, [_, s.heap.objs.size], [_], _, _, _, _, rfl, Walks.tuple (A := A.in1) hh _ s.heap.objs.size (by rw [hsz]; exact Nat.ne_of_lt (Nat.lt_succ_self _)) #[.str x t, .str y u],
    ⟨⟨_, Heap.get?_push_size _ rfl, rfl, rfl⟩, hT.push _⟩, fun c hc => ?_, by simp, cmpOf_gtS x y t u, fun v h' tk hP hk => ?_⟩
  · show c < ((s.heap.push _).push _).objs.size
    rw [Heap.size_push, hsz]
    rcases List.mem_cons.mp hc with rfl | hc
    · rw [hsz]; exact Nat.lt_succ_self _
    · rcases List.mem_cons.mp hc with rfl | hc
      · exact Nat.lt_succ_of_lt (Nat.lt_succ_self _)
      · cases hc
  · have hold : ∀ c o, s.heap.get? c = some o → h'.get? c = some o := fun c o e => by
      refine hk c o (fun hm => ?_) (Heap.get?_push_of_some _ (Heap.get?_push_of_some _ e))
      rcases List.mem_cons.mp hm with e1 | hm
      · have := Heap.lt_size e; rw [e1, hsz] at this; exact Nat.lt_irrefl _ (Nat.lt_of_succ_lt this)
      · cases hm
    have := h h' tk hold
    have hv : v = if x.cps.toList < y.cps.toList then .str y u else .str x t := by
      rw [show #[Value.str x t, Value.str y u].size - 1 = 1 from rfl, argBest1] at hP
      replace hP : #[Value.str x t, Value.str y u][if decide (x.cps.toList < y.cps.toList) = true then 1 else 0]? = some v := hP
      by_cases hc : x.cps.toList < y.cps.toList
      · rw [if_pos (decide_eq_true hc)] at hP
        rw [if_pos hc]
        exact (Option.some.inj hP).symm
      · rw [if_neg (fun z => hc (of_decide_eq_true z))] at hP
        rw [if_neg hc]
        exact (Option.some.inj hP).symm
    rw [hv]; exact this
theorem min_two_str {prog : Program} {w : World} {A : Around} {E : Value → Shared → Prop} {s : Shared} {Q : Value → Shared → Prop} {x y : Str} {t u : Tok} (hh : A.handled = none)
    (h : ∀ h' tk, (∀ c o, s.heap.get? c = some o → h'.get? c = some o) → Q (if y.cps.toList < x.cps.toList then .str y u else .str x t) { s with heap := h', toks := tk }) :
    wpAny (model prog w) A (call (.builtin "min") [.str x t, .str y u]) Q E s := by
  have hT : (s.heap.push { cls := .type "tuple", data := .seq #[.str x t, .str y u] }).IsTuple s.heap.objs.size #[.str x t, .str y u] := ⟨_, Heap.get?_push_size _ rfl, rfl, 0, rfl⟩
  refine call_min_two (wpAny_pyIter_tuple hT ?_)
  have hsz : (s.heap.push { cls := .type "tuple", data := .seq #[.str x t, .str y u] }).objs.size = s.heap.objs.size + 1 := Heap.size_push ..
  refine ⟨_, [_, s.heap.objs.size], [_], _, _, _, _, rfl, Walks.tuple (A := A.in1) hh _ s.heap.objs.size (by rw [hsz]; exact Nat.ne_of_lt (Nat.lt_succ_self _)) #[.str x t, .str y u],
    ⟨⟨_, Heap.get?_push_size _ rfl, rfl, rfl⟩, hT.push _⟩, fun c hc => ?_, by simp, cmpOf_ltS x y t u, fun v h' tk hP hk => ?_⟩
  · show c < ((s.heap.push _).push _).objs.size
    rw [Heap.size_push, hsz]
    rcases List.mem_cons.mp hc with rfl | hc
    · rw [hsz]; exact Nat.lt_succ_self _
    · rcases List.mem_cons.mp hc with rfl | hc
      · exact Nat.lt_succ_of_lt (Nat.lt_succ_self _)
      · cases hc
  · have hold : ∀ c o, s.heap.get? c = some o → h'.get? c = some o := fun c o e => by
      refine hk c o (fun hm => ?_) (Heap.get?_push_of_some _ (Heap.get?_push_of_some _ e))
      rcases List.mem_cons.mp hm with e1 | hm
      · have := Heap.lt_size e; rw [e1, hsz] at this; exact Nat.lt_irrefl _ (Nat.lt_of_succ_lt this)
      · cases hm
    have := h h' tk hold
    have hv : v = if y.cps.toList < x.cps.toList then .str y u else .str x t := by
      rw [show #[Value.str x t, Value.str y u].size - 1 = 1 from rfl, argBest1] at hP
      replace hP : #[Value.str x t, Value.str y u][if decide (y.cps.toList < x.cps.toList) = true then 1 else 0]? = some v := hP
      by_cases hc : y.cps.toList < x.cps.toList
      · rw [if_pos (decide_eq_true hc)] at hP
        rw [if_pos hc]
        exact (Option.some.inj hP).symm
      · rw [if_neg (fun z => hc (of_decide_eq_true z))] at hP
        rw [if_neg hc]
        exact (Option.some.inj hP).symm
    rw [hv]; exact this
theorem call_max2S (hc : X.calm = true) : CallR X (.builtin "max") (fun xs H Q => ∃ a b : Nat, xs = [.str (ch a), .str (ch b)] ∧ Q (.str (ch (max a b))) H) := by
  intro pins s σ H xs us Q I r h
  obtain ⟨a, b, rfl, q⟩ := h
  obtain ⟨u, w', rfl, ⟨t, rfl⟩, ⟨t', rfl⟩⟩ := vals2 r
  refine max_two_str (I.ok.hd hc) fun h' tk k => ⟨_, H, I.kept k, ?_, q⟩
  have e : ((ch a).cps.toList < (ch b).cps.toList) ↔ a < b := by
    have := ch_lt a b
    simpa using this
  by_cases hj : a < b
  · rw [if_pos (e.mpr hj), Nat.max_eq_right (Nat.le_of_lt hj)]; exact ⟨_, rfl⟩
  · rw [if_neg (fun z => hj (e.mp z)), Nat.max_eq_left (by omega)]; exact ⟨_, rfl⟩
theorem call_min2S (hc : X.calm = true) : CallR X (.builtin "min") (fun xs H Q => ∃ a b : Nat, xs = [.str (ch a), .str (ch b)] ∧ Q (.str (ch (min a b))) H) := by
  intro pins s σ H xs us Q I r h
  obtain ⟨a, b, rfl, q⟩ := h
  obtain ⟨u, w', rfl, ⟨t, rfl⟩, ⟨t', rfl⟩⟩ := vals2 r
  refine min_two_str (I.ok.hd hc) fun h' tk k => ⟨_, H, I.kept k, ?_, q⟩
  have e : ((ch b).cps.toList < (ch a).cps.toList) ↔ b < a := by
    have := ch_lt b a
    simpa using this
  by_cases hj : b < a
  · rw [if_pos (e.mpr hj), Nat.min_eq_right (Nat.le_of_lt hj)]; exact ⟨_, rfl⟩
  · rw [if_neg (fun z => hj (e.mp z)), Nat.min_eq_left (by omega)]; exact ⟨_, rfl⟩
end
/-! ### the deck -/
structure Deck where
  dk : Addr
  ca : Addr
  ra : Addr
structure DeckOk (H : Hp) (D : Deck) (n : Nat) : Prop where
  ex : ∃ cells rests : List Int, H D.dk = some (.lst [.ref D.ca, .ref D.ra, .int (n : Int)]) ∧ H D.ca = some (.lst (cells.map V.int)) ∧ H D.ra = some (.lst (rests.map V.int)) ∧ 0 < cells.length ∧ rests.length = cells.length ∧ cells.length ≤ 62
  dc : D.dk ≠ D.ca
  dr : D.dk ≠ D.ra
  cr : D.ca ≠ D.ra
/-- all stands still but the deck's list and its rests -/
def SameD (D : Deck) (H H' : Hp) : Prop := ∀ b o, b ≠ D.dk → b ≠ D.ra → H b = some o → H' b = some o
theorem SameD.refl (D : Deck) (H : Hp) : SameD D H H := fun _ _ _ _ h => h
theorem SameD.trans {D : Deck} {H H1 H2 : Hp} (a : SameD D H H1) (b : SameD D H1 H2) : SameD D H H2 := fun c o h1 h2 h => b c o h1 h2 (a c o h1 h2 h)
theorem SameD.of {D : Deck} {H H' : Hp} (h : Same H H') : SameD D H H' := fun b o _ _ e => h b o e
theorem DeckOk.lists {H : Hp} {D : Deck} {n : Nat} (d : DeckOk H D n) : (∃ xs, H D.dk = some (.lst xs)) ∧ (∃ xs, H D.ra = some (.lst xs)) := by
  obtain ⟨c, r, h1, _, h3, _⟩ := d.ex
  exact ⟨⟨_, h1⟩, ⟨_, h3⟩⟩
theorem SameD.keepT {D : Deck} {H H' : Hp} {n : Nat} (h : SameD D H H') (d : DeckOk H D n) : KeepT H H' := fun b xs e => by
  obtain ⟨⟨x1, h1⟩, ⟨x2, h2⟩⟩ := d.lists
  exact h b _ (ne_of e h1 (by intro z; cases z)) (ne_of e h2 (by intro z; cases z)) e
theorem SameD.free {D : Deck} {H H' : Hp} {n : Nat} (h : SameD D H H') (d : DeckOk H' D n) {p : Addr} (e : H' p = none) : H p = none := by
  obtain ⟨⟨x1, h1⟩, ⟨x2, h2⟩⟩ := d.lists
  have n1 : p ≠ D.dk := fun z => by rw [z, h1] at e; cases e
  have n2 : p ≠ D.ra := fun z => by rw [z, h2] at e; cases e
  cases q : H p with
  | none => rfl
  | some o =>
    rw [h p o n1 n2 q] at e
    cases e
theorem DeckOk.same {H H' : Hp} {D : Deck} {n : Nat} (d : DeckOk H D n) (h : Same H H') : DeckOk H' D n := by
  obtain ⟨c, r, h1, h2, h3, h4⟩ := d.ex
  exact ⟨⟨c, r, h _ _ h1, h _ _ h2, h _ _ h3, h4⟩, d.dc, d.dr, d.cr⟩
structure Off (D : Deck) (p : Addr) : Prop where
  dk : p ≠ D.dk
  ca : p ≠ D.ca
  ra : p ≠ D.ra
theorem DeckOk.new {H : Hp} {D : Deck} {n : Nat} (d : DeckOk H D n) {p : Addr} (e : H p = none) : Off D p := by
  obtain ⟨c, r, h1, h2, h3, _⟩ := d.ex
  refine ⟨fun z => ?_, fun z => ?_, fun z => ?_⟩
  · rw [z, h1] at e
    cases e
  · rw [z, h2] at e
    cases e
  · rw [z, h3] at e
    cases e
theorem DeckOk.put {H : Hp} {D : Deck} {n : Nat} (d : DeckOk H D n) {p : Addr} (f : Off D p) (o : HO) : DeckOk (upd H p o) D n := by
  obtain ⟨c, r, h1, h2, h3, h4⟩ := d.ex
  exact ⟨⟨c, r, by rw [upd_ne f.dk.symm]; exact h1, by rw [upd_ne f.ca.symm]; exact h2, by rw [upd_ne f.ra.symm]; exact h3, h4⟩, d.dc, d.dr, d.cr⟩
theorem SameD.put {D : Deck} {H H' : Hp} {p : Addr} (s : SameD D H H') (e : H p = none) (o : HO) : SameD D H (upd H' p o) := fun b u h1 h2 h => by
  rw [upd_ne (ne_of_none h e)]
  exact s b u h1 h2 h
theorem SameD.at {D : Deck} {H H' : Hp} {p : Addr} {o : HO} (s : SameD D H H') (f : Off D p) (e : H p = some o) : H' p = some o := s p o f.dk f.ra e
theorem modB (z p : Int) (h0 : 0 < p) : 0 ≤ z % p ∧ z % p < p := ⟨Int.emod_nonneg z (by omega), Int.emod_lt_of_pos z h0⟩
def spDraw : Sp := fun vs H Q _ => ∃ (D : Deck) (n : Nat) (m : Int), vs = [.ref D.dk, .int m] ∧ DeckOk H D n ∧ n ≤ 1000000 ∧ 0 < m ∧ m < 1000000000 ∧ ∀ (i : Int) (H' : Hp), 0 ≤ i → i < m → DeckOk H' D (n + 1) → SameD D H H' → Q (.int i) H'
section
variable {P : Program} {w : World} {K : PySem.W.Frag} {mg : Str → Option Value} {base : Heap} {f : Addr} {fd : FuncData}
theorem ok_draw {k : Nat} (F : Fun K "_law_draw" "_law_draw" s__law_draw f fd) (M : Mgs mg) : FnOk P w K mg base CX0 (k + 1) f fd ["_law_spring_here", "_law_bound"] spDraw := by
  refine F.ok sc__law_draw (fun vs H Q E h => ?_) (fun cdv A outer s H vs Q E hr h => ?_)
  · obtain ⟨D, n, m, rfl, _⟩ := h
    rfl
  obtain ⟨D, n, m, rfl, d, hn, m0, m1, q⟩ := h
  obtain ⟨cells, rests, e1, e2, e3, c0, cr, c1⟩ := d.ex
  refine ⟨_, (pss_cons (ps_asg (pv 0) (pg_unl rfl (pgs_cons (pg_name (i := 2) sc__law_draw.nd rfl (.inl rfl)) (pgs_cons (pg_name (i := 3) sc__law_draw.nd rfl (.inl rfl)) (pgs_cons (pg_name (i := 4) sc__law_draw.nd rfl (.inl rfl)) pgs_nil)))))
    (pss_cons (ps_set (i := 5) sc__law_draw.nd rfl (.inl rfl) (pe_op op_mod (pv 4) (pe_callB call_len_seq rfl M.len PySem.boot_len (pa_cons (pv 2) pa_nil))))
    (pss_cons (ps_asg (pe_op op_add (pv 4) pe_int) (pg_sub (pv 0) pe_int set_list))
    (pss_cons (ps_if (pt_cmpR op_gt (pe_ix ix_list (pv 3) (pv 5) (fun _ _ => rfl)) pe_int (nomark _))
      (pss_cons (ps_set (i := 6) sc__law_draw.nd rfl (.inl rfl) (pe_op op_mod (pe_ix ix_list (pv 3) (pv 5) (fun _ _ => rfl)) (pv 1)))
    (pss_cons (ps_asg (pe_op op_fdiv (pe_ix ix_list (pv 3) (pv 5) (fun _ _ => rfl)) (pv 1)) (pg_sub (pv 3) (pv 5) set_list))
    (pss_one (ps_ret (pv 6))))) pss_nil)
    (pss_cons (ps_set (i := 7) sc__law_draw.nd rfl (.inl rfl) (pe_op op_mod (pe_op op_pow (pe_op op_add (pe_op op_add (pe_op op_mod (pe_ix ix_list (pv 2) (pv 5) (fun _ _ => rfl)) pe_int) (pe_op op_mul pe_int (pv 4))) pe_int) pe_int) pe_int))
    (pss_cons (ps_set (i := 7) sc__law_draw.nd rfl (.inl rfl) (pe_op op_mod (pe_op op_pow (pe_op op_add (pe_op op_add (pv 7) (pe_op op_mul pe_int (pe_op op_mod (pv 4) pe_int))) pe_int) pe_int) pe_int))
    (pss_one (ps_ret (pe_op op_mod (pe_op op_fdiv (pv 7) pe_int) (pv 1)))))))))), ?_⟩
  refine ⟨_, rfl, D.dk, _, rfl, SqL.of e1, rfl, _, _, rfl, _, _, rfl, _, _, rfl, rfl, ?_⟩
  have cl : ((cells.map V.int).length : Int) = (cells.length : Int) := by rw [List.length_map]
  refine ⟨_, rfl, _, rfl, D.ca, _, rfl, .inl (SqL.of e2), _, _, rfl, rfl, (by show (0 : Int) < ((cells.map V.int).length : Int); rw [cl]; omega), ?_⟩
  have i0 : 0 ≤ (n : Int) % ((cells.map V.int).length : Int) := Int.emod_nonneg _ (by rw [cl]; omega)
  have i1 : (n : Int) % ((cells.map V.int).length : Int) < (cells.length : Int) := by
    rw [cl]
    exact Int.emod_lt_of_pos _ (by omega)
  refine ⟨_, rfl, _, _, rfl, rfl, _, rfl, D.dk, _, _, 2, rfl, rfl, e1, rfl, ?_⟩
  have x2 : (upd H D.dk (.lst [.ref D.ca, .ref D.ra, .int ((n : Int) + 1)])) D.ca = some (.lst (cells.map V.int)) := by rw [upd_ne d.dc.symm]; exact e2
  have x3 : (upd H D.dk (.lst [.ref D.ca, .ref D.ra, .int ((n : Int) + 1)])) D.ra = some (.lst (rests.map V.int)) := by rw [upd_ne d.dr.symm]; exact e3
  have x1 : (upd H D.dk (.lst [.ref D.ca, .ref D.ra, .int ((n : Int) + 1)])) D.dk = some (.lst [.ref D.ca, .ref D.ra, .int ((n + 1 : Nat) : Int)]) := upd_same
  have sd : SameD D H (upd H D.dk (.lst [.ref D.ca, .ref D.ra, .int ((n : Int) + 1)])) := fun b o h1 _ e => by rw [upd_ne h1]; exact e
  have rl : ((rests.map V.int).length : Int) = (cells.length : Int) := by rw [List.length_map, cr]
  have l1 : ((n : Int) % ((cells.map V.int).length : Int)).toNat < rests.length := by omega
  have l2 : ((n : Int) % ((cells.map V.int).length : Int)).toNat < cells.length := by omega
  have a1 := at_map (f := V.int) i0 (List.getElem?_eq_getElem l1)
  have a2 := at_map (f := V.int) i0 (List.getElem?_eq_getElem l2)
  refine ⟨_, rfl, _, rfl, D.ra, _, _, _, rfl, rfl, SqL.of x3, a1, _, _, rfl, rfl, _, rfl, ite2 (fun _ => ?_) (fun _ => ?_)⟩
  · refine ⟨_, rfl, _, rfl, D.ra, _, _, _, rfl, rfl, SqL.of x3, a1, _, rfl, _, _, rfl, rfl, m0, ?_⟩
    refine ⟨_, rfl, _, rfl, D.ra, _, _, _, rfl, rfl, SqL.of x3, a1, _, rfl, _, _, rfl, rfl, ⟨m0, by omega⟩, ?_⟩
    refine ⟨_, rfl, _, rfl, D.ra, _, _, _, rfl, rfl, x3, ixN_nat i0 (by rw [rl]; exact i1), ?_⟩
    refine ⟨_, rfl, ?_⟩
    refine q _ _ (Int.emod_nonneg _ (by omega)) (Int.emod_lt_of_pos _ m0) ⟨⟨cells, rests.set ((n : Int) % ((cells.map V.int).length : Int)).toNat (rests[((n : Int) % ((cells.map V.int).length : Int)).toNat] / m), ?_, ?_, ?_, c0, ?_, c1⟩, d.dc, d.dr, d.cr⟩ ?_
    · rw [upd_ne d.dr]; exact x1
    · rw [upd_ne d.cr]; exact x2
    · rw [upd_same, List.map_set]
    · rw [List.length_set]; exact cr
    · exact sd.trans fun b o _ h2 e => by rw [upd_ne h2]; exact e
  · have b1 := modB cells[((n : Int) % ((cells.map V.int).length : Int)).toNat] 2147483579 (by decide)
    have b2 := modB (n : Int) 983 (by decide)
    refine ⟨_, rfl, _, rfl, D.ca, _, _, _, rfl, rfl, SqL.of x2, a2, _, _, rfl, rfl, (show (0 : Int) < 2147483579 by decide), _, rfl, _, _, rfl, rfl, .inl ⟨by decide, by decide⟩, _, _, rfl, rfl, _, _, rfl, rfl, _, _, rfl, rfl, ⟨by decide, by decide, by omega⟩, _, _, rfl, rfl, (show (0 : Int) < 2147483629 by decide), ?_⟩
    generalize (cells[((n : Int) % ((cells.map V.int).length : Int)).toNat] % 2147483579 + 58309 * (n : Int) + 1213) ^ Int.toNat 3 = y1
    have b3 := modB y1 2147483629 (by decide)
    refine ⟨_, rfl, _, rfl, _, _, rfl, rfl, (show (0 : Int) < 983 by decide), _, _, rfl, rfl, .inl ⟨by decide, by decide⟩, _, _, rfl, rfl, _, _, rfl, rfl, _, _, rfl, rfl, ⟨by decide, by decide, by omega⟩, _, _, rfl, rfl, (show (0 : Int) < 2305843009213693951 by decide), ?_⟩
    refine ⟨_, rfl, _, _, rfl, rfl, ⟨by decide, by decide⟩, _, rfl, _, _, rfl, rfl, m0, ?_⟩
    exact q _ _ (Int.emod_nonneg _ (by omega)) (Int.emod_lt_of_pos _ m0) ⟨⟨cells, rests, x1, x2, x3, c0, cr, c1⟩, d.dc, d.dr, d.cr⟩ sd
end
/-! ### _law_spring -/
theorem rep_flat {α : Type} (a : α) : ∀ m : Nat, (List.replicate m [a]).flatten = List.replicate m a
  | 0 => rfl
  | m + 1 => by
    rw [List.replicate_succ, List.replicate_succ, List.flatten_cons, rep_flat a m]
    rfl
def spSpring (K : PySem.W.Frag) : Sp := fun vs H Q _ => ∃ (a : Addr) (ns : List Int), vs = [.ref a] ∧ SqL K H a (ns.map V.int) ∧ ∀ (D : Deck) (H' : Hp), DeckOk H' D 0 → Same H H' → Q (.ref D.dk) H'
section
variable {P : Program} {w : World} {K : PySem.W.Frag} {mg : Str → Option Value} {base : Heap} {f : Addr} {fd : FuncData}
theorem ok_spring {k : Nat} (F : Fun K "_law_spring" "_law_spring" s__law_spring f fd) (M : Mgs mg) : FnOk P w K mg base CX0 (k + 1) f fd ["_law_script"] (spSpring K) := by
  refine F.ok sc__law_spring (fun vs H Q E h => ?_) (fun cdv A outer s H vs Q E hr h => ?_)
  · obtain ⟨a, ns, rfl, _⟩ := h
    rfl
  obtain ⟨a, ns, rfl, hS, q⟩ := h
  refine ⟨_, (pss_cons (ps_set (i := 2) sc__law_spring.nd rfl (.inl rfl) (pe_op op_cat (pe_lc (own := [("_law_cell", 1)]) (g := gName 1) (tt := tYes) rfl sc__law_spring.nd (pi_list (pe_slice sl_list (pv 0) po_none (po_some pe_int))) (blkOk_by (N := ["_law_script", "_law_cell", "_law_cells"]) (sc := defScope s__law_spring) (by decide +kernel)) (fun _ _ _ _ _ => (pg_name (i := 1) sc__law_spring.nd rfl (.inl rfl))) (fun _ _ _ _ _ => pts_nil) (fun _ _ _ _ _ => (pe_callB call_abs rfl M.abs (by decide +kernel) (pa_cons (pv 1) pa_nil)))) (pe_op op_rep (pe_lst (pa_cons pe_int pa_nil)) (pe_callTy call_int1 rfl M.int (by decide +kernel) (pa_cons (pe_cmpR op_eq (pe_callB call_len_seq rfl M.len PySem.boot_len (pa_cons (pv 0) pa_nil)) pe_int (nomark _)) pa_nil)))))
    (pss_one (ps_ret (pe_lst (pa_cons (pv 2) (pa_cons (pe_lc (own := [("_law_cell", 1)]) (g := gName 1) (tt := tYes) rfl sc__law_spring.nd (pi_list (pv 2)) (blkOk_by (N := ["_law_script", "_law_cell", "_law_cells"]) (sc := defScope s__law_spring) (by decide +kernel)) (fun _ _ _ _ _ => (pg_name (i := 1) sc__law_spring.nd rfl (.inl rfl))) (fun _ _ _ _ _ => pts_nil) (fun _ _ _ _ _ => (pe_op op_mul (pv 1) (pe_callTy call_int1 rfl M.int (by decide +kernel) (pa_cons (pe_cmpR op_ge (pv 1) (pe_op op_pow pe_int pe_int) (nomark _)) pa_nil))))) (pa_cons pe_int pa_nil))))))), ?_⟩
  refine ⟨.ref a, rfl, 62, rfl, a, ns.map V.int, rfl, hS, fun c nc => ?_⟩
  rw [show (62 : Int) = ((62 : Nat) : Int) from rfl, cut_to, ← List.map_take]
  have s1 := same_new nc (.lst ((ns.take 62).map V.int))
  have ec := upd_same (H := H) (a := c) (o := .lst ((ns.take 62).map V.int))
  generalize upd H c (.lst ((ns.take 62).map V.int)) = H1 at s1 ec
  refine ⟨c, rfl, ⟨_, SqL.of ec⟩, fun c2 nc2 => ?_⟩
  have s2 := same_new nc2 (.lst [])
  refine lc_list (K := K) (a := c) (xs := (ns.take 62).map V.int) (fun i H' => Same H1 H' ∧ ∃ ys : List Int, ys.length = i ∧ H' c2 = some (.lst (ys.map V.int))) ⟨s2, [], rfl, upd_same⟩ (fun i H' _ hp => SqL.of (hp.1 _ _ ec)) (fun i x H' hx hp => ?_) (fun H2 hp => ?_)
  · obtain ⟨sm, ys, hy, hd⟩ := hp
    rw [List.getElem?_map] at hx
    obtain ⟨v, hv, rfl⟩ := Option.map_eq_some_iff.mp hx
    have hi : i < 62 := by
      have := (List.getElem?_eq_some_iff.mp hv).1
      rw [List.length_take] at this
      omega
    refine ⟨rfl, kept ?_⟩
    refine ⟨_, rfl, v, rfl, _, hd, by rw [List.length_map]; exact small1000 (by omega), fun b o e => ?_, ys ++ [if v < 0 then -v else v], by rw [List.length_append, hy]; rfl, ?_⟩
    · rw [upd_ne (ne_of_none e nc2)]
      exact sm _ _ e
    · rw [upd_same, List.map_append]
      rfl
  obtain ⟨sm0, cs, hcs0, ec2⟩ := hp
  have hcs : cs.length = min 62 ns.length := by rw [hcs0, List.length_map, List.length_take]
  have s2 := sm0
  refine ⟨(by show 1 ≤ sizeLine; decide), fun z nz => ?_⟩
  have s3 := same_new nz (.lst [.int 0])
  have ez := upd_same (H := H2) (a := z) (o := .lst [.int 0])
  have ec3 := s3 _ _ ec2
  generalize upd H2 z (.lst [.int 0]) = H3 at s3 ez ec3
  have sH := (s1.trans s2).trans s3
  refine ⟨.ref a, rfl, a, _, rfl, .inl (sH.seq hS), rfl, .inr ⟨_, rfl, z, _, _, rfl, rfl, ez, ?_, ?_, ?_, fun y ny => ?_⟩⟩
  · split <;> decide
  · split <;> decide
  · split <;> decide
  have s4 := same_new ny (.lst (List.replicate (Int.toNat (if decide (V.int ((ns.map V.int).length : Int) = V.int 0) = true then 1 else 0)) [V.int 0]).flatten)
  obtain ⟨ex, hex, hexl⟩ : ∃ ex : List Int, (List.replicate (Int.toNat (if decide (V.int ((ns.map V.int).length : Int) = V.int 0) = true then 1 else 0)) [V.int 0]).flatten = ex.map V.int ∧ 0 < cs.length + ex.length ∧ cs.length + ex.length ≤ 62 := by
    by_cases h0 : ns.length = 0
    · refine ⟨[0], ?_, Nat.succ_pos _, ?_⟩
      · rw [show (decide (V.int ((ns.map V.int).length : Int) = V.int 0)) = true by rw [List.length_map, h0]; rfl]
        rfl
      · rw [hcs, h0]; decide
    · refine ⟨[], ?_, ?_, ?_⟩
      · rw [show (decide (V.int ((ns.map V.int).length : Int) = V.int 0)) = false by
          apply decide_eq_false
          intro z
          have z' := V.int.inj z
          rw [List.length_map] at z'
          omega]
        rfl
      · rw [hcs, List.length_nil]; omega
      · rw [hcs, List.length_nil]; omega
  refine ⟨c2, y, _, _, rfl, rfl, s4 _ _ ec3, upd_same, ?_, fun p np => ?_⟩
  · rw [hex, List.length_map, List.length_map]
    exact small (by omega)
  have s5 := same_new np (.lst (cs.map V.int ++ (List.replicate (Int.toNat (if decide (V.int ((ns.map V.int).length : Int) = V.int 0) = true then 1 else 0)) [V.int 0]).flatten))
  have s6 := sH.trans (s4.trans s5)
  refine ⟨.ref p, rfl, _, rfl, p, rfl, ⟨_, SqL.of upd_same⟩, fun r nr => ?_⟩
  rw [hex, ← List.map_append] at s5 s6 nr ⊢
  generalize hH2 : upd (upd H3 y (.lst (ex.map V.int))) p (.lst ((cs ++ ex).map V.int)) = H4 at s5 s6 nr ⊢
  have ep : H4 p = some (.lst ((cs ++ ex).map V.int)) := by rw [← hH2]; exact upd_same
  have hpr : p ≠ r := ne_of_none ep nr
  refine lc_list (K := K) (a := p) (xs := (cs ++ ex).map V.int) (fun i H' => Same H4 H' ∧ ∃ ys : List Int, ys.length = i ∧ H' r = some (.lst (ys.map V.int))) ⟨same_new nr _, [], rfl, upd_same⟩ (fun i H' _ hp => SqL.of (hp.1 _ _ ep)) (fun i x H' hx hp => ?_) (fun H5 hp => ?_)
  · obtain ⟨sm, ys, hy, hd⟩ := hp
    rw [List.getElem?_map] at hx
    obtain ⟨v, hv, rfl⟩ := Option.map_eq_some_iff.mp hx
    have hi : i < 63 := by
      have := (List.getElem?_eq_some_iff.mp hv).1
      rw [List.length_append] at this
      omega
    refine ⟨rfl, kept ?_⟩
    refine ⟨_, rfl, _, rfl, _, _, rfl, rfl, ⟨by decide, by decide, by decide⟩, _, _, rfl, rfl, .inr ⟨_, rfl, _, _, rfl, rfl, .inr ?_, _, hd, by rw [List.length_map]; exact small1000 (by omega), fun b o e => ?_, ys ++ [v * (if decide (v ≥ (10 : Int) ^ Int.toNat 18) = true then 1 else 0)], by rw [List.length_append, hy]; rfl, ?_⟩⟩
    · split <;> decide
    · rw [upd_ne (ne_of_none e nr)]
      exact sm _ _ e
    · rw [upd_same, List.map_append]
      rfl
  · obtain ⟨sm, ys, hy, hd⟩ := hp
    refine ⟨(by show 3 ≤ sizeLine; decide), fun t nt => ?_⟩
    have s9 := same_new nt (.lst [.ref p, .ref r, .int 0])
    have ep3 := sm _ _ ep
    refine q ⟨t, p, r⟩ _ ⟨⟨cs ++ ex, ys, upd_same, s9 _ _ ep3, s9 _ _ hd, ?_, ?_, ?_⟩, (ne_of_none ep3 nt).symm, (ne_of_none hd nt).symm, hpr⟩ (s6.trans (sm.trans s9))
    · rw [List.length_append]; omega
    · rw [hy, List.length_map]
    · rw [List.length_append]; omega
end
/-! ### _law_letters -/
abbrev vc (c : Nat) : V := .str (ch c)
abbrev vt (z : List Nat) : V := .str (tx z)
theorem at_ge {α : Type} {xs : List α} {i : Int} (h0 : 0 ≤ i) (h : i.toNat < xs.length) : atI xs i = some xs[i.toNat] := by
  have e := atI_nat (xs := xs) (j := i.toNat) (List.getElem?_eq_getElem h)
  rwa [Int.toNat_of_nonneg h0] at e
theorem erase_perm {α : Type} : ∀ {l : List α} {i : Nat} (h : i < l.length), List.Perm (l[i] :: l.eraseIdx i) l
  | x :: l, 0, _ => List.Perm.refl _
  | x :: l, i + 1, h => by
    have := erase_perm (l := l) (i := i) (Nat.lt_of_succ_lt_succ h)
    show List.Perm (l[i]'(Nat.lt_of_succ_lt_succ h) :: x :: l.eraseIdx i) (x :: l)
    exact (List.Perm.swap _ _ _).trans (this.cons x)
abbrev rLenSeq (K : PySem.W.Frag) : List V → Hp → VK → Prop := fun xs H Q => ∃ p ys, xs = [V.ref p] ∧ (SqL K H p ys ∨ SqT K H p ys) ∧ Q (V.int (ys.length : Int)) H
def Lts (l : List Nat) : Prop := l.Nodup ∧ ∀ c ∈ l, 97 ≤ c ∧ c ≤ 122
theorem map_vc (l : List Nat) : l.map vc = (l.map ch).map V.str := by rw [List.map_map]; rfl
def spLetters : Sp := fun vs H Q _ => ∃ (D : Deck) (n m : Nat), vs = [.ref D.dk, .int (m : Int)] ∧ DeckOk H D n ∧ n + m ≤ 1000000 ∧ m ≤ 26 ∧
  ∀ (zs : List Nat) (H' : Hp), DeckOk H' D (n + m) → SameD D H H' → Lts zs → zs.length = m → Q (.str (tx zs)) H'
section
variable {P : Program} {w : World} {K : PySem.W.Frag} {mg : Str → Option Value} {base : Heap} {f : Addr} {fd : FuncData}
theorem ok_letters {k : Nat} (F : Fun K "_law_letters" "_law_letters" s__law_letters f fd) (M : Mgs mg) (D_law_draw : Df P w K mg base (k + 1) "_law_draw" ["_law_spring_here", "_law_bound"] spDraw) : FnOk P w K mg base CX0 (k + 2) f fd ["_law_spring_here", "_law_many"] spLetters := by
  refine F.ok sc__law_letters (fun vs H Q E h => ?_) (fun cdv A outer s H vs Q E hr h => ?_)
  · obtain ⟨D, n, m, rfl, _⟩ := h
    rfl
  obtain ⟨D, n, m, rfl, d, hn, hm, q⟩ := h
  refine ⟨_, (pss_cons (ps_set (i := 2) sc__law_letters.nd rfl (.inr rfl) (pe_callTy (call_signs rfl) rfl M.list (by decide +kernel) (pa_cons pe_str pa_nil)))
    (pss_one (ps_ret (pe_bm PySem.F.plainAttrs_str PySem.F.slot_str_join PySem.F.type_str_join mt_join pe_str (pa_cons (pe_lc (own := [("_law_k", 3)]) (g := gName 3) (tt := tYes) rfl sc__law_letters.nd (pi_range1 rfl M.range (pa_cons (pv 1) pa_nil)) (blkOk_by (N := ["_law_spring_here", "_law_many", "_law_left", "_law_k"]) (sc := defScope s__law_letters) (by decide +kernel)) (fun _ _ _ _ _ => (pg_name (i := 3) sc__law_letters.nd rfl (.inl rfl))) (fun _ _ _ _ _ => pts_nil) (fun _ _ _ _ _ => (show PE _ _ (tBM K _ _ _ _) from pe_bm PySem.F.plainAttrs_list PySem.F.slot_list_pop PySem.F.type_list_pop mt_popAt (pv 2) (pa_cons (pe_call D_law_draw.ok (hr.mono (by omega)) rfl D_law_draw.g D_law_draw.kp D_law_draw.b .nil pass0 (pa_cons (pv 0) (pa_cons (pe_callB (show CallR _ (.builtin "len") (rLenSeq K) from call_len_seq) rfl M.len PySem.boot_len (pa_cons (pv 2) pa_nil)) pa_nil))) pa_nil)))) pa_nil))))), ?_⟩
  have e26 : (Str.ofString "abcdefghijklmnopqrstuvwxyz").cps.toList = (List.range 26).map (· + 97) := by decide +kernel
  refine ⟨Str.ofString "abcdefghijklmnopqrstuvwxyz", rfl, (by decide +kernel), fun ra nra => ?_⟩
  have q1 := same_new nra (.lst ((Str.ofString "abcdefghijklmnopqrstuvwxyz").cps.toList.map vc))
  have era := upd_same (H := H) (a := ra) (o := .lst ((Str.ofString "abcdefghijklmnopqrstuvwxyz").cps.toList.map vc))
  have d1 := d.same q1
  have ora := d.new nra
  have ltsA : Lts (Str.ofString "abcdefghijklmnopqrstuvwxyz").cps.toList := by
    rw [e26]
    refine ⟨by decide +kernel, fun c hc => ?_⟩
    obtain ⟨j, hj, rfl⟩ := List.mem_map.mp hc
    have := List.mem_range.mp hj
    omega
  have lenA : (Str.ofString "abcdefghijklmnopqrstuvwxyz").cps.toList.length = 26 := by rw [e26]; rfl
  generalize (Str.ofString "abcdefghijklmnopqrstuvwxyz").cps.toList = AL at q1 era d1 ltsA lenA ⊢
  have nraS : ∀ {H' : Hp}, SameD D (upd H ra (.lst (AL.map vc))) H' → SameD D H H' := fun s b o h1 h2 e => s b o h1 h2 (q1 b o e)
  generalize hH1 : upd H ra (.lst (AL.map vc)) = H1 at q1 era d1 nraS ⊢
  refine ⟨rfl, _, rfl, (m : Int), rfl, by omega, by omega, fun Dc nDc => ?_⟩
  rw [Int.toNat_natCast]
  have oDc := d1.new nDc
  have nrd : ra ≠ Dc := ne_of_none era nDc
  have nDcH : H Dc = none := by
    cases z : H Dc with
    | none => rfl
    | some o => rw [q1 _ _ z] at nDc; cases nDc
  refine lc_it (walk_range (lo := 0) (n := m)) (fun i H' => ∃ rest xs : List Nat, xs.length = i ∧ DeckOk H' D (n + i) ∧ SameD D H H' ∧ H' ra = some (.lst (rest.map vc)) ∧ H' Dc = some (.lst (xs.map vc)) ∧ (xs ++ rest).Perm AL)
    ⟨AL, [], rfl, d1.put oDc _, (SameD.of q1).put nDcH _, by rw [upd_ne nrd]; exact era, upd_same, .refl _⟩ (fun i H' _ _ => trivial) (fun i x H' H'' hi hp hy => ?_) (fun H' hp => ?_)
  · obtain ⟨rest, xs, hx, d2, s2, er, eD, pm⟩ := hp
    obtain ⟨rfl, rfl⟩ := hy
    have hlen : xs.length + rest.length = 26 := by rw [← List.length_append, pm.length_eq, lenA]
    refine ⟨rfl, kept ?_⟩
    refine ⟨_, rfl, .inl ⟨rfl, _, SqL.of er⟩, _, rfl, _, rfl, ra, _, rfl, .inl (SqL.of er), D, _, _, rfl, d2, by omega, by rw [List.length_map]; omega, by rw [List.length_map]; omega, fun j H2 j0 j1 d3 s3 => ?_⟩
    rw [List.length_map] at j1
    have hj : j.toNat < rest.length := by omega
    have er2 := s3.at ora er
    have eD2 := s3.at oDc eD
    refine ⟨ra, _, j, j.toNat, vc rest[j.toNat], rfl, rfl, er2, by omega, by omega, (ixN_seq (ixN_nat j0 (by rw [List.length_map]; omega))).1, by rw [List.getElem?_map, List.getElem?_eq_getElem hj]; rfl, ?_⟩
    refine ⟨_, by rw [upd_ne nrd.symm]; exact eD2, by rw [List.length_map]; exact small1000 (by omega), rest.eraseIdx j.toNat, xs ++ [rest[j.toNat]], by rw [List.length_append, hx]; rfl, (d3.put ora _).put oDc _, ((s2.trans s3).put nra _).put nDcH _, ?_, ?_, ?_⟩
    · rw [upd_ne nrd, upd_same, erase_map]
    · rw [upd_same, List.map_append]; rfl
    · rw [List.append_assoc]
      exact (List.Perm.append_left xs (erase_perm hj)).trans pm
  · obtain ⟨rest, xs, hx, d2, s2, er, eD, pm⟩ := hp
    rw [map_vc] at eD
    refine ⟨_, Dc, xs.map ch, rfl, rfl, .inl (SqL.of eD), tx_joinOk _ (by omega), ?_⟩
    rw [tx_join]
    have nd : (xs ++ rest).Nodup := pm.nodup_iff.mpr ltsA.1
    exact q xs H' d2 s2 ⟨(List.nodup_append.mp nd).1, fun c hc => ltsA.2 c (pm.mem_iff.mp (List.mem_append_left _ hc))⟩ hx
end
/-! ### _law_grown, _law_drawn_tree, _law_front, _law_back -/
theorem str_0 : Str.ofString "" = tx [] := by decide +kernel
theorem tx_nil {l : List Nat} (h : tx l = Str.ofString "") : l = [] := by rw [str_0] at h; exact tx_inj h
theorem tx_mid {l : List Nat} {i j : Nat} (hi : i ≤ l.length) (hj : j ≤ l.length) : cutS (tx l) (some (i : Int)) (some (j : Int)) = tx ((l.drop i).take (j - i)) := by
  unfold cutS tx
  show (⟨_⟩ : Str) = ⟨_⟩
  rw [HT.sIx_nat, HT.sIx_nat]
  show (⟨((l.drop (min i l.length)).take (min j l.length - min i l.length)).toArray⟩ : Str) = _
  rw [Nat.min_eq_left hi, Nat.min_eq_left hj]
def B.post : B → List Nat
  | .nil => []
  | .node l x r => l.post ++ r.post ++ [x]
theorem B.post_len : ∀ t : B, t.post.length = t.size
  | .nil => rfl
  | .node l x r => by
    have h1 := l.post_len
    have h2 := r.post_len
    show (l.post ++ r.post ++ [x]).length = l.size + 1 + r.size
    rw [List.length_append, List.length_append, h1, h2, List.length_cons, List.length_nil]
    omega
def spFront (N : Nat) : Sp := fun vs H Q _ => ∃ (v : V) (t : B), vs = [v] ∧ BAt H v t ∧ t.size < N ∧ t.size ≤ 300 ∧ Q (.str (tx t.pre)) H
def spBack (N : Nat) : Sp := fun vs H Q _ => ∃ (v : V) (t : B), vs = [v] ∧ BAt H v t ∧ t.size < N ∧ t.size ≤ 300 ∧ Q (.str (tx t.post)) H
section
variable {P : Program} {w : World} {K : PySem.W.Frag} {mg : Str → Option Value} {base : Heap} {f : Addr} {fd : FuncData}
theorem ok_front (F : Fun K "_law_front" "_law_front" s__law_front f fd) (b : Binds K fd ["_law_tree"] []) (g : mg "_law_front" = some (.ref f)) : ∀ N : Nat, FnOk P w K mg base CX0 N f fd ["_law_tree"] (spFront N)
  | 0 => by
    have no : ∀ vs H Q E, ¬ spFront 0 vs H Q E := fun vs H Q E h => by
      obtain ⟨v, t, _, _, h1, _⟩ := h
      omega
    exact ⟨fun vs H Q E h => absurd h (no vs H Q E), fun A outer s H args us vs Q E _ _ _ _ h => absurd h (no vs H Q E)⟩
  | N + 1 => by
    have Dself : Df P w K mg base N "_law_front" ["_law_tree"] (spFront N) := ⟨f, fd, ok_front F b g N, b, F.kp, g⟩
    refine F.ok sc__law_front (fun vs H Q E h => ?_) (fun cdv A outer s H vs Q E hr h => ?_)
    · obtain ⟨v, t, rfl, _⟩ := h
      rfl
    obtain ⟨v, t, rfl, hv, hn, hz, q⟩ := h
    refine ⟨_, (pss_one (ps_ret (pe_ifExp (pt_cmpR op_isN (pv 0) pe_non (nomark _)) pe_str (pe_op op_add_str (pe_op op_add_str (pe_ix ix_tup (pv 0) pe_int (fun _ _ => rfl)) (pe_call Dself.ok (hr.mono (by omega)) rfl Dself.g Dself.kp Dself.b .nil pass0 (pa_cons (pe_ix ix_tup (pv 0) pe_int (fun _ _ => rfl)) pa_nil))) (pe_call Dself.ok (hr.mono (by omega)) rfl Dself.g Dself.kp Dself.b .nil pass0 (pa_cons (pe_ix ix_tup (pv 0) pe_int (fun _ _ => rfl)) pa_nil)))))), ?_⟩
    rcases hv.inv with ⟨rfl, rfl⟩ | ⟨a, l, r, x, tl, tr, rfl, rfl, ea, hl, hr'⟩
    · refine ⟨_, rfl, rfl, _, rfl, iteT ?_⟩
      show Q (.str (Str.ofString "")) H
      rw [str_0]
      exact q
    · have sz : tl.size + 1 + tr.size < N + 1 := hn
      have sz2 : tl.size + 1 + tr.size ≤ 300 := hz
      have pl := tl.pre_len
      have pr := tr.pre_len
      refine ⟨_, rfl, rfl, _, rfl, iteF ?_⟩
      refine ⟨_, rfl, a, _, _, _, rfl, rfl, SqT.of ea, rfl, _, rfl, a, _, _, _, rfl, rfl, SqT.of ea, rfl, l, tl, rfl, hl, by omega, by omega, _, _, rfl, rfl, small (by rw [tx_len]; show 1 + _ ≤ 1000; omega), ?_⟩
      rw [ch_app]
      refine ⟨_, rfl, a, _, _, _, rfl, rfl, SqT.of ea, rfl, r, tr, rfl, hr', by omega, by omega, _, _, rfl, rfl, small (by rw [tx_len, tx_len, List.length_cons]; omega), ?_⟩
      rw [tx_app]
      exact q
theorem ok_back (F : Fun K "_law_back" "_law_back" s__law_back f fd) (b : Binds K fd ["_law_tree"] []) (g : mg "_law_back" = some (.ref f)) : ∀ N : Nat, FnOk P w K mg base CX0 N f fd ["_law_tree"] (spBack N)
  | 0 => by
    have no : ∀ vs H Q E, ¬ spBack 0 vs H Q E := fun vs H Q E h => by
      obtain ⟨v, t, _, _, h1, _⟩ := h
      omega
    exact ⟨fun vs H Q E h => absurd h (no vs H Q E), fun A outer s H args us vs Q E _ _ _ _ h => absurd h (no vs H Q E)⟩
  | N + 1 => by
    have Dself : Df P w K mg base N "_law_back" ["_law_tree"] (spBack N) := ⟨f, fd, ok_back F b g N, b, F.kp, g⟩
    refine F.ok sc__law_back (fun vs H Q E h => ?_) (fun cdv A outer s H vs Q E hr h => ?_)
    · obtain ⟨v, t, rfl, _⟩ := h
      rfl
    obtain ⟨v, t, rfl, hv, hn, hz, q⟩ := h
    refine ⟨_, (pss_one (ps_ret (pe_ifExp (pt_cmpR op_isN (pv 0) pe_non (nomark _)) pe_str (pe_op op_add_str (pe_op op_add_str (pe_call Dself.ok (hr.mono (by omega)) rfl Dself.g Dself.kp Dself.b .nil pass0 (pa_cons (pe_ix ix_tup (pv 0) pe_int (fun _ _ => rfl)) pa_nil)) (pe_call Dself.ok (hr.mono (by omega)) rfl Dself.g Dself.kp Dself.b .nil pass0 (pa_cons (pe_ix ix_tup (pv 0) pe_int (fun _ _ => rfl)) pa_nil))) (pe_ix ix_tup (pv 0) pe_int (fun _ _ => rfl)))))), ?_⟩
    rcases hv.inv with ⟨rfl, rfl⟩ | ⟨a, l, r, x, tl, tr, rfl, rfl, ea, hl, hr'⟩
    · refine ⟨_, rfl, rfl, _, rfl, iteT ?_⟩
      show Q (.str (Str.ofString "")) H
      rw [str_0]
      exact q
    · have sz : tl.size + 1 + tr.size < N + 1 := hn
      have sz2 : tl.size + 1 + tr.size ≤ 300 := hz
      have pl := tl.post_len
      have pr := tr.post_len
      refine ⟨_, rfl, rfl, _, rfl, iteF ?_⟩
      refine ⟨_, rfl, a, _, _, _, rfl, rfl, SqT.of ea, rfl, l, tl, rfl, hl, by omega, by omega, _, rfl, a, _, _, _, rfl, rfl, SqT.of ea, rfl, r, tr, rfl, hr', by omega, by omega, _, _, rfl, rfl, small (by rw [tx_len, tx_len]; omega), ?_⟩
      rw [tx_app]
      refine ⟨_, rfl, a, _, _, _, rfl, rfl, SqT.of ea, rfl, _, _, rfl, rfl, small (by rw [tx_len, List.length_append]; show _ + 1 ≤ 1000; omega), ?_⟩
      rw [show tx (tl.post ++ tr.post) ++ ch x = tx (tl.post ++ tr.post ++ [x]) from tx_app _ [x]]
      exact q
end
/-! ### _law_grown -/
section
variable {P : Program} {w : World} {K : PySem.W.Frag} {mg : Str → Option Value} {base : Heap} {f : Addr} {fd : FuncData}
def spGrown (N : Nat) : Sp := fun vs H Q _ => ∃ (D : Deck) (n way : Nat) (zs : List Nat), vs = [.ref D.dk, .str (tx zs), .int (way : Int)] ∧ way < 3 ∧ zs.length < N ∧ zs.length ≤ 100 ∧ DeckOk H D n ∧ n + 2 * zs.length ≤ 1000000 ∧
  ∀ (v : V) (t : B) (H' : Hp), DeckOk H' D (n + 2 * zs.length) → SameD D H H' → BAt H' v t → t.pre = zs → Q v H'
theorem ok_grown (F : Fun K "_law_grown" "_law_grown" s__law_grown f fd) (M : Mgs mg) (b : Binds K fd ["_law_spring_here", "_law_letters_here", "_law_way"] []) (g : mg "_law_grown" = some (.ref f)) (D_law_draw : Df P w K mg base 1 "_law_draw" ["_law_spring_here", "_law_bound"] spDraw) :
    ∀ N : Nat, FnOk P w K mg base CX0 (N + 1) f fd ["_law_spring_here", "_law_letters_here", "_law_way"] (spGrown N)
  | 0 => by
    have no : ∀ vs H Q E, ¬ spGrown 0 vs H Q E := fun vs H Q E h => by
      obtain ⟨D, n, way, zs, _, _, h1, _⟩ := h
      omega
    exact ⟨fun vs H Q E h => absurd h (no vs H Q E), fun A outer s H args us vs Q E _ _ _ _ h => absurd h (no vs H Q E)⟩
  | N + 1 => by
    have Dself : Df P w K mg base (N + 1) "_law_grown" ["_law_spring_here", "_law_letters_here", "_law_way"] (spGrown N) := ⟨f, fd, ok_grown F M b g D_law_draw N, b, F.kp, g⟩
    refine F.ok (k := N + 1) sc__law_grown (fun vs H Q E h => ?_) (fun cdv A outer s H vs Q E hr h => ?_)
    · obtain ⟨D, n, way, zs, rfl, _⟩ := h
      rfl
    obtain ⟨D, n, way, zs, rfl, hw, hn, h100, d, hc, q⟩ := h
    refine ⟨_, (pss_cons (ps_if (pt_cmpR op_eq (pv 1) pe_str (nomark _))
      (pss_one (ps_ret pe_non)) pss_nil)
    (pss_cons (ps_set (i := 3) sc__law_grown.nd rfl (.inl rfl) (pe_op op_sub (pe_callB call_len_str rfl M.len PySem.boot_len (pa_cons (pv 1) pa_nil)) pe_int))
    (pss_cons (ps_set (i := 4) sc__law_grown.nd rfl (.inl rfl) (pe_ix ix_list (pe_lst (pa_cons (pe_call D_law_draw.ok (hr.mono (by omega)) rfl D_law_draw.g D_law_draw.kp D_law_draw.b .nil pass0 (pa_cons (pv 0) (pa_cons (pe_op op_add (pv 3) pe_int) pa_nil))) (pa_cons (pe_op op_mul (pv 3) (pe_call D_law_draw.ok (hr.mono (by omega)) rfl D_law_draw.g D_law_draw.kp D_law_draw.b .nil pass0 (pa_cons (pv 0) (pa_cons pe_int pa_nil)))) (pa_cons (pe_op op_fdiv (pv 3) pe_int) pa_nil)))) (pv 2) (fun _ _ => rfl)))
    (pss_cons (ps_par (i := 5) (j := 6) (by rfl) sc__law_grown.nd rfl rfl (by decide) rfl rfl (pa_cons (pe_slice sl_str (pv 1) (po_some pe_int) (po_some (pe_op op_add (pv 4) pe_int))) (pa_cons (pe_slice sl_str (pv 1) (po_some (pe_op op_add (pv 4) pe_int)) po_none) pa_nil)) (by rfl))
    (pss_one (ps_ret (pe_tup (pa_cons (pe_call Dself.ok (hr.mono (by omega)) rfl Dself.g Dself.kp Dself.b .nil pass0 (pa_cons (pv 0) (pa_cons (pv 5) (pa_cons (pv 2) pa_nil)))) (pa_cons (pe_ix ix_str (pv 1) pe_int (fun _ _ => rfl)) (pa_cons (pe_call Dself.ok (hr.mono (by omega)) rfl Dself.g Dself.kp Dself.b .nil pass0 (pa_cons (pv 0) (pa_cons (pv 6) (pa_cons (pv 2) pa_nil)))) pa_nil)))))))))), ?_⟩
    refine ⟨_, rfl, rfl, _, rfl, ?_⟩
    cases zs with
    | nil =>
      rw [show decide (V.str (tx []) = V.str (Str.ofString "")) = true from decide_eq_true (congrArg V.str str_0.symm)]
      exact iteT (q .non .nil H d (SameD.refl D H) .nil rfl)
    | cons x zs =>
      rw [decide_eq_false (fun e => by have := tx_nil (V.str.inj e); cases this)]
      refine iteF ?_
      have hn' : zs.length + 1 < N + 1 := hn
      have h100' : zs.length + 1 ≤ 100 := h100
      have hc' : n + 2 * (zs.length + 1) ≤ 1000000 := hc
      refine ⟨_, rfl, tx (x :: zs), rfl, (by rw [tx_len]; exact Nat.le_of_lt (small (by omega))), _, _, rfl, rfl, ?_⟩
      rw [tx_len]
      have el : (((x :: zs).length : Nat) : Int) - 1 = (zs.length : Int) := by rw [List.length_cons]; omega
      generalize hz3 : (fun i j : Int => V.int (i - j)) (((x :: zs).length : Nat) : Int) 1 = z3
      obtain rfl : z3 = .int (zs.length : Int) := by rw [← hz3]; exact congrArg V.int el
      refine ⟨_, rfl, _, rfl, _, _, rfl, rfl, D, n, _, rfl, d, by omega, by omega, by omega, fun i H1 i0 i1 d1 s1 => ?_⟩
      refine ⟨_, rfl, _, rfl, D, n + 1, _, rfl, d1, by omega, by decide, by decide, fun j H2 j0 j1 d2 s2 => ?_⟩
      refine ⟨_, _, rfl, rfl, ?_, ?_⟩
      · exact .inl ⟨by omega, by omega⟩
      refine ⟨_, rfl, _, _, rfl, rfl, ⟨by decide, by decide⟩, (by show 3 ≤ sizeLine; decide), fun p np => ?_⟩
      have jm : ∃ mz : Nat, mz ≤ zs.length ∧ (zs.length : Int) * j = (mz : Int) := by
        rcases (by omega : j = 0 ∨ j = 1) with rfl | rfl
        · exact ⟨0, Nat.zero_le _, by omega⟩
        · exact ⟨zs.length, Nat.le_refl _, by omega⟩
      obtain ⟨mz, hmz, emz⟩ := jm
      have sp0 : ∃ sp : Nat, sp ≤ zs.length ∧ atI [V.int i, (fun i j : Int => V.int (i * j)) (zs.length : Int) j, (fun i j : Int => V.int (i / j)) (zs.length : Int) 2] (way : Int) = some (V.int (sp : Int)) := by
        rcases (by omega : way = 0 ∨ way = 1 ∨ way = 2) with rfl | rfl | rfl
        · refine ⟨i.toNat, by omega, (atI_nat (j := 0) rfl).trans ?_⟩
          rw [Int.toNat_of_nonneg i0]
        · exact ⟨mz, hmz, (atI_nat (j := 1) rfl).trans (congrArg (fun z => some (V.int z)) emz)⟩
        · exact ⟨zs.length / 2, by omega, (atI_nat (j := 2) rfl).trans (congrArg (fun z => some (V.int z)) (by omega))⟩
      obtain ⟨sp, hsp, esp⟩ := sp0
      have d3 := d2.put (d2.new np) (.lst [V.int i, (fun i j : Int => V.int (i * j)) (zs.length : Int) j, (fun i j : Int => V.int (i / j)) (zs.length : Int) 2])
      have s3 := (s1.trans s2).trans (SameD.of (same_new np (.lst [V.int i, (fun i j : Int => V.int (i * j)) (zs.length : Int) j, (fun i j : Int => V.int (i / j)) (zs.length : Int) 2])))
      refine ⟨_, rfl, p, _, _, _, rfl, rfl, SqL.of upd_same, esp, ?_⟩
      generalize upd H2 p (.lst [V.int i, (fun i j : Int => V.int (i * j)) (zs.length : Int) j, (fun i j : Int => V.int (i / j)) (zs.length : Int) 2]) = H3 at d3 s3 ⊢
      have c1 : cutS (tx (x :: zs)) (some 1) (some ((sp : Int) + 1)) = tx (zs.take sp) := by
        have h := tx_mid (l := x :: zs) (i := 1) (j := sp + 1) (by rw [List.length_cons]; omega) (by rw [List.length_cons]; omega)
        exact h
      have c2 : cutS (tx (x :: zs)) (some ((sp : Int) + 1)) none = tx (zs.drop sp) := tx_from (x :: zs) (sp + 1)
      have zl : (tx (x :: zs)).length ≤ sizeLine := by rw [tx_len]; exact Nat.le_of_lt (small (by omega))
      refine ⟨_, rfl, 1, rfl, _, rfl, _, _, rfl, rfl, _, rfl, tx (x :: zs), rfl, zl, ?_⟩
      refine ⟨_, rfl, _, rfl, _, _, rfl, rfl, _, rfl, tx (x :: zs), rfl, zl, _, _, rfl, ?_⟩
      rw [c1, c2]
      have lt : (zs.take sp).length = sp := by rw [List.length_take]; omega
      have ld : (zs.drop sp).length = zs.length - sp := List.length_drop
      refine ⟨_, rfl, _, rfl, _, rfl, D, n + 1 + 1, way, zs.take sp, rfl, hw, by omega, by omega, d3, by omega, fun v1 t1 H4 d4 s4 b1 e1 => ?_⟩
      refine ⟨_, rfl, tx (x :: zs), 0, x, rfl, rfl, zl, atI_nat (j := 0) rfl, ?_⟩
      refine ⟨_, rfl, _, rfl, _, rfl, D, _, way, zs.drop sp, rfl, hw, by omega, by omega, d4, by omega, fun v2 t2 H5 d5 s5 b2 e2 => ⟨(by show 3 ≤ sizeLine; decide), fun p2 np2 => ?_⟩⟩
      have sN := same_new np2 (.tup [v1, V.str (ch x), v2])
      have dN := d5.same sN
      rw [show n + 1 + 1 + 2 * (zs.take sp).length + 2 * (zs.drop sp).length = n + 2 * (x :: zs).length by rw [List.length_cons]; omega] at dN
      refine q _ (.node t1 x t2) _ dN (s3.trans (s4.trans (s5.trans (SameD.of sN)))) (.node upd_same ((b1.keep (s5.keepT d4)).same sN) (b2.same sN)) ?_
      show x :: (t1.pre ++ t2.pre) = x :: zs
      rw [e1, e2, List.take_append_drop]
end
/-! ### _law_drawn_tree -/
def spDrawnTree (N : Nat) : Sp := fun vs H Q _ => ∃ (D : Deck) (n m : Nat), vs = [.ref D.dk, .int (m : Int)] ∧ DeckOk H D n ∧ n ≤ 900000 ∧ 0 < m ∧ m ≤ 26 ∧ m < N ∧
  ∀ (v : V) (t : B) (H' : Hp) (n' : Nat), n' ≤ n + 80 → DeckOk H' D n' → SameD D H H' → BAt H' v t → Lts t.pre → 0 < t.size → t.size ≤ m → Q v H'
section
variable {P : Program} {w : World} {K : PySem.W.Frag} {mg : Str → Option Value} {base : Heap} {f : Addr} {fd : FuncData}
theorem ok_drawn {N : Nat} (F : Fun K "_law_drawn_tree" "_law_drawn_tree" s__law_drawn_tree f fd) (M : Mgs mg)
    (D_law_draw : Df P w K mg base (N + 1) "_law_draw" ["_law_spring_here", "_law_bound"] spDraw)
    (D_law_letters : Df P w K mg base (N + 1) "_law_letters" ["_law_spring_here", "_law_many"] spLetters)
    (D_law_grown : Df P w K mg base (N + 1) "_law_grown" ["_law_spring_here", "_law_letters_here", "_law_way"] (spGrown N)) :
    FnOk P w K mg base CX0 (N + 2) f fd ["_law_spring_here", "_law_bound"] (spDrawnTree N) := by
  refine F.ok (k := N + 1) sc__law_drawn_tree (fun vs H Q E h => ?_) (fun cdv A outer s H vs Q E hr h => ?_)
  · obtain ⟨D, n, m, rfl, _⟩ := h
    rfl
  obtain ⟨D, n, m, rfl, d, hn, m0, m26, mN, q⟩ := h
  refine ⟨_, (pss_cons (ps_set (i := 2) sc__law_drawn_tree.nd rfl (.inl rfl) (pe_call D_law_letters.ok (hr.mono (by omega)) rfl D_law_letters.g D_law_letters.kp D_law_letters.b .nil pass0 (pa_cons (pv 0) (pa_cons (pe_op op_add pe_int (pe_call D_law_draw.ok (hr.mono (by omega)) rfl D_law_draw.g D_law_draw.kp D_law_draw.b .nil pass0 (pa_cons (pv 0) (pa_cons (pv 1) pa_nil)))) pa_nil))))
    (pss_one (ps_ret (pe_call D_law_grown.ok (hr.mono (by omega)) rfl D_law_grown.g D_law_grown.kp D_law_grown.b .nil pass0 (pa_cons (pv 0) (pa_cons (pv 2) (pa_cons (pe_call D_law_draw.ok (hr.mono (by omega)) rfl D_law_draw.g D_law_draw.kp D_law_draw.b .nil pass0 (pa_cons (pv 0) (pa_cons pe_int pa_nil))) pa_nil))))))), ?_⟩
  refine ⟨_, rfl, _, rfl, _, rfl, D, n, _, rfl, d, by omega, by omega, by omega, fun i H1 i0 i1 d1 s1 => ?_⟩
  obtain ⟨k, rfl⟩ := Int.eq_ofNat_of_zero_le i0
  have vk : (fun i j : Int => V.int (i + j)) 1 (k : Int) = V.int ((1 + k : Nat) : Int) := congrArg V.int (by omega)
  refine ⟨_, _, rfl, rfl, D, n + 1, 1 + k, congrArg (fun z => [V.ref D.dk, z]) vk, d1, by omega, by omega, fun zs H2 d2 s2 lz ez => ?_⟩
  refine ⟨_, rfl, _, rfl, _, rfl, D, _, _, rfl, d2, by omega, by decide, by decide, fun j H3 j0 j1 d3 s3 => ?_⟩
  obtain ⟨way, rfl⟩ := Int.eq_ofNat_of_zero_le j0
  refine ⟨D, _, way, zs, rfl, by omega, by omega, by omega, d3, by omega, fun v t H4 d4 s4 b e => ?_⟩
  have ts : t.size = 1 + k := by rw [← t.pre_len, e, ez]
  exact q v t H4 _ (by omega) d4 (s1.trans (s2.trans (s3.trans s4))) b (by rw [e]; exact lz) (by omega) (by omega)
end
/-! ### _law_closed -/
theorem take_nextG {α : Type} {l : List α} {i : Nat} {c : α} (h : l[i]? = some c) : l.take (i + 1) = l.take i ++ [c] := by
  rw [List.take_succ, h]; rfl
theorem take_next {l : List Nat} {i c : Nat} (h : l[i]? = some c) : l.take (i + 1) = l.take i ++ [c] := by
  rw [List.take_succ, h]; rfl
def spClosed : Sp := fun vs H Q _ => ∃ (D : Deck) (n : Nat) (zs : List Nat), vs = [.ref D.dk, .str (tx zs)] ∧ DeckOk H D n ∧ n + zs.length ≤ 1000000 ∧ zs.length ≤ 100 ∧
  ∀ (ys : List Nat) (H' : Hp) (n' : Nat), n' ≤ n + zs.length → DeckOk H' D n' → SameD D H H' → ys.Perm zs → Q (.str (tx ys)) H'
section
variable {P : Program} {w : World} {K : PySem.W.Frag} {mg : Str → Option Value} {base : Heap} {f : Addr} {fd : FuncData}
theorem last_map {l : List Nat} (h : 0 < l.length) : (l.map vc)[(l.map vc).length - 1]? = some (vc (l[l.length - 1]'(by omega))) := by
  rw [List.length_map, List.getElem?_map, List.getElem?_eq_getElem (by omega)]
  rfl
theorem drop_last_perm {l : List Nat} (h : 0 < l.length) (fs : List Nat) : (fs ++ [l[l.length - 1]'(by omega)] ++ l.dropLast).Perm (fs ++ l) := by
  have e : l.dropLast ++ [l[l.length - 1]'(by omega)] = l := by
    have hne : l ≠ [] := fun z => by rw [z] at h; exact absurd h (by decide)
    have := List.dropLast_concat_getLast hne
    rw [List.getLast_eq_getElem] at this
    exact this
  conv => rhs; rw [← e]
  rw [List.append_assoc]
  exact List.Perm.append_left fs List.perm_append_comm
theorem ok_closed {k : Nat} (F : Fun K "_law_closed" "_law_closed" s__law_closed f fd) (M : Mgs mg) (D_law_draw : Df P w K mg base (k + 1) "_law_draw" ["_law_spring_here", "_law_bound"] spDraw) : FnOk P w K mg base CX0 (k + 2) f fd ["_law_spring_here", "_law_letters_here"] spClosed := by
  refine F.ok (k := k + 1) sc__law_closed (fun vs H Q E h => ?_) (fun cdv A outer s H vs Q E hr h => ?_)
  · obtain ⟨D, n, zs, rfl, _⟩ := h
    rfl
  obtain ⟨D, n, zs, rfl, d, hn, h100, q⟩ := h
  refine ⟨_, (pss_cons (ps_par (i := 2) (j := 3) (by rfl) sc__law_closed.nd rfl rfl (by decide) rfl rfl (pa_cons (pe_lst pa_nil) (pa_cons pe_str pa_nil)) (by rfl))
    (pss_cons (ps_for PassesOwn.never rfl (pi_str (pv 1)) (pg_name (i := 4) sc__law_closed.nd rfl (.inl rfl))
      (pss_cons (ps_set (i := 5) sc__law_closed.nd rfl (.inl rfl) (pe_ifExp (pt_cmpR (op_neL hr.units0) (pv 2) (pe_lst pa_nil) (nomark _)) (pe_op op_add pe_int (pe_call D_law_draw.ok (hr.mono (by omega)) rfl D_law_draw.g D_law_draw.kp D_law_draw.b .nil pass0 (pa_cons (pv 0) (pa_cons (pe_callB call_len_seq rfl M.len PySem.boot_len (pa_cons (pv 2) pa_nil)) pa_nil)))) pe_int))
    (pss_cons (ps_while PassesOwn.never (pt_cmpR op_gt (pe_callB call_len_seq rfl M.len PySem.boot_len (pa_cons (pv 2) pa_nil)) (pv 5) (nomark _))
      (pss_one (ps_set (i := 3) sc__law_closed.nd rfl (.inl rfl) (pe_op op_add_str (pv 3) (pe_bm0 PySem.F.plainAttrs_list PySem.F.slot_list_pop PySem.F.type_list_pop mt_pop (pv 2))))))
    (pss_one (ps_expr (pe_bm PySem.F.plainAttrs_list PySem.F.slot_list_append PySem.F.type_list_append mt_append (pv 2) (pa_cons (pv 4) pa_nil)))))))
    (pss_one (ps_ret (pe_op op_add_str (pv 3) (pe_bm PySem.F.plainAttrs_str PySem.F.slot_str_join PySem.F.type_str_join mt_join pe_str (pa_cons (pe_revL (pv 2)) pa_nil))))))), ?_⟩
  refine ⟨(by show 0 ≤ sizeLine; decide), fun st nst => ?_⟩
  have q0 := same_new nst (.lst [])
  have est := upd_same (H := H) (a := st) (o := .lst [])
  have d0 := d.same q0
  have ost := d.new nst
  refine ⟨_, _, rfl, ?_⟩
  have nH : ∀ {o : HO} {H' : Hp}, SameD D H H' → SameD D H (upd H' st o) := fun {o H'} s b u h1 h2 h => by
    rw [upd_ne (ne_of_none h nst)]
    exact s b u h1 h2 h
  have sd0 := SameD.of (D := D) q0
  generalize upd H st (.lst []) = H0 at q0 est d0 sd0 ⊢
  refine ⟨_, rfl, _, rfl, ?_⟩
  refine for_text (x := tx zs) (fun i σ H' => ∃ (ss fs : List Nat) (m : Nat) (o4 o5 : Option V), σ = [some (.ref D.dk), some (vt zs), some (.ref st), some (.str (tx fs)), o4, o5] ∧ DeckOk H' D m ∧ m ≤ n + i ∧ SameD D H H' ∧ H' st = some (.lst (ss.map vc)) ∧ (fs ++ ss).Perm (zs.take i))
    ⟨[], [], n, none, none, by rw [← str_0]; rfl, d0, Nat.le_refl _, sd0, est, .refl _⟩ (fun i c σ H1 hc hp => ?_) (fun σ H1 hp => ?_)
  · obtain ⟨ss, fs, m, o4, o5, rfl, d1, lm, s1, e1, pm⟩ := hp
    rw [tx_cps] at hc
    have hi := (List.getElem?_eq_some_iff.mp hc).1
    have plen : fs.length + ss.length = i := by
      have := pm.length_eq
      rw [List.length_append, List.length_take] at this
      omega
    refine ⟨_, rfl, (by show 0 ≤ sizeLine; decide), fun p np => ?_⟩
    have q1 := same_new np (.lst [])
    have e1' := q1 _ _ e1
    have d1' := d1.same q1
    have s1' := s1.trans (SameD.of q1)
    have ep := upd_same (H := H1) (a := p) (o := .lst [])
    generalize upd H1 p (.lst []) = H2 at q1 e1' d1' s1' ep ⊢
    refine ⟨st, p, _, rfl, rfl, SqL.of e1', SqL.of ep, _, rfl, ?_⟩
    have go : ∀ b : Bool, ((!(ss.map vc).isEmpty) = b) → True := fun _ _ => trivial
    by_cases hs : ss = []
    case' pos =>
      subst hs
      refine iteF ?_
      have d2 := d1'
      have s2 := s1'
      have e2 := e1'
      have l2 : m ≤ n + (i + 1) := by omega
      have hj : (0 : Int) ≤ 0 := Int.le_refl 0
    case' neg =>
      have hne : (ss.map vc).isEmpty = false := by
        cases ss with
        | nil => exact absurd rfl hs
        | cons a l => rfl
      rw [show (!(ss.map vc).isEmpty) = true by rw [hne]; rfl]
      have sl : 0 < ss.length := List.length_pos_iff.mpr hs
      refine iteT ⟨_, rfl, _, rfl, st, _, rfl, .inl (SqL.of e1'), D, m, _, rfl, d1', by omega, by rw [List.length_map]; omega, by rw [List.length_map]; omega, fun j H3 j0 j1 d2 s12 => ?_⟩
      refine ⟨_, _, rfl, rfl, ?_⟩
      have s2 := s1'.trans s12
      have e2 := s12.at ost e1'
      have l2 : m + 1 ≤ n + (i + 1) := by omega
      have hj : (0 : Int) ≤ 1 + j := by omega
    all_goals
      refine while_by (fun σ H' => ∃ (ss' fs' : List Nat) (mv : Int), σ = [some (.ref D.dk), some (vt zs), some (.ref st), some (.str (tx fs')), some (vc c), some (.int mv)] ∧ 0 ≤ mv ∧ DeckOk H' D _ ∧ SameD D H H' ∧ H' st = some (.lst (ss'.map vc)) ∧ (fs' ++ ss').Perm (zs.take i)) (fun σ H' => match H' st with | some (.lst xs) => xs.length | _ => 0)
        ⟨_, fs, _, rfl, hj, d2, s2, e2, pm⟩ (fun σ H5 hp => ?_) ?_
      · obtain ⟨ss', fs', mv, rfl, mv0, d5, s5, e5, pm5⟩ := hp
        have plen5 : fs'.length + ss'.length = i := by
          have := pm5.length_eq
          rw [List.length_append, List.length_take] at this
          omega
        refine ⟨_, rfl, st, _, rfl, .inl (SqL.of e5), _, rfl, _, _, rfl, rfl, _, rfl, ite2 (fun hgt => ?_) (fun _ => ?_)⟩
        · have hgt' := of_decide_eq_true hgt
          rw [List.length_map] at hgt'
          have sl5 : 0 < ss'.length := by omega
          refine ⟨_, rfl, _, rfl, .inl ⟨rfl, _, SqL.of e5⟩, st, _, _, rfl, rfl, e5, last_map sl5, _, _, rfl, rfl, small (by rw [tx_len]; show _ + 1 ≤ 1000; omega), ?_⟩
          rw [show tx fs' ++ ch (ss'[ss'.length - 1]'(by omega)) = tx (fs' ++ [ss'[ss'.length - 1]'(by omega)]) from tx_app fs' _]
          refine ⟨⟨ss'.dropLast, _, mv, rfl, mv0, d5.put ost _, nH s5, by rw [upd_same, List.map_dropLast], (drop_last_perm sl5 fs').trans pm5⟩, ?_⟩
          rw [upd_same, e5]
          show (ss'.map vc).dropLast.length < (ss'.map vc).length
          rw [List.length_dropLast, List.length_map]
          omega
        · refine ⟨_, rfl, .inl ⟨rfl, _, SqL.of e5⟩, _, rfl, st, _, _, rfl, rfl, e5, by rw [List.length_map]; exact small1000 (by omega), ?_⟩
          refine ⟨ss' ++ [c], fs', _, _, _, rfl, d5.put ost _, l2, nH s5, by rw [upd_same, List.map_append]; rfl, ?_⟩
          rw [take_next hc, ← List.append_assoc]
          exact pm5.append_right _
      · intro σ H' Q1 Q2 hQ h
        obtain ⟨v, e, p, ys, e2, e3, x, e4, i', j', e5, e6, k', e7, h⟩ := h
        exact ⟨v, e, p, ys, e2, e3, x, e4, i', j', e5, e6, k', e7, hQ _ _ h⟩
  · obtain ⟨ss, fs, m, o4, o5, rfl, d1, lm, s1, e1, pm⟩ := hp
    rw [tx_cps, List.take_length] at pm
    rw [tx_cps] at lm
    have pl := pm.length_eq
    rw [List.length_append] at pl
    refine ⟨_, rfl, rfl, _, rfl, st, _, rfl, SqL.of e1, fun p np => ?_⟩
    have q6 := same_new np (.lst (ss.map vc).reverse)
    refine ⟨_, p, ss.reverse.map ch, rfl, rfl, .inl (SqL.of (by rw [upd_same, ← List.map_reverse, map_vc])), tx_joinOk _ (by rw [List.length_reverse]; omega), ?_⟩
    rw [tx_join]
    refine ⟨_, _, rfl, rfl, small (by rw [tx_len, tx_len, List.length_reverse]; omega), ?_⟩
    rw [tx_app]
    exact q _ _ m lm (d1.same q6) (s1.trans (SameD.of q6)) ((List.Perm.append_left fs (List.reverse_perm ss)).trans pm)
end
/-! ### _law_pair -/
theorem iteI {i j : Int} {A B : Prop} (h : i = j) (a : A) : if decide (V.int i = V.int j) = true then A else B := by
  rw [if_pos (decide_eq_true (congrArg V.int h))]; exact a
theorem iteJ {i j : Int} {A B : Prop} (h : i ≠ j) (b : B) : if decide (V.int i = V.int j) = true then A else B := by
  rw [if_neg (fun z => h (V.int.inj (of_decide_eq_true z)))]; exact b
theorem iteS {x y : Str} {A B : Prop} (h : x = y) (a : A) : if decide (V.str x = V.str y) = true then A else B := by
  rw [if_pos (decide_eq_true (congrArg V.str h))]; exact a
theorem iteR {x y : Str} {A B : Prop} (h : x ≠ y) (b : B) : if decide (V.str x = V.str y) = true then A else B := by
  rw [if_neg (fun z => h (V.str.inj (of_decide_eq_true z)))]; exact b
theorem seq_cut {t u : TS} {D : Ends} {σ : L2.St} {H : Hp} (I : L2.St → Hp → Prop) (h2 : ∀ σ' H', I σ' H' → u D σ' H') (h1 : (∀ σ' H', I σ' H' → u D σ' H') → t { D with nx := u D } σ H) : tSeq t u D σ H := h1 h2
theorem seq_cutN {t u : TS} {D : Ends} {r1 : VK} {r2 r3 : L2.St → Hp → Prop} {σ : L2.St} {H : Hp} (I : L2.St → Hp → Prop) (h2 : ∀ σ' H', I σ' H' → u D σ' H') (h1 : (∀ σ' H', I σ' H' → u D σ' H') → t { D with nx := u D } σ H) : (Ends.mk (tSeq t u D) r1 r2 r3).nx σ H := h1 h2
structure PairI (D : Deck) (v : V) (fr : List Nat) (way : Int) (H : Hp) (n : Nat) (σ : L2.St) (H' : Hp) : Prop where
  ex : ∃ (b : Addr) (bs : List Nat) (nn : Nat) (o6 o7 o8 : Option V), σ = [some (.ref D.dk), some (.int 12), some v, some (.int way), some (vt fr), some (.ref b), o6, o7, o8] ∧ H' b = some (.lst (bs.map vc)) ∧ bs.Perm fr ∧ DeckOk H' D nn ∧ nn ≤ n ∧ SameD D H H' ∧ Off D b ∧ H b = none
theorem PairI.mk' {D : Deck} {v : V} {fr : List Nat} {way : Int} {H : Hp} {n : Nat} {H' : Hp} {b : Addr} {bs : List Nat} {nn : Nat} {o6 o7 o8 : Option V} (e : H' b = some (.lst (bs.map vc))) (p : bs.Perm fr) (d : DeckOk H' D nn) (l : nn ≤ n) (s : SameD D H H') (o : Off D b) (z : H b = none) :
    PairI D v fr way H n [some (.ref D.dk), some (.int 12), some v, some (.int way), some (vt fr), some (.ref b), o6, o7, o8] H' := ⟨b, bs, nn, o6, o7, o8, rfl, e, p, d, l, s, o, z⟩
theorem SameD.own {D : Deck} {H H' : Hp} {b : Addr} {o : HO} (s : SameD D H H') (z : H b = none) : SameD D H (upd H' b o) := fun a u h1 h2 h => by
  rw [upd_ne (ne_of_none h z)]
  exact s a u h1 h2 h
def spPair : Sp := fun vs H Q _ => ∃ (D : Deck) (n : Nat), vs = [.ref D.dk, .int 12] ∧ DeckOk H D n ∧ n ≤ 900000 ∧
  ∀ (p : Addr) (fr bk : List Nat) (H' : Hp) (n' : Nat), n' ≤ n + 200 → DeckOk H' D n' → SameD D H H' → H' p = some (.tup [.str (tx fr), .str (tx bk)]) → Lts fr → bk.Perm fr → 0 < fr.length → fr.length ≤ 12 → Q (.ref p) H'
theorem post_perm : ∀ t : B, t.post.Perm t.pre
  | .nil => .refl _
  | .node l x r => by
    have h1 := post_perm l
    have h2 := post_perm r
    show (l.post ++ r.post ++ [x]).Perm (x :: (l.pre ++ r.pre))
    exact List.perm_append_comm.trans ((h1.append h2).cons x)
theorem set_len {l : List Nat} {i : Nat} {c : Nat} : (l.map vc).set i (vc c) = (l.set i c).map vc := by rw [List.map_set]
theorem swap_perm {l : List Nat} {i j : Nat} (hi : i < l.length) (hj : j < l.length) : ((l.set i l[j]).set j l[i]).Perm l := by
  rw [List.perm_iff_count]
  intro a
  rw [List.count_set (by rw [List.length_set]; exact hj), List.count_set hi, List.getElem_set]
  have h1 := List.count_pos_iff.mpr (List.getElem_mem hi)
  have h2 := List.count_pos_iff.mpr (List.getElem_mem hj)
  by_cases hij : i = j
  · subst hij
    rw [if_pos rfl]
    by_cases ha : l[i] = a
    · rw [ha] at h1
      simp [ha]; omega
    · simp [ha]
  · rw [if_neg hij]
    by_cases ha : l[i] = a
    · rw [ha] at h1
      by_cases hb : l[j] = a
      · simp [ha, hb]; omega
      · simp [ha, hb]; omega
    · by_cases hb : l[j] = a
      · rw [hb] at h2
        simp [ha, hb]
      · simp [ha, hb]
section
variable {P : Program} {w : World} {K : PySem.W.Frag} {mg : Str → Option Value} {base : Heap} {f : Addr} {fd : FuncData}
theorem ok_pair {N : Nat} (hN : 12 < N) (F : Fun K "_law_pair" "_law_pair" s__law_pair f fd) (M : Mgs mg) (D_law_draw : Df P w K mg base (N + 2) "_law_draw" ["_law_spring_here", "_law_bound"] spDraw)
    (D_law_drawn_tree : Df P w K mg base (N + 2) "_law_drawn_tree" ["_law_spring_here", "_law_bound"] (spDrawnTree N)) (D_law_front : Df P w K mg base (N + 2) "_law_front" ["_law_tree"] (spFront 20)) (D_law_back : Df P w K mg base (N + 2) "_law_back" ["_law_tree"] (spBack 20))
    (D_law_closed : Df P w K mg base (N + 2) "_law_closed" ["_law_spring_here", "_law_letters_here"] spClosed) : FnOk P w K mg base CX0 (N + 3) f fd ["_law_spring_here", "_law_bound"] spPair := by
  refine F.ok (k := N + 2) sc__law_pair (fun vs H Q E h => ?_) (fun cdv A outer s H vs Q E hr h => ?_)
  · obtain ⟨D, n, rfl, _⟩ := h
    rfl
  obtain ⟨D, n, rfl, d, hn, q⟩ := h
  refine ⟨_, (pss_cons (ps_par (i := 2) (j := 3) (by rfl) sc__law_pair.nd rfl rfl (by decide) rfl rfl (pa_cons (pe_call D_law_drawn_tree.ok (hr.mono (by omega)) rfl D_law_drawn_tree.g D_law_drawn_tree.kp D_law_drawn_tree.b .nil pass0 (pa_cons (pv 0) (pa_cons (pv 1) pa_nil))) (pa_cons (pe_call D_law_draw.ok (hr.mono (by omega)) rfl D_law_draw.g D_law_draw.kp D_law_draw.b .nil pass0 (pa_cons (pv 0) (pa_cons pe_int pa_nil))) pa_nil)) (by rfl))
    (pss_cons (ps_asg (pe_tup (pa_cons (pe_call D_law_front.ok (hr.mono (by omega)) rfl D_law_front.g D_law_front.kp D_law_front.b .nil pass0 (pa_cons (pv 2) pa_nil)) (pa_cons (pe_callTy (call_signs rfl) rfl M.list (by decide +kernel) (pa_cons (pe_call D_law_back.ok (hr.mono (by omega)) rfl D_law_back.g D_law_back.kp D_law_back.b .nil pass0 (pa_cons (pv 2) pa_nil)) pa_nil)) pa_nil))) (pg_tup rfl (pgs_cons (pg_name (i := 4) sc__law_pair.nd rfl (.inl rfl)) (pgs_cons (pg_name (i := 5) sc__law_pair.nd rfl (.inr rfl)) pgs_nil))))
    (pss_cons (ps_if (pt_cmpR op_eq (pv 3) pe_int (nomark _))
      (pss_one (ps_set (i := 5) sc__law_pair.nd rfl (.inr rfl) (pe_callTy (call_signs rfl) rfl M.list (by decide +kernel) (pa_cons (pe_call D_law_closed.ok (hr.mono (by omega)) rfl D_law_closed.g D_law_closed.kp D_law_closed.b .nil pass0 (pa_cons (pv 0) (pa_cons (pv 4) pa_nil))) pa_nil)))) pss_nil)
    (pss_cons (ps_if (pt_cmpR op_eq (pv 3) pe_int (nomark _))
      (pss_one (ps_set (i := 5) sc__law_pair.nd rfl (.inr rfl) (pe_lc (own := [("_law_k", 6)]) (g := gName 6) (tt := tYes) rfl sc__law_pair.nd (pi_range1 rfl M.range (pa_cons (pe_callB call_len_seq rfl M.len PySem.boot_len (pa_cons (pv 5) pa_nil)) pa_nil)) (blkOk_by (N := ["_law_spring_here", "_law_bound", "_law_tree", "_law_way", "_law_front_here", "_law_back_here", "_law_k", "_law_p", "_law_q"]) (sc := defScope s__law_pair) (by decide +kernel)) (fun _ _ _ _ _ => (pg_name (i := 6) sc__law_pair.nd rfl (.inl rfl))) (fun _ _ _ _ _ => pts_nil) (fun _ _ _ _ _ => (show PE _ _ (tBM K _ _ _ _) from pe_bm PySem.F.plainAttrs_list PySem.F.slot_list_pop PySem.F.type_list_pop mt_popAt (pv 5) (pa_cons (pe_call D_law_draw.ok (hr.mono (by omega)) rfl D_law_draw.g D_law_draw.kp D_law_draw.b .nil pass0 (pa_cons (pv 0) (pa_cons (pe_callB (show CallR _ (.builtin "len") (rLenSeq K) from call_len_seq) rfl M.len PySem.boot_len (pa_cons (pv 5) pa_nil)) pa_nil))) pa_nil)))))) pss_nil)
    (pss_cons (ps_if (pt_cmpR op_eq (pv 3) pe_int (nomark _))
      (pss_cons (ps_par (i := 7) (j := 8) (by rfl) sc__law_pair.nd rfl rfl (by decide) rfl rfl (pa_cons (pe_call D_law_draw.ok (hr.mono (by omega)) rfl D_law_draw.g D_law_draw.kp D_law_draw.b .nil pass0 (pa_cons (pv 0) (pa_cons (pe_callB call_len_seq rfl M.len PySem.boot_len (pa_cons (pv 5) pa_nil)) pa_nil))) (pa_cons (pe_call D_law_draw.ok (hr.mono (by omega)) rfl D_law_draw.g D_law_draw.kp D_law_draw.b .nil pass0 (pa_cons (pv 0) (pa_cons (pe_callB call_len_seq rfl M.len PySem.boot_len (pa_cons (pv 5) pa_nil)) pa_nil))) pa_nil)) (by rfl))
    (pss_one (ps_asg (pe_tup (pa_cons (pe_ix ix_list (pv 5) (pv 8) (fun _ _ => rfl)) (pa_cons (pe_ix ix_list (pv 5) (pv 7) (fun _ _ => rfl)) pa_nil))) (pg_tup rfl (pgs_cons (pg_sub (pv 5) (pv 7) set_list) (pgs_cons (pg_sub (pv 5) (pv 8) set_list) pgs_nil)))))) pss_nil)
    (pss_one (ps_ret (pe_tup (pa_cons (pv 4) (pa_cons (pe_bm PySem.F.plainAttrs_str PySem.F.slot_str_join PySem.F.type_str_join mt_join pe_str (pa_cons (pv 5) pa_nil)) pa_nil)))))))))), ?_⟩
  refine ⟨_, rfl, _, rfl, D, n, 12, rfl, d, hn, by decide, by decide, hN, fun v t H1 n1 l1 d1 s1 hv lt t0 t12 => ?_⟩
  refine ⟨_, rfl, D, n1, _, rfl, d1, by omega, by decide, by decide, fun way H2 w0 w5 d2 s2 => ?_⟩
  refine ⟨_, _, rfl, ?_⟩
  have hv2 := hv.keep (s2.keepT d1)
  have tp := t.pre_len
  have tb := t.post_len
  refine ⟨_, rfl, v, t, rfl, hv2, by omega, by omega, _, rfl, v, t, rfl, hv2, by omega, by omega, tx t.post, rfl, (by show t.post.length ≤ 1000; omega), fun b nb => ?_⟩
  have q3 := same_new nb (.lst (t.post.map vc))
  have e3 := upd_same (H := H2) (a := b) (o := .lst (t.post.map vc))
  have d3 := d2.same q3
  have o3 := d2.new nb
  have s3 := (s1.trans s2).trans (SameD.of q3)
  have hb0 : ∀ {o : HO} {H' : Hp}, SameD D H H' → SameD D H (upd H' b o) := fun {o H'} s a u h1 h2 h => by
    have : a ≠ b := fun z => by
      have h5 := (s1.trans s2) a u h1 h2 h
      rw [z, nb] at h5; cases h5
    rw [upd_ne this]
    exact s a u h1 h2 h
  change ∀ {o : HO} {H' : Hp}, SameD D H H' → SameD D H (upd H' b o) at hb0
  generalize hH3 : upd H2 b (.lst (t.post.map vc)) = H3 at q3 e3 d3 s3
  have hH3' : upd H2 b (.lst ((tx t.post).cps.toList.map fun c => V.str ⟨#[c]⟩)) = H3 := hH3
  rw [hH3']
  refine ⟨(by show 2 ≤ sizeLine; decide), fun tp2 ntp2 => ?_⟩
  have q4 := same_new ntp2 (.tup [.str (tx t.pre), .ref b])
  refine ⟨tp2, _, rfl, SqT.of upd_same, rfl, _, _, rfl, _, _, rfl, rfl, ?_⟩
  have e4 := q4 _ _ e3
  have d4 := d3.same q4
  have s4 := s3.trans (SameD.of q4)
  generalize upd H3 tp2 (.tup [.str (tx t.pre), .ref b]) = H4 at q4 e4 d4 s4 ⊢
  have p4 := post_perm t
  clear hv hv2 hH3 hH3' q3 q4 e3 d3 s3 d1
  generalize hfr : t.pre = fr at *
  generalize t.post = bs at *
  have fl : 0 < fr.length := by omega
  have fl2 : fr.length ≤ 12 := by omega
  have zb := (s1.trans s2).free d2 nb
  refine seq_cutN (PairI D v fr way H (n + 110)) (fun σ H5 hp => ?_) (fun rest => ?_)
  rotate_left
  · refine ⟨_, rfl, rfl, _, rfl, ?_⟩
    by_cases h2 : way = 2
    · refine iteI h2 ?_
      refine ⟨_, rfl, _, rfl, D, _, fr, rfl, d4, by omega, by omega, fun ys H5 n5 l5 d5 s5 pm => ?_⟩
      have yl := pm.length_eq
      refine ⟨tx ys, rfl, (by show ys.length ≤ 1000; omega), fun c nc => ?_⟩
      have q6 := same_new nc (.lst (ys.map vc))
      have s45 := s4.trans s5
      exact rest _ _ (.mk' (bs := ys) upd_same pm (d5.same q6) (by omega) (s45.trans (SameD.of q6)) (d5.new nc) (s45.free d5 nc))
    · refine iteJ h2 ?_
      exact rest _ _ (.mk' e4 p4 d4 (by omega) s4 o3 zb)
  obtain ⟨b, bs, nn, o6, o7, o8, rfl, e5, p5, d5, l5, s5, ob, zb⟩ := hp.ex
  refine seq_cut (PairI D v fr way H (n + 130)) (fun σ H6 hp => ?_) (fun rest => ?_)
  rotate_left
  · refine ⟨_, rfl, rfl, _, rfl, ?_⟩
    by_cases h2 : way = 3
    · refine iteI h2 ?_
      have bl := p5.length_eq
      refine ⟨_, rfl, b, _, rfl, .inl (SqL.of e5), _, rfl, by rw [List.length_map]; omega, by rw [List.length_map]; omega, fun Dc nDc => ?_⟩
      rw [Int.toNat_natCast, List.length_map]
      have q6 := same_new nDc (.lst [])
      have oDc := d5.new nDc
      have nbd : b ≠ Dc := ne_of_none e5 nDc
      have zDc := s5.free d5 nDc
      refine lc_it (walk_range (lo := 0) (n := bs.length)) (fun i H' => ∃ rest xs : List Nat, xs.length = i ∧ DeckOk H' D (nn + i) ∧ SameD D H H' ∧ H' b = some (.lst (rest.map vc)) ∧ H' Dc = some (.lst (xs.map vc)) ∧ (xs ++ rest).Perm bs)
        ⟨bs, [], rfl, d5.put oDc _, s5.own zDc, by rw [upd_ne nbd]; exact e5, upd_same, .refl _⟩ (fun i H' _ _ => trivial) (fun i x H' H'' hi hp hy => ?_) (fun H' hp => ?_)
      · obtain ⟨rs, xs, hx, d2, s2, er, eD, pm⟩ := hp
        obtain ⟨rfl, rfl⟩ := hy
        have hlen : xs.length + rs.length = bs.length := by rw [← List.length_append, pm.length_eq]
        refine ⟨rfl, kept ?_⟩
        refine ⟨_, rfl, .inl ⟨rfl, _, SqL.of er⟩, _, rfl, _, rfl, b, _, rfl, .inl (SqL.of er), D, _, _, rfl, d2, by omega, by rw [List.length_map]; omega, by rw [List.length_map]; omega, fun j H2 j0 j1 d3 s3 => ?_⟩
        rw [List.length_map] at j1
        have hj : j.toNat < rs.length := by omega
        have er2 := s3.at ob er
        have eD2 := s3.at oDc eD
        refine ⟨b, _, j, j.toNat, vc rs[j.toNat], rfl, rfl, er2, by omega, by omega, (ixN_seq (ixN_nat j0 (by rw [List.length_map]; omega))).1, by rw [List.getElem?_map, List.getElem?_eq_getElem hj]; rfl, ?_⟩
        refine ⟨_, by rw [upd_ne nbd.symm]; exact eD2, by rw [List.length_map]; exact small1000 (by omega), rs.eraseIdx j.toNat, xs ++ [rs[j.toNat]], by rw [List.length_append, hx]; rfl, (d3.put ob _).put oDc _, ((s2.trans s3).own zb).own zDc, ?_, ?_, ?_⟩
        · rw [upd_ne nbd, upd_same, erase_map]
        · rw [upd_same, List.map_append]; rfl
        · rw [List.append_assoc]
          exact (List.Perm.append_left xs (erase_perm hj)).trans pm
      · obtain ⟨rs, xs, hx, d2, s2, er, eD, pm⟩ := hp
        have hr0 : rs = [] := by
          have := pm.length_eq
          rw [List.length_append] at this
          exact List.length_eq_zero_iff.mp (by omega)
        subst hr0
        rw [List.append_nil] at pm
        exact rest _ _ (.mk' eD (pm.trans p5) d2 (by omega) s2 oDc zDc)
    · refine iteJ h2 ?_
      exact rest _ _ (.mk' e5 p5 d5 (by omega) s5 ob zb)
  obtain ⟨b, bs, nn, o6, o7, o8, rfl, e5, p5, d5, l5, s5, ob, zb⟩ := hp.ex
  have bl := p5.length_eq
  refine seq_cut (PairI D v fr way H (n + 150)) (fun σ H6 hp => ?_) (fun rest => ?_)
  rotate_left
  · refine ⟨_, rfl, rfl, _, rfl, ?_⟩
    by_cases h2 : way = 4
    · refine iteI h2 ?_
      refine ⟨_, rfl, _, rfl, b, _, rfl, .inl (SqL.of e5), D, nn, _, rfl, d5, by omega, by rw [List.length_map]; omega, by rw [List.length_map]; omega, fun i H6 i0 i1 d6 s6 => ?_⟩
      have e6 := s6.at ob e5
      refine ⟨_, rfl, _, rfl, b, _, rfl, .inl (SqL.of e6), D, _, _, rfl, d6, by omega, by rw [List.length_map]; omega, by rw [List.length_map]; omega, fun j H7 j0 j1 d7 s7 => ?_⟩
      have e7 := s7.at ob e6
      rw [List.length_map] at i1 j1
      have hi : i.toNat < bs.length := by omega
      have hj : j.toNat < bs.length := by omega
      refine ⟨_, _, rfl, ?_⟩
      have ai := at_map (f := vc) i0 (List.getElem?_eq_getElem hi)
      have aj := at_map (f := vc) j0 (List.getElem?_eq_getElem hj)
      refine ⟨_, rfl, _, rfl, b, _, _, _, rfl, rfl, SqL.of e7, aj, _, rfl, _, rfl, b, _, _, _, rfl, rfl, SqL.of e7, ai, (by show 2 ≤ sizeLine; decide), fun tp3 ntp3 => ?_⟩
      have q8 := same_new ntp3 (.tup [vc bs[j.toNat], vc bs[i.toNat]])
      have e8 := q8 _ _ e7
      have d8 := d7.same q8
      have s8 := ((s5.trans s6).trans s7).trans (SameD.of q8)
      refine ⟨tp3, _, rfl, SqT.of upd_same, rfl, _, _, rfl, ?_⟩
      generalize upd H7 tp3 (.tup [vc bs[j.toNat], vc bs[i.toNat]]) = H8 at e8 d8 s8 ⊢
      refine ⟨_, rfl, _, rfl, b, _, _, _, rfl, rfl, e8, ixN_nat i0 (by rw [List.length_map]; omega), ?_⟩
      refine ⟨_, _, rfl, _, rfl, _, rfl, b, _, _, _, rfl, rfl, upd_same, ixN_nat j0 (by rw [List.length_set, List.length_map]; omega), rfl, ?_⟩
      exact rest _ _ (.mk' (bs := (bs.set i.toNat bs[j.toNat]).set j.toNat bs[i.toNat]) (by rw [upd_same, set_len, set_len]) ((swap_perm hi hj).trans p5) ((d8.put ob _).put ob _) (by omega) ((s8.own zb).own zb) ob zb)
    · refine iteJ h2 ?_
      exact rest _ _ (.mk' e5 p5 d5 (by omega) s5 ob zb)
  obtain ⟨b, bs, nn, o6, o7, o8, rfl, e5, p5, d5, l5, s5, ob, zb⟩ := hp.ex
  have bl := p5.length_eq
  rw [map_vc] at e5
  refine ⟨_, rfl, rfl, _, rfl, _, b, bs.map ch, rfl, rfl, .inl (SqL.of e5), tx_joinOk _ (by omega), ?_⟩
  rw [tx_join]
  refine ⟨(by show 2 ≤ sizeLine; decide), fun p np => ?_⟩
  exact q p fr bs _ nn (by omega) (d5.same (same_new np _)) (s5.trans (SameD.of (same_new np _))) upd_same lt p5 fl fl2
end
/-! ### places of letters in texts; is_letter, is_ascending, in_order, is_below -/
def pos : List Nat → Nat → Nat
  | [], _ => 0
  | x :: l, c => if x = c then 0 else pos l c + 1
theorem pos_lt : ∀ {l : List Nat} {c : Nat}, c ∈ l → pos l c < l.length
  | x :: l, c, h => by
    show (if x = c then 0 else pos l c + 1) < l.length + 1
    split
    · omega
    · rename_i hx
      rcases List.mem_cons.mp h with e | e
      · exact absurd e.symm hx
      · have := pos_lt e
        omega
theorem pos_get : ∀ {l : List Nat} {c : Nat}, c ∈ l → l[pos l c]? = some c
  | x :: l, c, h => by
    show (x :: l)[if x = c then 0 else pos l c + 1]? = some c
    split
    · rename_i hx; rw [hx]; rfl
    · rename_i hx
      rcases List.mem_cons.mp h with e | e
      · exact absurd e.symm hx
      · rw [List.getElem?_cons_succ]; exact pos_get e
theorem pos_first : ∀ {l : List Nat} {c k : Nat}, k < pos l c → l[k]? ≠ some c
  | [], _, _, h => absurd h (Nat.not_lt_zero _)
  | x :: l, c, k, h => by
    have h : k < (if x = c then 0 else pos l c + 1) := h
    split at h
    · omega
    · rename_i hx
      cases k with
      | zero => exact fun z => hx (Option.some.inj z)
      | succ k => rw [List.getElem?_cons_succ]; exact pos_first (by omega)
theorem pos_at : ∀ {l : List Nat} {i c : Nat}, l.Nodup → l[i]? = some c → pos l c = i
  | x :: l, 0, c, _, h => by
    have : x = c := Option.some.inj h
    show (if x = c then 0 else pos l c + 1) = 0
    rw [if_pos this]
  | x :: l, i + 1, c, nd, h => by
    have h : l[i]? = some c := h
    have n := List.nodup_cons.mp nd
    have : x ≠ c := fun z => n.1 (z ▸ List.mem_of_getElem? h)
    show (if x = c then 0 else pos l c + 1) = i + 1
    rw [if_neg this, pos_at n.2 h]
theorem pos_inj {l : List Nat} {c d : Nat} (hc : c ∈ l) (hd : d ∈ l) (e : pos l c = pos l d) : c = d := by
  have h1 := pos_get hc
  have h2 := pos_get hd
  rw [e, h2] at h1
  exact (Option.some.inj h1).symm
theorem pos_left : ∀ {a b : List Nat} {c : Nat}, c ∈ a → pos (a ++ b) c = pos a c
  | x :: a, b, c, h => by
    show (if x = c then 0 else pos (a ++ b) c + 1) = if x = c then 0 else pos a c + 1
    split
    · rfl
    · rename_i hx
      rcases List.mem_cons.mp h with e | e
      · exact absurd e.symm hx
      · rw [pos_left e]
theorem pos_right : ∀ {a b : List Nat} {c : Nat}, c ∉ a → pos (a ++ b) c = a.length + pos b c
  | [], b, c, _ => (Nat.zero_add _).symm
  | x :: a, b, c, h => by
    have n := fun z => h (List.mem_cons_of_mem x z)
    show (if x = c then 0 else pos (a ++ b) c + 1) = a.length + 1 + pos b c
    rw [if_neg (fun z => h (by rw [z]; exact List.mem_cons_self)), pos_right n]
    omega
theorem pos_nil : ∀ {l : List Nat} {c : Nat}, c ∉ l → pos l c = l.length
  | [], _, _ => rfl
  | x :: l, c, h => by
    show (if x = c then 0 else pos l c + 1) = l.length + 1
    rw [if_neg (fun z => h (by rw [z]; exact List.mem_cons_self)), pos_nil (fun z => h (List.mem_cons_of_mem x z))]
theorem occ_pos {L : List Nat} {c : Nat} (h : c ∈ L) : (∃ rest, Builtin.Str.occurrences (tx L) (ch c) 0 (tx L).length 1 = pos L c :: rest) ∧ Txt.find (tx L) (ch c) = (pos L c : Int) := by
  have at_iff : ∀ k, StrLaws.At (tx L) (ch c) (tx L).length k ↔ L[k]? = some c := fun k => StrLaws.subAt_one (tx L) c k
  rcases PyProof.Rows.find_whole (tx L) (ch c) with ⟨_, h1⟩ | ⟨i, h1, h2, h3⟩
  · exact absurd ((at_iff _).mpr (pos_get h)) (h1 _)
  · have ei : i = pos L c := by
      rcases Nat.lt_trichotomy i (pos L c) with e | e | e
      · exact absurd ((at_iff i).mp h2) (pos_first e)
      · exact e
      · exact absurd ((at_iff _).mpr (pos_get h)) (h3 _ e)
    subst ei
    refine ⟨?_, h1⟩
    unfold Txt.find at h1
    split at h1
    · rename_i j rest hj
      have : j = pos L c := by omega
      subst this
      exact ⟨rest, hj⟩
    · omega
def rSIndex : V → List V → Hp → VK → Prop := fun x xs H Q => ∃ (l : List Nat) (c : Nat), x = .str (tx l) ∧ xs = [.str (ch c)] ∧ c ∈ l ∧ Q (.int (pos l c : Int)) H
theorem mt_sindexC {X : Cx} : MtR X "str.index" rSIndex := by
  intro pins s σ H x xs v us Q I rx rs h
  obtain ⟨l, c, rfl, rfl, hc, q⟩ := h
  obtain ⟨rest, hr⟩ := (occ_pos hc).1
  exact mt_sindex pins s σ H _ _ v us Q I rx rs ⟨_, _, _, rest, rfl, rfl, hr, q⟩
def rSFind : V → List V → Hp → VK → Prop := fun x xs H Q => ∃ (l : List Nat) (c : Nat), x = .str (tx l) ∧ xs = [.str (ch c)] ∧ c ∈ l ∧ Q (.int (pos l c : Int)) H
theorem mt_findC {X : Cx} : MtR X "str.find" rSFind := by
  intro pins s σ H x xs v us Q I rx rs h
  obtain ⟨l, c, rfl, rfl, hc, q⟩ := h
  refine mt_find pins s σ H _ _ v us Q I rx rs ⟨_, _, rfl, rfl, ?_⟩
  rw [(occ_pos hc).2]
  exact q
def spLetter : Sp := fun vs H Q _ => ∃ c : Nat, vs = [.str (ch c)] ∧ Q (.bl (decide (97 ≤ c) && decide (c ≤ 122))) H
/-- a pair of texts of different letters -/
structure PairAt (H : Hp) (p : Addr) (fr bk : List Nat) : Prop where
  at' : H p = some (.tup [.str (tx fr), .str (tx bk)])
  lt : Lts fr
  pm : bk.Perm fr
  n0 : 0 < fr.length
  n1 : fr.length ≤ 26
theorem PairAt.same {H H' : Hp} {p : Addr} {fr bk : List Nat} (h : PairAt H p fr bk) (s : Same H H') : PairAt H' p fr bk := ⟨s _ _ h.at', h.lt, h.pm, h.n0, h.n1⟩
theorem PairAt.mem {H : Hp} {p : Addr} {fr bk : List Nat} (h : PairAt H p fr bk) {c : Nat} (hc : c ∈ fr) : c ∈ bk := h.pm.mem_iff.mpr hc
section
variable {P : Program} {w : World} {K : PySem.W.Frag} {mg : Str → Option Value} {base : Heap} {f : Addr} {fd : FuncData}
theorem ok_letter {k : Nat} (F : Fun K "is_letter" "is_letter" s_is_letter f fd) (M : Mgs mg) : FnOk P w K mg base CX0 (k + 1) f fd ["value"] spLetter := by
  refine F.ok sc_is_letter (fun vs H Q E h => ?_) (fun cdv A outer s H vs Q E hr h => ?_)
  · obtain ⟨c, rfl, _⟩ := h
    rfl
  obtain ⟨c, rfl, q⟩ := h
  refine ⟨_, (pss_one (ps_ret (pe_and (pe_callB call_isi rfl M.isinstance (by decide +kernel) (pa_cons (pv 0) (pa_cons (pe_bltn (v := .ty "str") rfl M.str (by decide +kernel) rfl) pa_nil))) (pe_and (pe_cmpR op_eq (pe_callB call_len_str rfl M.len PySem.boot_len (pa_cons (pv 0) pa_nil)) pe_int (nomark _)) (pe_one (pe_chain op_le_str op_le_str pe_str (pv 0) pe_str)))))), ?_⟩
  refine ⟨_, rfl, _, _, _, _, true, rfl, .ty _, .base (.str (ch c)), kit_ty (by decide +kernel), _, rfl, iteT ?_⟩
  refine ⟨_, rfl, ch c, rfl, (by show 1 ≤ sizeLine; decide), rfl, _, rfl, ?_⟩
  rw [show decide (V.int ((ch c).length : Nat) = V.int 1) = true from rfl]
  refine iteT ?_
  refine ⟨_, rfl, _, _, rfl, rfl, _, rfl, ?_⟩
  have e1 : (!decide ((ch c).cps.toList < (Str.ofString "a").cps.toList)) = decide (97 ≤ c) := by
    rw [show Str.ofString "a" = ch 97 by decide +kernel, ch_lt]
    by_cases h : c < 97
    · rw [decide_eq_true h, decide_eq_false (by omega)]; rfl
    · rw [decide_eq_false h, decide_eq_true (by omega)]; rfl
  have e2 : (!decide ((Str.ofString "z").cps.toList < (ch c).cps.toList)) = decide (c ≤ 122) := by
    rw [show Str.ofString "z" = ch 122 by decide +kernel, ch_lt]
    by_cases h : 122 < c
    · rw [decide_eq_true h, decide_eq_false (by omega)]; rfl
    · rw [decide_eq_false h, decide_eq_true (by omega)]; rfl
  rw [e1]
  by_cases h : 97 ≤ c
  · rw [decide_eq_true h] at q ⊢
    refine iteT ⟨_, _, rfl, rfl, ?_⟩
    rw [e2]
    exact q
  · rw [decide_eq_false h] at q ⊢
    exact iteF q
end
/-! ### walks -/
inductive Kd where
  | first
  | between
  | last
def Kd.str : Kd → Str
  | .first => "first"
  | .between => "between"
  | .last => "last"
def B.wk (k : Kd) (t : B) : List Nat := match k with
  | .first => t.pre
  | .between => t.mid
  | .last => t.post
def B.steps (k : Kd) : B → List Nat → List (List Nat × Nat)
  | .nil, _ => []
  | .node l x r, q => match k with
    | .first => [(q, x)] ++ l.steps k (q ++ [108]) ++ r.steps k (q ++ [114])
    | .between => l.steps k (q ++ [108]) ++ [(q, x)] ++ r.steps k (q ++ [114])
    | .last => l.steps k (q ++ [108]) ++ r.steps k (q ++ [114]) ++ [(q, x)]
theorem B.steps_wk (k : Kd) (t : B) : ∀ q : List Nat, (t.steps k q).map (·.2) = t.wk k := by
  induction t with
  | nil => intro q; cases k <;> rfl
  | node l x r h1 h2 =>
    intro q
    have a := h1 (q ++ [108])
    have b := h2 (q ++ [114])
    cases k
    · show ([(q, x)] ++ l.steps .first (q ++ [108]) ++ r.steps .first (q ++ [114])).map (·.2) = x :: (l.pre ++ r.pre)
      rw [List.map_append, List.map_append, a, b]; rfl
    · show (l.steps .between (q ++ [108]) ++ [(q, x)] ++ r.steps .between (q ++ [114])).map (·.2) = l.mid ++ x :: r.mid
      rw [List.map_append, List.map_append, a, b]
      show l.mid ++ [x] ++ r.mid = _
      rw [List.append_assoc]; rfl
    · show (l.steps .last (q ++ [108]) ++ r.steps .last (q ++ [114]) ++ [(q, x)]).map (·.2) = l.post ++ r.post ++ [x]
      rw [List.map_append, List.map_append, a, b]; rfl
theorem B.wk_len (k : Kd) (t : B) : (t.wk k).length = t.size := by
  cases k
  · exact t.pre_len
  · exact t.mid_len
  · exact t.post_len
theorem B.steps_len (k : Kd) (t : B) (q : List Nat) : (t.steps k q).length = t.size := by
  rw [← t.wk_len k, ← t.steps_wk k q, List.length_map]
inductive StAt (H : Hp) : List V → List (List Nat × Nat) → Prop
  | nil : StAt H [] []
  | cons {a : Addr} {q : List Nat} {x : Nat} {vs : List V} {ss : List (List Nat × Nat)} : H a = some (.tup [.str (tx q), .str (ch x)]) → StAt H vs ss → StAt H (.ref a :: vs) ((q, x) :: ss)
theorem StAt.keep {H H' : Hp} (k : KeepT H H') {vs : List V} {ss : List (List Nat × Nat)} (h : StAt H vs ss) : StAt H' vs ss := by
  induction h with
  | nil => exact .nil
  | cons e _ ih => exact .cons (k _ _ e) ih
theorem StAt.same {H H' : Hp} (k : Same H H') {vs : List V} {ss : List (List Nat × Nat)} (h : StAt H vs ss) : StAt H' vs ss := h.keep (Tw.Same.keepT k)
theorem StAt.app {H : Hp} {vs us : List V} {ss ts : List (List Nat × Nat)} (h : StAt H vs ss) (g : StAt H us ts) : StAt H (vs ++ us) (ss ++ ts) := by
  induction h with
  | nil => exact g
  | cons e _ ih => exact .cons e ih
theorem StAt.len {H : Hp} {vs : List V} {ss : List (List Nat × Nat)} (h : StAt H vs ss) : vs.length = ss.length := by
  induction h with
  | nil => rfl
  | cons _ _ ih => rw [List.length_cons, List.length_cons, ih]
theorem StAt.get {H : Hp} {vs : List V} {ss : List (List Nat × Nat)} (h : StAt H vs ss) : ∀ {i : Nat} {v : V}, vs[i]? = some v → ∃ a q x, v = .ref a ∧ ss[i]? = some (q, x) ∧ H a = some (.tup [.str (tx q), .str (ch x)]) := by
  induction h with
  | nil => intro i v e; simp at e
  | cons e _ ih =>
    intro i v he
    cases i with
    | zero => cases he; exact ⟨_, _, _, rfl, rfl, e⟩
    | succ i => exact ih he
theorem str_l : Str.ofString "l" = tx [108] := by decide +kernel
theorem str_r : Str.ofString "r" = tx [114] := by decide +kernel
def spDeep (n : Nat) : Sp := fun vs H Q _ => ∃ (v : V) (t : B) (k : Kd) (q : List Nat), vs = [v, .str k.str, .str (tx q)] ∧ BAt H v t ∧ t.size < n ∧ t.size + q.length ≤ 200 ∧
  ∀ (p : Addr) (us : List V) (H' : Hp), Same H H' → H' p = some (.lst us) → StAt H' us (t.steps k q) → Q (.ref p) H'
section
variable {P : Program} {w : World} {K : PySem.W.Frag} {mg : Str → Option Value} {base : Heap} {f : Addr} {fd : FuncData}
theorem ok_deep (F : Fun K "deep_steps" "deep_steps" s_deep_steps f fd) (b : Binds K fd ["tree", "kind", "path"] []) (g : mg "deep_steps" = some (.ref f)) : ∀ n : Nat, FnOk P w K mg base CX0 n f fd ["tree", "kind", "path"] (spDeep n)
  | 0 => by
    have no : ∀ vs H Q E, ¬ spDeep 0 vs H Q E := fun vs H Q E h => by
      obtain ⟨v, t, k, q, _, _, h1, _⟩ := h
      omega
    exact ⟨fun vs H Q E h => absurd h (no vs H Q E), fun A outer s H args us vs Q E _ _ _ _ h => absurd h (no vs H Q E)⟩
  | n + 1 => by
    have Dself : Df P w K mg base n "deep_steps" ["tree", "kind", "path"] (spDeep n) := ⟨f, fd, ok_deep F b g n, b, F.kp, g⟩
    refine F.ok sc_deep_steps (fun vs H Q E h => ?_) (fun cdv A outer s H vs Q E hr h => ?_)
    · obtain ⟨v, t, k, q, rfl, _⟩ := h
      rfl
    obtain ⟨v, t, k, pth, rfl, hv, hn, hz, q⟩ := h
    refine ⟨_, (pss_cons (ps_if (pt_cmpR op_isN (pv 0) pe_non (nomark _))
      (pss_one (ps_ret (pe_lst pa_nil))) pss_nil)
    (pss_cons (ps_asg (pv 0) (pg_tup rfl (pgs_cons (pg_name (i := 3) sc_deep_steps.nd rfl (.inl rfl)) (pgs_cons (pg_name (i := 4) sc_deep_steps.nd rfl (.inl rfl)) (pgs_cons (pg_name (i := 5) sc_deep_steps.nd rfl (.inl rfl)) pgs_nil)))))
    (pss_cons (ps_set (i := 6) sc_deep_steps.nd rfl (.inl rfl) (pe_lst (pa_cons (pe_tup (pa_cons (pv 2) (pa_cons (pv 4) pa_nil))) pa_nil)))
    (pss_cons (ps_set (i := 7) sc_deep_steps.nd rfl (.inl rfl) (pe_call Dself.ok (hr.mono (by omega)) rfl Dself.g Dself.kp Dself.b .nil pass0 (pa_cons (pv 3) (pa_cons (pv 1) (pa_cons (pe_op op_add_str (pv 2) pe_str) pa_nil)))))
    (pss_cons (ps_set (i := 8) sc_deep_steps.nd rfl (.inl rfl) (pe_call Dself.ok (hr.mono (by omega)) rfl Dself.g Dself.kp Dself.b .nil pass0 (pa_cons (pv 5) (pa_cons (pv 1) (pa_cons (pe_op op_add_str (pv 2) pe_str) pa_nil)))))
    (pss_cons (ps_if (pt_cmpR op_eq (pv 1) pe_str (nomark _))
      (pss_one (ps_ret (pe_op op_cat (pe_op op_cat (pv 6) (pv 7)) (pv 8)))) pss_nil)
    (pss_cons (ps_if (pt_cmpR op_eq (pv 1) pe_str (nomark _))
      (pss_one (ps_ret (pe_op op_cat (pe_op op_cat (pv 7) (pv 6)) (pv 8)))) pss_nil)
    (pss_one (ps_ret (pe_op op_cat (pe_op op_cat (pv 7) (pv 8)) (pv 6))))))))))), ?_⟩
    rcases hv.inv with ⟨rfl, rfl⟩ | ⟨a, l, r, x, tl, tr, rfl, rfl, ea, hl, hr'⟩
    · refine ⟨_, rfl, rfl, _, rfl, iteT ⟨(by show 0 ≤ sizeLine; decide), fun p np => ?_⟩⟩
      exact q p [] _ (same_new np _) upd_same .nil
    · refine ⟨_, rfl, rfl, _, rfl, iteF ?_⟩
      refine ⟨_, rfl, a, _, rfl, SqT.of ea, rfl, _, _, rfl, _, _, rfl, _, _, rfl, rfl, ?_⟩
      have sz : tl.size + 1 + tr.size < n + 1 := hn
      have sz2 : tl.size + 1 + tr.size + pth.length ≤ 200 := hz
      -- root
      refine ⟨_, rfl, _, rfl, (by show 2 ≤ sizeLine; decide), fun tp ntp => ⟨(by show 1 ≤ sizeLine; decide), fun ro nro => ?_⟩⟩
      have q1 := same_new ntp (.tup [.str (tx pth), .str (ch x)])
      have q2 := same_new nro (.lst [.ref tp])
      have etp := q2 _ _ (upd_same (H := H) (a := tp) (o := .tup [.str (tx pth), .str (ch x)]))
      have ero := upd_same (H := upd H tp (.tup [.str (tx pth), .str (ch x)])) (a := ro) (o := .lst [.ref tp])
      have s1 := q1.trans q2
      generalize upd (upd H tp (.tup [.str (tx pth), .str (ch x)])) ro (.lst [.ref tp]) = H1 at etp ero s1
      -- lefts
      refine ⟨_, rfl, _, rfl, _, rfl, _, _, rfl, rfl, ?_, ?_⟩
      · rw [str_l, tx_len, tx_len]; exact small (by show _ + 1 ≤ 1000; omega)
      rw [str_l, tx_app]
      refine ⟨l, tl, k, pth ++ [108], rfl, hl.same s1, by omega, by rw [List.length_append]; show _ + (_ + 1) ≤ 200; omega, fun lp ul H2 s2 elp stl => ?_⟩
      -- rights
      refine ⟨_, rfl, _, rfl, _, rfl, _, _, rfl, rfl, ?_, ?_⟩
      · rw [str_r, tx_len, tx_len]; exact small (by show _ + 1 ≤ 1000; omega)
      rw [str_r, tx_app]
      refine ⟨r, tr, k, pth ++ [114], rfl, (hr'.same s1).same s2, by omega, by rw [List.length_append]; show _ + (_ + 1) ≤ 200; omega, fun rp ur H3 s3 erp str => ?_⟩
      have ero3 := s3 _ _ (s2 _ _ ero)
      have elp3 := s3 _ _ elp
      have strt : StAt H3 [.ref tp] [(pth, x)] := .cons (s3 _ _ (s2 _ _ etp)) .nil
      have stl3 := stl.same s3
      have sA := (s1.trans s2).trans s3
      have ll := stl.len
      have lr := str.len
      rw [B.steps_len] at ll lr
      cases k
      · refine ⟨_, rfl, rfl, _, rfl, iteS rfl ?_⟩
        refine ⟨_, rfl, _, rfl, ro, lp, _, _, rfl, rfl, ero3, elp3, small (by show 1 + _ ≤ 1000; omega), fun c1 n1 => ?_⟩
        have k1 := same_new n1 (.lst ([.ref tp] ++ ul))
        refine ⟨_, rfl, c1, rp, _, _, rfl, rfl, upd_same, k1 _ _ erp, small (by rw [List.length_append]; show 1 + _ + _ ≤ 1000; omega), fun c2 n2 => ?_⟩
        have k2 := same_new n2 (.lst ([.ref tp] ++ ul ++ ur))
        exact q c2 _ _ (sA.trans (k1.trans k2)) upd_same (((strt.app stl3).app str).same (k1.trans k2))
      · refine ⟨_, rfl, rfl, _, rfl, iteR (by decide +kernel) ?_⟩
        refine ⟨_, rfl, rfl, _, rfl, iteS rfl ?_⟩
        refine ⟨_, rfl, _, rfl, lp, ro, _, _, rfl, rfl, elp3, ero3, small (by show _ + 1 ≤ 1000; omega), fun c1 n1 => ?_⟩
        have k1 := same_new n1 (.lst (ul ++ [.ref tp]))
        refine ⟨_, rfl, c1, rp, _, _, rfl, rfl, upd_same, k1 _ _ erp, small (by rw [List.length_append]; show _ + 1 + _ ≤ 1000; omega), fun c2 n2 => ?_⟩
        have k2 := same_new n2 (.lst (ul ++ [.ref tp] ++ ur))
        exact q c2 _ _ (sA.trans (k1.trans k2)) upd_same (((stl3.app strt).app str).same (k1.trans k2))
      · refine ⟨_, rfl, rfl, _, rfl, iteR (by decide +kernel) ?_⟩
        refine ⟨_, rfl, rfl, _, rfl, iteR (by decide +kernel) ?_⟩
        refine ⟨_, rfl, _, rfl, lp, rp, _, _, rfl, rfl, elp3, erp, small (by omega), fun c1 n1 => ?_⟩
        have k1 := same_new n1 (.lst (ul ++ ur))
        refine ⟨_, rfl, c1, ro, _, _, rfl, rfl, upd_same, k1 _ _ ero3, small (by rw [List.length_append]; show _ + _ + 1 ≤ 1000; omega), fun c2 n2 => ?_⟩
        have k2 := same_new n2 (.lst (ul ++ ur ++ [.ref tp]))
        exact q c2 _ _ (sA.trans (k1.trans k2)) upd_same (((stl3.app str).app strt).same (k1.trans k2))
/-- the tuple KINDS of the text -/
structure KindsT (K : PySem.W.Frag) (mg : Str → Option Value) (a : Addr) : Prop where
  mg : mg "KINDS" = some (.ref a)
  sq : ∀ H : Hp, SqT K H a [.str "first", .str "between", .str "last", .str "level"]
def spKind : Sp := fun vs H Q _ => ∃ k : Kd, vs = [.str k.str] ∧ Q (.bl true) H
theorem ok_kind {k : Nat} {aK : Addr} (F : Fun K "is_kind" "is_kind" s_is_kind f fd) (M : Mgs mg) (Kk : KindsT K mg aK) : FnOk P w K mg base CX0 (k + 1) f fd ["value"] spKind := by
  refine F.ok sc_is_kind (fun vs H Q E h => ?_) (fun cdv A outer s H vs Q E hr h => ?_)
  · obtain ⟨k, rfl, _⟩ := h
    rfl
  obtain ⟨k, rfl, q⟩ := h
  refine ⟨_, (pss_one (ps_ret (pe_and (pe_callB call_isi rfl M.isinstance (by decide +kernel) (pa_cons (pv 0) (pa_cons (pe_bltn (v := .ty "str") rfl M.str (by decide +kernel) rfl) pa_nil))) (pe_one (pe_cmpR op_in_seq (pv 0) (pe_glob (v := .ref _) rfl Kk.mg rfl) (by rfl)))))), ?_⟩
  refine ⟨_, rfl, _, _, _, _, true, rfl, .ty _, .base (.str _), kit_ty (by decide +kernel), _, rfl, iteT ?_⟩
  refine ⟨_, rfl, aK, _, rfl, .inr (Kk.sq H), rfl, ?_, ?_⟩
  · rfl
  · have e : (if false = true then !inV (.str k.str) [.str "first", .str "between", .str "last", .str "level"] else inV (.str k.str) [.str "first", .str "between", .str "last", .str "level"]) = true := by
      cases k <;> decide +kernel
    rw [e]
    exact q
def spSteps : Sp := fun vs H Q _ => ∃ (v : V) (t : B) (k : Kd), vs = [v, .str k.str] ∧ BAt H v t ∧ t.size ≤ 50 ∧
  ∀ (p : Addr) (us : List V) (H' : Hp), Same H H' → H' p = some (.lst us) → StAt H' us (t.steps k []) → Q (.ref p) H'
theorem ok_steps (F : Fun K "ordered_steps" "ordered_steps" s_ordered_steps f fd) (Dis_kind : Df P w K mg base 1 "is_kind" ["value"] spKind) (Ddeep_steps : Df P w K mg base 60 "deep_steps" ["tree", "kind", "path"] (spDeep 60)) :
    FnOk P w K mg base CX0 61 f fd ["tree", "kind"] spSteps := by
  refine F.ok sc_ordered_steps (fun vs H Q E h => ?_) (fun cdv A outer s H vs Q E hr h => ?_)
  · obtain ⟨v, t, k, rfl, _⟩ := h
    rfl
  obtain ⟨v, t, k, rfl, hv, hz, q⟩ := h
  refine ⟨_, (pss_cons (ps_if (pt_not (pt_val (pe_call Dis_kind.ok (hr.mono (by omega)) rfl Dis_kind.g Dis_kind.kp Dis_kind.b .nil pass0 (pa_cons (pv 1) pa_nil))))
      (pss_one ps_never) pss_nil)
    (pss_cons (ps_if (pt_cmpR op_eq (pv 1) pe_str (nomark _))
      (pss_one ps_never) pss_nil)
    (pss_one (ps_ret (pe_call Ddeep_steps.ok (hr.mono (by omega)) rfl Ddeep_steps.g Ddeep_steps.kp Ddeep_steps.b .nil pass0 (pa_cons (pv 0) (pa_cons (pv 1) (pa_cons pe_str pa_nil)))))))), ?_⟩
  refine ⟨_, rfl, k, rfl, _, rfl, iteF ?_⟩
  refine ⟨_, rfl, rfl, _, rfl, iteR (by cases k <;> decide +kernel) ?_⟩
  refine ⟨_, rfl, _, rfl, v, t, k, [], ?_, hv, by omega, by show t.size + 0 ≤ 200; omega, q⟩
  rw [← str_0]
  rfl
def spWalk : Sp := fun vs H Q _ => ∃ (v : V) (t : B) (k : Kd), vs = [v, .str k.str] ∧ BAt H v t ∧ t.size ≤ 50 ∧ ∀ H', Same H H' → Q (.str (tx (t.wk k))) H'
theorem ok_walk (F : Fun K "walk" "walk" s_walk f fd) (Dordered_steps : Df P w K mg base 61 "ordered_steps" ["tree", "kind"] spSteps) : FnOk P w K mg base CX0 62 f fd ["tree", "kind"] spWalk := by
  refine F.ok sc_walk (fun vs H Q E h => ?_) (fun cdv A outer s H vs Q E hr h => ?_)
  · obtain ⟨v, t, k, rfl, _⟩ := h
    rfl
  obtain ⟨v, t, k, rfl, hv, hz, q⟩ := h
  refine ⟨_, (pss_one (ps_ret (pe_bm PySem.F.plainAttrs_str PySem.F.slot_str_join PySem.F.type_str_join mt_join pe_str (pa_cons (pe_lc (own := [("path", 2), ("label", 3)]) (g := gTup K 2 (gCons (gName 2) (gCons (gName 3) gNil))) (tt := tYes) rfl sc_walk.nd (pi_list (pe_call Dordered_steps.ok (hr.mono (by omega)) rfl Dordered_steps.g Dordered_steps.kp Dordered_steps.b .nil pass0 (pa_cons (pv 0) (pa_cons (pv 1) pa_nil)))) (blkOk_by (N := ["tree", "kind", "path", "label"]) (sc := defScope s_walk) (by decide +kernel)) (fun _ _ _ _ _ => (pg_tup rfl (pgs_cons (pg_name (i := 2) sc_walk.nd rfl (.inl rfl)) (pgs_cons (pg_name (i := 3) sc_walk.nd rfl (.inl rfl)) pgs_nil)))) (fun _ _ _ _ _ => pts_nil) (fun _ _ _ _ _ => (pv 3))) pa_nil)))), ?_⟩
  refine ⟨rfl, _, rfl, _, rfl, v, t, k, rfl, hv, hz, fun p us H1 s1 ep st => ?_⟩
  refine ⟨p, rfl, ⟨_, SqL.of ep⟩, fun D nD => ?_⟩
  have q1 := same_new nD (.lst [])
  have hl := st.len
  rw [B.steps_len] at hl
  have ez := t.steps_wk k []
  refine lc_list (K := K) (a := p) (xs := us) (fun i H' => Same H1 H' ∧ H' D = some (.lst (((t.wk k).take i).map vc))) ⟨q1, upd_same⟩ (fun i H' _ hp => SqL.of (hp.1 _ _ ep)) (fun i x H' hx hp => ?_) (fun H' hp => ?_)
  · obtain ⟨sm, ed⟩ := hp
    obtain ⟨a, pq, c, rfl, es, ea⟩ := st.get hx
    have hc : (t.wk k)[i]? = some c := by rw [← ez, List.getElem?_map, es]; rfl
    have hi := (List.getElem?_eq_some_iff.mp hx).1
    refine ⟨a, _, rfl, SqT.of (sm _ _ ea), rfl, _, _, rfl, _, _, rfl, rfl, rfl, kept ?_⟩
    refine ⟨_, rfl, _, ed, ?_, fun b o e => ?_, ?_⟩
    · rw [List.length_map, List.length_take]; exact small1000 (by omega)
    · rw [upd_ne (ne_of_none e nD)]; exact sm _ _ e
    · rw [upd_same, take_next hc, List.map_append]; rfl
  · obtain ⟨sm, ed⟩ := hp
    have tk : (t.wk k).take us.length = t.wk k := List.take_of_length_le (by rw [t.wk_len k]; omega)
    rw [tk, map_vc] at ed
    refine ⟨_, D, (t.wk k).map ch, rfl, rfl, .inl (SqL.of ed), tx_joinOk _ (by rw [t.wk_len k]; omega), ?_⟩
    rw [tx_join]
    exact q H' (s1.trans sm)

/-! walks, pair_of -/
theorem sc_walks : FnScope ["tree", "kinds", "kind"] ["tree", "kinds"] (defScope s_walks) := ⟨rfl, rfl, rfl, by decide +kernel, rfl, by decide +kernel, by decide +kernel⟩
def spWalksT : Sp := fun vs H Q _ => ∃ (v : V) (t : B) (p : Addr), vs = [v, .ref p] ∧ BAt H v t ∧ t.size ≤ 50 ∧ H p = some (.tup [.str "first", .str "last"]) ∧ ∀ (d : Addr) (H' : Hp), Same H H' → H' d = some (.tup [.str (tx t.pre), .str (tx t.post)]) → Q (.ref d) H'
def spWalks : Sp := fun vs H Q E => ∃ ws rest, vs = ws ++ rest ∧ ws.length = ["tree"].length ∧ rest.length ≤ sizeLine ∧ ∀ p, H p = Option.none → spWalksT (ws ++ [V.ref p]) (upd H p (.tup rest)) Q E
structure DfR (P : Program) (w : World) (K : PySem.W.Frag) (mg : Str → Option Value) (base : Heap) (k : Nat) (nm : Str) (sp : Sp) where
  f : Addr
  ok : FnR P w K mg base CX0 k f sp
  kp : PySem.W.keepIn K (.ref f) = true
  g : mg nm = some (.ref f)
theorem ok_walks (F : Fun K "walks" "walks" s_walks f fd) (M : Mgs mg) (Dwalk : Df P w K mg base 62 "walk" ["tree", "kind"] spWalk) : FnR P w K mg base CX0 63 f spWalks := by
  obtain ⟨oc, od, kV, doc, pm, an, cdv, ct, osl, rfl, lk, hcd⟩ := F.ex
  refine StX.fn_star (k := 62) (ps := ["tree"]) (pv := "kinds") (sp := spWalksT) lk hcd sc_walks StX.cxUp_none (fun us rest hl => by match us, hl with | [_], _ => cases rest <;> rfl) fun A outer s H vs Q E hr h => ?_
  obtain ⟨v, t, p, rfl, hv, hz, ep, q⟩ := h
  refine ⟨_, ((pss_one (ps_ret (pe_callTy call_tuple_of rfl M.tuple (by decide +kernel) (pa_cons (pe_lc (own := [("kind", 2)]) (g := gName 2) (tt := tYes) rfl sc_walks.nd (pi_tup (pv 1)) (blkOk_by (N := ["tree", "kinds", "kind"]) (sc := defScope s_walks) (by decide +kernel)) (fun _ _ _ _ _ => (pg_name (i := 2) sc_walks.nd rfl (.inl rfl))) (fun _ _ _ _ _ => pts_nil) (fun _ _ _ _ _ => (pe_call Dwalk.ok (hr.mono (by omega)) rfl Dwalk.g Dwalk.kp Dwalk.b .nil pass0 (pa_cons (pv 0) (pa_cons (pv 2) pa_nil))))) pa_nil)))) : PSs (cxOf CX0 P w K mg base ["tree", "kinds", "kind"] "walks" (defScope s_walks) f cdv A outer s H E).nox (defBody s_walks) _).nox, ?_⟩
  refine ⟨_, rfl, p, rfl, ⟨_, SqT.of ep⟩, fun D nD => ?_⟩
  have k1 := same_new nD (.lst [])
  refine lc_tup (K := K) (a := p) (xs := [.str "first", .str "last"]) (fun i H' => Same H H' ∧ H' D = some (.lst (([V.str (tx t.pre), .str (tx t.post)]).take i))) ⟨k1, upd_same⟩ (fun i H' _ hq => SqT.of (hq.1 _ _ ep)) (fun i x H1 hx hq => ?_) (fun H1 hq => ?_)
  · obtain ⟨s1, e1⟩ := hq
    obtain ⟨kk, rfl, hk⟩ : ∃ kk : Kd, x = .str kk.str ∧ ([V.str (tx t.pre), .str (tx t.post)])[i]? = some (.str (tx (t.wk kk))) := by
      match i, hx with
      | 0, h => cases h; exact ⟨.first, rfl, rfl⟩
      | 1, h => cases h; exact ⟨.last, rfl, rfl⟩
    refine ⟨rfl, kept ?_⟩
    refine ⟨_, rfl, _, rfl, v, t, kk, rfl, hv.same s1, hz, fun H2 s2 => ?_⟩
    refine ⟨_, s2 _ _ e1, ?_, fun b u e => ?_, ?_⟩
    · rw [List.length_take]; exact small1000 (by show min i 2 ≤ 1000; omega)
    · rw [upd_ne (ne_of_none e nD)]; exact s2 _ _ (s1 _ _ e)
    · rw [upd_same, take_nextG hk]
  · obtain ⟨s1, e1⟩ := hq
    refine ⟨D, _, rfl, .inl ⟨SqL.of e1, fun d nd => ?_⟩⟩
    exact q d _ (s1.trans (same_new nd _)) upd_same
def spPairOf : Sp := fun vs H Q _ => ∃ (v : V) (t : B), vs = [v] ∧ BAt H v t ∧ t.size ≤ 50 ∧ ∀ (p : Addr) (H' : Hp), Same H H' → H' p = some (.tup [.str (tx t.pre), .str (tx t.post)]) → Q (.ref p) H'
theorem pe_callP {X : Cx} {CX : CXT} {k : Nat} {f : Addr} {sp : Sp} {E : XK} {x : Str} {e : Expr} {es : List Expr} {t : TA} {p pos : Pos} (F : FnR X.prog X.w X.K X.mg X.base CX k f sp) (hr : Room k X.A) (hk : PySem.W.keepIn X.K (.ref f) = true) (hg : Gl X x) (hm : X.mg x = some (.ref f)) (hx : Passes CX X E)
    (ha : PA X (e :: es) t) (hd : (x == ("__debug__" : Str)) = false := by decide) (he : starEach (e :: es) X.env = (false, eval e X.env) :: starEach es X.env := by rfl) (hpl : (backTo pos (starEach es X.env)).any (·.1) = false := by rfl) :
    PE X (.Call (.Name x p) (e :: es) [] pos) (fun σ H Q => t σ H fun vs H1 => sp vs H1 Q E) :=
  ⟨fun pins s σ H Q I h => wpAny_Call_Name_kw (ld_glob I hg hm (PySem.W.callWith_K (h₀ := X.base) I.ok.mod.kin hk (thn (ha.run pos pins s σ H _ I h) fun us s1 ⟨vs, H1, I1, r, q⟩ => ⟨I1.kIn, wpAny_call (run_fnR F hr hx I1 r q)⟩) he hpl) hd)⟩
theorem ok_pairOf (F : Fun K "pair_of" "pair_of" s_pair_of f fd) (Dwalks : DfR P w K mg base 63 "walks" spWalks) : FnOk P w K mg base CX0 64 f fd ["tree"] spPairOf := by
  refine F.ok (k := 63) sc_pair_of (fun vs H Q E h => ?_) (fun cdv A outer s H vs Q E hr h => ?_)
  · obtain ⟨v, t, rfl, _⟩ := h
    rfl
  obtain ⟨v, t, rfl, hv, hz, q⟩ := h
  refine ⟨_, pss_one (ps_ret (pe_callP (E := E0) Dwalks.ok hr Dwalks.kp rfl Dwalks.g pass0 (pa_cons (pv 0) (pa_cons pe_str (pa_cons pe_str pa_nil))))), ?_⟩
  refine ⟨_, rfl, [v], _, rfl, rfl, (by show 2 ≤ sizeLine; decide), fun p np => ?_⟩
  have k1 := same_new np (.tup [.str "first", .str "last"])
  exact ⟨v, t, p, rfl, hv.same k1, hz, upd_same, fun d H' s e => q d H' (k1.trans s) e⟩
end
/-! ### _law_same, of equal data -/
theorem sqT_same {K : PySem.W.Frag} {H H' : Hp} {a : Addr} {xs : List V} (e : Same H H') (h : SqT K H a xs) : SqT K H' a xs := by
  rcases h with (h | ⟨o, h⟩) | h
  · exact .inl (.inl (e _ _ h))
  · exact .inl (.inr ⟨o, e _ _ h⟩)
  · exact .inr h
mutual
theorem dp_same {K : PySem.W.Frag} {H H' : Hp} (e : Same H H') : ∀ {v : V} {d : PyData}, Dp K H v d → Dp K H' v d
  | _, _, .non => .non
  | _, _, .bl b => .bl b
  | _, _, .int i => .int i
  | _, _, .str x => .str x
  | _, _, .lst h a => .lst (e.seq h) (dpAll_same e a)
  | _, _, .tup h a => .tup (sqT_same e h) (dpAll_same e a)
theorem dpAll_same {K : PySem.W.Frag} {H H' : Hp} (e : Same H H') : ∀ {vs : List V} {ds : List PyData}, DpAll K H vs ds → DpAll K H' vs ds
  | _, _, .nil => .nil
  | _, _, .cons h a => .cons (dp_same e h) (dpAll_same e a)
end
theorem dpAll_len {K : PySem.W.Frag} {H : Hp} : ∀ {vs : List V} {ds : List PyData}, DpAll K H vs ds → vs.length = ds.length
  | _, _, .nil => rfl
  | _, _, .cons _ a => congrArg (· + 1) (dpAll_len a)
theorem dpAll_get {K : PySem.W.Frag} {H : Hp} : ∀ {vs : List V} {ds : List PyData} {i : Nat} {d : PyData}, DpAll K H vs ds → ds[i]? = some d → ∃ v, vs[i]? = some v ∧ Dp K H v d
  | _, _, _, _, .nil, h => by simp at h
  | _, _, 0, _, .cons h _, e => by
    cases e
    exact ⟨_, rfl, h⟩
  | _, _, i + 1, _, .cons _ a, e => dpAll_get (i := i) a e
def tyD : PyData → String
  | .none => "NoneType"
  | .bool _ => "bool"
  | .int _ => "int"
  | .str _ => "str"
  | .list _ => "list"
  | .tuple _ => "tuple"
  | .dict _ => "dict"
theorem dp_ty {K : PySem.W.Frag} {H : Hp} {v : V} {d : PyData} (h : Dp K H v d) : TyX K H v (.type (tyD d)) := by
  cases h with
  | non => exact .base .non
  | bl b => exact .base (.bl b)
  | int i => exact .base (.int i)
  | str x => exact .base (.str x)
  | lst h _ =>
    rcases h with (h | ⟨o, h⟩) | ⟨o, its, n, h, hc, _⟩
    · exact .base (.lst h)
    · exact .base (.frz h)
    · exact .kList h hc
  | tup h _ =>
    rcases h with (h | ⟨o, h⟩) | ⟨o, its, n, h, hc, _⟩
    · exact .base (.tup h)
    · exact .fTuple h
    · exact .kTuple h hc
theorem kit_lt {K : PySem.W.Frag} {a : String} {r s : Bool} (h1 : kitB a "list" = some r) (h2 : kitB a "tuple" = some s) : PySem.W.kitAny K (.type a) [.type "list", .type "tuple"] = some (r || s) := by
  refine kitAny_cons (kit_ty h1) (fun e => kitAny_cons (kit_ty h2) (fun e2 => ?_) fun e2 => ?_) fun e => ?_
  · rw [kitAny_nil, e, e2]; rfl
  · rw [e2, Bool.or_true]
  · rw [e, Bool.true_or]
theorem depth_get : ∀ {ds : List PyData} {i : Nat} {d : PyData}, ds[i]? = some d → d.depth ≤ PyData.depthAll ds
  | [], _, _, h => by simp at h
  | x :: xs, 0, _, h => by
    cases h
    simp only [PyData.depthAll]
    omega
  | x :: xs, i + 1, d, h => by
    have := depth_get (ds := xs) (i := i) h
    simp only [PyData.depthAll]
    omega
mutual
def nar : PyData → Bool
  | .list xs => decide (xs.length ≤ 1000000) && narAll xs
  | .tuple xs => decide (xs.length ≤ 1000000) && narAll xs
  | .dict _ => false
  | .none => true
  | .bool _ => true
  | .int _ => true
  | .str _ => true
def narAll : List PyData → Bool
  | [] => true
  | x :: xs => nar x && narAll xs
end
theorem nar_get : ∀ {ds : List PyData} {i : Nat} {d : PyData}, ds[i]? = some d → narAll ds = true → nar d = true
  | [], _, _, h, _ => by simp at h
  | x :: xs, 0, _, h, k => by
    cases h
    simp only [narAll, Bool.and_eq_true] at k
    exact k.1
  | x :: xs, i + 1, d, h, k => by
    simp only [narAll, Bool.and_eq_true] at k
    exact nar_get (ds := xs) (i := i) h k.2
def spSame (K : PySem.W.Frag) (n : Nat) : Sp := fun vs H Q _ => ∃ (v v' : V) (d : PyData), vs = [v, v'] ∧ Dp K H v d ∧ Dp K H v' d ∧ d.depth < n ∧ nar d = true ∧ ∀ H', Same H H' → Q (.bl true) H'
theorem dp_two {K : PySem.W.Frag} {H : Hp} {v v' : V} {d : PyData} {n : Nat} (h : Dp K H v d) (h' : Dp K H v' d) (hd : d.depth < n + 1) (hn : nar d = true) :
    (∃ (p p' : Addr) (xs xs' : List V) (ds : List PyData) (bl : Bool) (ty : String), v = .ref p ∧ v' = .ref p' ∧ (SqL K H p xs ∨ SqT K H p xs) ∧ (SqL K H p' xs' ∨ SqT K H p' xs') ∧ DpAll K H xs ds ∧ DpAll K H xs' ds ∧
      TyX K H v (.type ty) ∧ TyX K H v' (.type ty) ∧ kitB ty "list" = some bl ∧ kitB ty "tuple" = some (!bl) ∧ PyData.depthAll ds < n ∧ ds.length ≤ 1000000 ∧ narAll ds = true ∧ tyD d = ty) ∨ (v = v' ∧ (v = .non ∨ (∃ b, v = .bl b) ∨ (∃ i, v = .int i) ∨ ∃ x, v = .str x)) := by
  have t1 := dp_ty h
  have t2 := dp_ty h'
  cases h with
  | non =>
    cases h'
    exact .inr ⟨rfl, .inl rfl⟩
  | bl b =>
    cases h'
    exact .inr ⟨rfl, .inr (.inl ⟨b, rfl⟩)⟩
  | int b =>
    cases h'
    exact .inr ⟨rfl, .inr (.inr (.inl ⟨b, rfl⟩))⟩
  | str b =>
    cases h'
    exact .inr ⟨rfl, .inr (.inr (.inr ⟨b, rfl⟩))⟩
  | lst h a =>
    cases h' with
    | lst h' a' =>
      simp only [PyData.depth] at hd
      simp only [nar, Bool.and_eq_true, decide_eq_true_eq] at hn
      exact .inl ⟨_, _, _, _, _, true, "list", rfl, rfl, .inl h, .inl h', a, a', t1, t2, by decide +kernel, by decide +kernel, by omega, hn.1, hn.2, rfl⟩
  | tup h a =>
    cases h' with
    | tup h' a' =>
      simp only [PyData.depth] at hd
      simp only [nar, Bool.and_eq_true, decide_eq_true_eq] at hn
      exact .inl ⟨_, _, _, _, _, false, "tuple", rfl, rfl, .inr h, .inr h', a, a', t1, t2, by decide +kernel, by decide +kernel, by omega, hn.1, hn.2, rfl⟩
theorem seq_same {K : PySem.W.Frag} {H H' : Hp} {p : Addr} {xs : List V} (e : Same H H') (h : SqL K H p xs ∨ SqT K H p xs) : SqL K H' p xs ∨ SqT K H' p xs := h.elim (fun h => .inl (e.seq h)) fun h => .inr (sqT_same e h)
theorem seq_ix {K : PySem.W.Frag} {H : Hp} {p : Addr} {xs : List V} {i : Int} {v : V} {Q : VK} (h : SqL K H p xs ∨ SqT K H p xs) (a : atI xs i = some v) (q : Q v H) : rIx K (.ref p) (.int i) H Q :=
  h.elim (fun h => .inl ⟨p, xs, i, v, rfl, rfl, h, a, q⟩) fun h => .inr (.inl ⟨p, xs, i, v, rfl, rfl, h, a, q⟩)
theorem tyX_same {K : PySem.W.Frag} {H H' : Hp} {v : V} {d : PyData} (e : Same H H') (h : Dp K H v d) : TyX K H' v (.type (tyD d)) := dp_ty (dp_same e h)
section
variable {P : Program} {w : World} {K : PySem.W.Frag} {mg : Str → Option Value} {base : Heap} {f : Addr} {fd : FuncData}
theorem kit_tl {K : PySem.W.Frag} {a : String} {r s : Bool} (h1 : kitB a "list" = some r) (h2 : kitB a "tuple" = some s) : PySem.W.kitAny K (.type a) [.type "tuple", .type "list"] = some (r || s) := by
  refine kitAny_cons (kit_ty h2) (fun e => kitAny_cons (kit_ty h1) (fun e2 => ?_) fun e2 => ?_) fun e => ?_
  · rw [kitAny_nil, e, e2]; rfl
  · rw [e2, Bool.true_or]
  · rw [e, Bool.or_true]
theorem kit_sd {K : PySem.W.Frag} {a : String} {r s : Bool} (h1 : kitB a "str" = some r) (h2 : kitB a "dict" = some s) : PySem.W.kitAny K (.type a) [.type "str", .type "dict"] = some (r || s) := by
  refine kitAny_cons (kit_ty h1) (fun e => kitAny_cons (kit_ty h2) (fun e2 => ?_) fun e2 => ?_) fun e => ?_
  · rw [kitAny_nil, e, e2]; rfl
  · rw [e2, Bool.or_true]
  · rw [e, Bool.true_or]
theorem ok_same (F : Fun K "_law_same" "_law_same" s__law_same f fd) (b : Binds K fd ["_law_found", "_law_due_here"] []) (g : mg "_law_same" = some (.ref f)) (M : Mgs mg) : ∀ n : Nat, FnOk P w K mg base CX0 n f fd ["_law_found", "_law_due_here"] (spSame K n)
  | 0 => by
    have no : ∀ vs H Q E, ¬ spSame K 0 vs H Q E := fun vs H Q E h => by
      obtain ⟨v, t, d, _, _, _, h1, _, _⟩ := h
      omega
    exact ⟨fun vs H Q E h => absurd h (no vs H Q E), fun A outer s H args us vs Q E _ _ _ _ h => absurd h (no vs H Q E)⟩
  | n + 1 => by
    have Dself : Df P w K mg base n "_law_same" ["_law_found", "_law_due_here"] (spSame K n) := ⟨f, fd, ok_same F b g M n, b, F.kp, g⟩
    refine F.ok sc__law_same (fun vs H Q E h => ?_) (fun cdv A outer s H vs Q E hr h => ?_)
    · obtain ⟨v, t, d, rfl, _⟩ := h
      rfl
    obtain ⟨v, v', d, rfl, hv, hv', hd, hna, q⟩ := h
    refine ⟨_, (pss_cons (ps_if (pt_val (pe_callB call_isiT rfl M.isinstance (by decide +kernel) (pa_cons (pv 1) (pa_cons (pe_tup (pa_cons (pe_bltn (v := .ty "list") rfl M.list (by decide +kernel) rfl) (pa_cons (pe_bltn (v := .ty "tuple") rfl M.tuple (by decide +kernel) rfl) pa_nil))) pa_nil))))
      (pss_cons (ps_if (PW.pt (pw_or (pt_cmpR op_ne (pe_callB call_isi rfl M.isinstance (by decide +kernel) (pa_cons (pv 0) (pa_cons (pe_bltn (v := .ty "tuple") rfl M.tuple (by decide +kernel) rfl) pa_nil))) (pe_callB call_isi rfl M.isinstance (by decide +kernel) (pa_cons (pv 1) (pa_cons (pe_bltn (v := .ty "tuple") rfl M.tuple (by decide +kernel) rfl) pa_nil))) (nomark _)) (pw_or1 (pt_not (pt_val (pe_callB call_isiT rfl M.isinstance (by decide +kernel) (pa_cons (pv 0) (pa_cons (pe_tup (pa_cons (pe_bltn (v := .ty "tuple") rfl M.tuple (by decide +kernel) rfl) (pa_cons (pe_bltn (v := .ty "list") rfl M.list (by decide +kernel) rfl) pa_nil))) pa_nil))))))))
      (pss_one (ps_ret pe_bl)) pss_nil)
    (pss_cons (ps_if (pt_cmpR op_ne (pe_callB call_len_seq rfl M.len PySem.boot_len (pa_cons (pv 0) pa_nil)) (pe_callB call_len_seq rfl M.len PySem.boot_len (pa_cons (pv 1) pa_nil)) (nomark _))
      (pss_one (ps_ret pe_bl)) pss_nil)
    (pss_one (ps_ret (pe_cmpR (op_eqD hr.units) (pe_lc (own := [("_law_k", 2)]) (g := gName 2) rfl sc__law_same.nd (pi_range1 rfl M.range (pa_cons (pe_callB call_len_seq rfl M.len PySem.boot_len (pa_cons (pv 1) pa_nil)) pa_nil)) (blkOk_by (N := ["_law_found", "_law_due_here", "_law_k"]) (sc := defScope s__law_same) (by decide +kernel)) (fun _ _ _ _ _ => (pg_name (i := 2) sc__law_same.nd rfl (.inl rfl))) (fun _ _ _ _ _ => pts_one (pt_not (pt_val (pe_call Dself.ok (hr.mono (by omega)) rfl Dself.g Dself.kp Dself.b .nil pass0 (pa_cons (pe_ix (show IxR _ (rIx K) from ix_seq) (pv 0) (pv 2) (fun _ _ => rfl)) (pa_cons (pe_ix (show IxR _ (rIx K) from ix_seq) (pv 1) (pv 2) (fun _ _ => rfl)) pa_nil)))))) (fun _ _ _ _ _ => (pv 2))) (pe_lst pa_nil) (nomark _)))))) pss_nil)
    (pss_cons (ps_if (pt_cmpR op_isN (pv 1) pe_non (nomark _))
      (pss_one (ps_ret (pe_cmpR op_isN (pv 0) pe_non (nomark _)))) pss_nil)
    (pss_cons (ps_if (pt_val (pe_callB call_isiT rfl M.isinstance (by decide +kernel) (pa_cons (pv 1) (pa_cons (pe_tup (pa_cons (pe_bltn (v := .ty "str") rfl M.str (by decide +kernel) rfl) (pa_cons (pe_bltn (v := .ty "dict") rfl M.dict (by decide +kernel) rfl) pa_nil))) pa_nil))))
      (pss_one (ps_ret (pe_and (pe_cmpR op_eq (pe_callB call_isi rfl M.isinstance (by decide +kernel) (pa_cons (pv 0) (pa_cons (pe_bltn (v := .ty "str") rfl M.str (by decide +kernel) rfl) pa_nil))) (pe_callB call_isi rfl M.isinstance (by decide +kernel) (pa_cons (pv 1) (pa_cons (pe_bltn (v := .ty "str") rfl M.str (by decide +kernel) rfl) pa_nil))) (nomark _)) (pe_one (pe_cmpR op_eq (pv 0) (pv 1) (nomark _)))))) pss_nil)
    (pss_one (ps_ret (pe_and (pe_callB call_isi rfl M.isinstance (by decide +kernel) (pa_cons (pv 0) (pa_cons (pe_bltn (v := .ty "int") rfl M.int (by decide +kernel) rfl) pa_nil))) (pe_and (pe_cmpR op_eq (pe_callB call_isi rfl M.isinstance (by decide +kernel) (pa_cons (pv 0) (pa_cons (pe_bltn (v := .ty "bool") rfl M.bool (by decide +kernel) rfl) pa_nil))) (pe_callB call_isi rfl M.isinstance (by decide +kernel) (pa_cons (pv 1) (pa_cons (pe_bltn (v := .ty "bool") rfl M.bool (by decide +kernel) rfl) pa_nil))) (nomark _)) (pe_one (pe_cmpR op_eq (pv 0) (pv 1) (nomark _)))))))))), ?_⟩
    refine ⟨v', rfl, (by show 2 ≤ sizeLine; decide), fun tp np => ?_⟩
    have s1 := same_new np (.tup [.ty "list", .ty "tuple"])
    have hw := dp_same s1 hv
    have hw' := dp_same s1 hv'
    have pr : Paired ClsV [V.ty "list", V.ty "tuple"] [Value.type "list", Value.type "tuple"] := .cons (.ty _) (.cons (.ty _) .nil)
    have pr2 : Paired ClsV [V.ty "tuple", V.ty "list"] [Value.type "tuple", Value.type "list"] := .cons (.ty _) (.cons (.ty _) .nil)
    have pr3 : Paired ClsV [V.ty "str", V.ty "dict"] [Value.type "str", Value.type "dict"] := .cons (.ty _) (.cons (.ty _) .nil)
    rcases dp_two hw hw' hd hna with ⟨p, p', xs, xs', ds, bl, ty, rfl, rfl, hq, hq', ha, ha', ht, ht', k1, k2, hdd, hwl, hwn, hty⟩ | ⟨rfl, hk⟩
    · have ka : PySem.W.kitAny K (.type ty) [.type "list", .type "tuple"] = some true := by
        rw [kit_lt k1 k2]
        cases bl <;> rfl
      have ka2 : PySem.W.kitAny K (.type ty) [.type "tuple", .type "list"] = some true := by
        rw [kit_tl k1 k2]
        cases bl <;> rfl
      have hl := dpAll_len ha
      have hl' := dpAll_len ha'
      refine ⟨_, tp, _, _, _, true, rfl, upd_same, pr, ht', ka, _, rfl, iteT ?_⟩
      refine ⟨_, rfl, _, _, _, _, !bl, rfl, .ty _, ht, kit_ty k2, _, rfl, _, _, _, _, !bl, rfl, .ty _, ht', kit_ty k2, by cases bl <;> rfl, _, rfl, iteNS rfl ?_⟩
      have etp := upd_same (H := H) (a := tp) (o := .tup [.ty "list", .ty "tuple"])
      generalize upd H tp (.tup [.ty "list", .ty "tuple"]) = H1 at s1 hw hw' hq hq' ha ha' ht ht' etp ⊢
      refine ⟨_, rfl, (by show 2 ≤ sizeLine; decide), fun tp2 np2 => ?_⟩
      have s2 := same_new np2 (.tup [.ty "tuple", .ty "list"])
      have ht2 := dp_ty (dp_same s2 hw)
      rw [hty] at ht2
      refine ⟨_, tp2, _, _, _, true, rfl, upd_same, pr2, ht2, ka2, _, rfl, iteF ?_⟩
      have s12 := s1.trans s2
      have hq2 := seq_same s2 hq
      have hq2' := seq_same s2 hq'
      have ha2 := dpAll_same s2 ha
      have ha2' := dpAll_same s2 ha'
      generalize upd H1 tp2 (.tup [.ty "tuple", .ty "list"]) = H2 at s12 hq2 hq2' ha2 ha2' ⊢
      refine ⟨_, rfl, p, xs, rfl, hq2, _, rfl, p', xs', rfl, hq2', rfl, _, rfl, iteNS (by rw [hl, hl']) ?_⟩
      refine ⟨_, rfl, p', xs', rfl, hq2', _, rfl, ?_, ?_, fun D nD => ?_⟩
      · omega
      · omega
      have s3 := same_new nD (.lst [])
      rw [Int.toNat_natCast]
      refine lc_range (lo := 0) (n := xs'.length) (fun i H' => Same H2 H' ∧ H' D = some (.lst [])) ⟨s3, upd_same⟩ (fun i H' hi hp => ?_) (fun H' hp => ?_)
      · obtain ⟨sm, eD⟩ := hp
        obtain ⟨di, edi⟩ : ∃ di, ds[i]? = some di := ⟨_, List.getElem?_eq_getElem (by omega)⟩
        obtain ⟨x, ex, hx⟩ := dpAll_get ha2 edi
        obtain ⟨x', ex', hx'⟩ := dpAll_get ha2' edi
        have hdi := depth_get edi
        have e0 : (0 : Int) + (i : Int) = ((i : Nat) : Int) := by omega
        rw [e0]
        refine ⟨rfl, ?_⟩
        refine ⟨_, rfl, _, rfl, seq_ix (seq_same sm hq2) (atI_nat ex) ⟨_, rfl, _, rfl, seq_ix (seq_same sm hq2') (atI_nat ex') ⟨x, x', di, rfl, dp_same sm hx, dp_same sm hx', by omega, nar_get edi hwn, fun H'' s'' => ?_⟩⟩⟩
        exact ⟨_, rfl, iteF ⟨sm.trans s'', s'' _ _ eD⟩⟩
      · obtain ⟨sm, eD⟩ := hp
        refine ⟨(by show 0 ≤ sizeLine; decide), fun e ne => ?_⟩
        refine ⟨.list [], .list [], .lst (SqL.of ((same_new ne _) _ _ eD)) .nil, .lst (SqL.of upd_same) .nil, rfl, rfl, ?_⟩
        exact q _ (s12.trans (sm.trans (same_new ne _)))
    · rcases hk with rfl | ⟨c, rfl⟩ | ⟨c, rfl⟩ | ⟨c, rfl⟩
      · refine ⟨_, tp, _, _, _, false, rfl, upd_same, pr, .base .non, kit_lt (r := false) (s := false) (by decide +kernel) (by decide +kernel), _, rfl, iteF ?_⟩
        refine ⟨_, rfl, rfl, _, rfl, iteT ?_⟩
        exact ⟨_, rfl, rfl, q _ s1⟩
      · refine ⟨_, tp, _, _, _, false, rfl, upd_same, pr, .base (.bl c), kit_lt (r := false) (s := false) (by decide +kernel) (by decide +kernel), _, rfl, iteF ?_⟩
        refine ⟨_, rfl, rfl, _, rfl, iteF ?_⟩
        refine ⟨_, rfl, (by show 2 ≤ sizeLine; decide), fun tp3 np3 => ?_⟩
        have s3 := s1.trans (same_new np3 (.tup [.ty "str", .ty "dict"]))
        refine ⟨_, tp3, _, _, _, false, rfl, upd_same, pr3, .base (.bl c), kit_sd (r := false) (s := false) (by decide +kernel) (by decide +kernel), _, rfl, iteF ?_⟩
        refine ⟨_, rfl, _, _, _, _, true, rfl, .ty _, .base (.bl c), kit_ty (by decide +kernel), _, rfl, iteT ?_⟩
        refine ⟨_, rfl, _, _, _, _, true, rfl, .ty _, .base (.bl c), kit_ty (by decide +kernel), _, rfl, _, _, _, _, true, rfl, .ty _, .base (.bl c), kit_ty (by decide +kernel), rfl, _, rfl, iteT ?_⟩
        refine ⟨_, rfl, _, rfl, by cases c <;> rfl, ?_⟩
        rw [decide_eq_true rfl]
        exact q _ s3
      · refine ⟨_, tp, _, _, _, false, rfl, upd_same, pr, .base (.int c), kit_lt (r := false) (s := false) (by decide +kernel) (by decide +kernel), _, rfl, iteF ?_⟩
        refine ⟨_, rfl, rfl, _, rfl, iteF ?_⟩
        refine ⟨_, rfl, (by show 2 ≤ sizeLine; decide), fun tp3 np3 => ?_⟩
        have s3 := s1.trans (same_new np3 (.tup [.ty "str", .ty "dict"]))
        refine ⟨_, tp3, _, _, _, false, rfl, upd_same, pr3, .base (.int c), kit_sd (r := false) (s := false) (by decide +kernel) (by decide +kernel), _, rfl, iteF ?_⟩
        refine ⟨_, rfl, _, _, _, _, true, rfl, .ty _, .base (.int c), kit_ty (by decide +kernel), _, rfl, iteT ?_⟩
        refine ⟨_, rfl, _, _, _, _, false, rfl, .ty _, .base (.int c), kit_ty (by decide +kernel), _, rfl, _, _, _, _, false, rfl, .ty _, .base (.int c), kit_ty (by decide +kernel), rfl, _, rfl, iteT ?_⟩
        refine ⟨_, rfl, _, rfl, rfl, ?_⟩
        rw [decide_eq_true rfl]
        exact q _ s3
      · refine ⟨_, tp, _, _, _, false, rfl, upd_same, pr, .base (.str c), kit_lt (r := false) (s := false) (by decide +kernel) (by decide +kernel), _, rfl, iteF ?_⟩
        refine ⟨_, rfl, rfl, _, rfl, iteF ?_⟩
        refine ⟨_, rfl, (by show 2 ≤ sizeLine; decide), fun tp3 np3 => ?_⟩
        have s3 := s1.trans (same_new np3 (.tup [.ty "str", .ty "dict"]))
        refine ⟨_, tp3, _, _, _, true, rfl, upd_same, pr3, .base (.str c), kit_sd (r := true) (s := false) (by decide +kernel) (by decide +kernel), _, rfl, iteT ?_⟩
        refine ⟨_, rfl, _, _, _, _, true, rfl, .ty _, .base (.str c), kit_ty (by decide +kernel), _, rfl, _, _, _, _, true, rfl, .ty _, .base (.str c), kit_ty (by decide +kernel), rfl, _, rfl, iteT ?_⟩
        refine ⟨_, rfl, _, rfl, rfl, ?_⟩
        rw [decide_eq_true rfl]
        exact q _ s3
end
/-! ### a def entered at one caller -/
theorem enter_def {P : Program} {w : World} {K : PySem.W.Frag} {mg : Str → Option Value} {base : Heap} {f : Addr} {fd : FuncData} {N ps : List Str} {k : Nat} {x qual : Str} {st : Stmt} (F : Fun K x qual st f fd) (S : FnScope N ps (defScope st))
    {A : Around} {outer : List Env} {s : Shared} {H : Hp} {args : Args} {us : List Value} {vs : List V} {Q : VK} {E : XK}
    (room : Room (k + 1) A) (en : Env0 P w K mg base A outer s H) (bd : BindsTo s fd args (ps.zip us)) (rel : Vals vs us) (hln : vs.length = ps.length)
    (body : ∀ cdv : Value, Room k (A.deeper (envOfC qual (defScope st) s.heap.objs.size f cdv)) →
      ∃ t, PSs (cxOf CX0 P w K mg base N qual (defScope st) f cdv A outer s H E).nox (defBody st) t ∧ t { nx := fun _ H' => Q .non H', rt := Q } (start N vs) H) :
    codeAny (model P w) A (.call (.ref f) args) (CR CX0 outer P w H s Q E) s := by
  obtain ⟨oc, od, kV, doc, pm, an, cdv, ct, osl, rfl, look, code⟩ := F.ex
  have still : ∀ b o, base.get? b = some o → s.heap.get? b = some o := fun b o e => (en.bs b o e).1
  have inK : K.In s.heap := en.mod.kin.keeps still
  have noL : s.heap.NoLimit := en.mod.nolimit.keeps still
  have kinds : ∀ y ∈ ps.zip us, (defScope st).names.lookup y.1 = some .local ∨
      ((defScope st).names.lookup y.1 = some .cell ∧ ((cellsFrom (s.heap.objs.size + 1) (defScope st).names []).lookup y.1).isSome = true) := by
    rintro ⟨nm, u⟩ hy
    cases S.par nm (List.of_mem_zip hy).1 with
    | inl z => exact .inl z
    | inr z => exact .inr ⟨z, PySem.W.cellsFrom_some _ _ _ (.inl z)⟩
  have step := codeAny_call_function (prog := P) (w := w) (A := A) (s := s) room.depth (inK _ _ look) rfl S.co S.gen rfl (PySem.W.codeRec_of inK code)
    (R := CR CX0 outer P w H s Q E) (args := args)
  refine step (bd _ _ _ _ ?_)
  refine wpAny_newFunctionEnv_cells S.kind kinds ?_
  intro env isEnv s1 inC
  subst isEnv
  refine ⟨noL.keeps inC.toInCall.keep, codeAny_func ?_⟩
  obtain ⟨t, ht, hq⟩ := body cdv (room.deeper _)
  have J : Inv (cxOf CX0 P w K mg base N qual (defScope st) f cdv A outer s H E) [] (start N vs) H s1 := inv_start S room.hd en hln rel inC
  refine wpAny_mono (ht.nox.run [] s1 (start N vs) H _ J hq) ?_ ?_
  · intro fl s' done
    cases fl with
    | ret u =>
      obtain ⟨v, σ', H', I', rv, qv⟩ := done
      exact ⟨v, H', I'.os, I'.bare, I'.base, I'.hok, rv, qv⟩
    | next =>
      obtain ⟨σ', H', I', qv⟩ := done
      exact ⟨V.non, H', I'.os, I'.bare, I'.base, I'.hok, rfl, qv⟩
    | brk => exact done.elim fun _ z => z.elim fun _ z => z.2.elim
    | cont => exact done.elim fun _ z => z.elim fun _ z => z.2.elim
  · intro e s' z
    exact z
/-! ### the law's own call -/
theorem law_at {P : Program} {w : World} {K : PySem.W.Frag} {mg mb : Str → Option Value} {fa a : Addr} {s₁ : Shared} {vs : List Value} {ns : List Int}
    (inK : K.In s₁.heap) (gl : s₁.heap.Ns mainGlobals mg) (bl : s₁.heap.Ns builtinsNs mb) (isB : ∀ x : Str, x ≠ "__name__" → mb x = bootBuiltins x) (lim : s₁.heap.NoLimit) (gens : s₁.gens = #[])
    (obj : s₁.heap.get? a = some { cls := .type "list", data := .seq vs.toArray }) (hints : IntsAre vs ns) (few : ns.length ≤ sizeLine)
    (run : ∀ (base : Heap) (H : Hp), K.In base → base.Ns mainGlobals mg → Env0 P w K mg base callerA [] s₁ H → SqL K H a (ns.map V.int) →
      codeAny (model P w) callerA (.call (.ref fa) ⟨[.ref a], []⟩) (CR CX0 [] P w H s₁ (fun v _ => v = .bl true) fun _ _ _ => False) s₁) :
    codeAny (model P w) callerA (.call (.ref fa) ⟨[.ref a], []⟩) (fun r s' => r = .ok (.ret (.bool true)) ∧ OldK s₁.heap s'.heap ∧ s'.os = s₁.os ∧ AllBare s'.gens) s₁ := by
  have rel := vals_ints hints
  have lens := hints.length
  have found : ∃ H : Hp, Only H ∧ SqL K H a (ns.map V.int) ∧ HOk P w H s₁.heap ∧ (∀ b u, H b = some u → b = a ∧ K.lookup a = none) := by
    cases inText : K.lookup a with
    | some o =>
      have same := inK a o inText
      rw [obj] at same
      cases same
      have never : ∀ (u : HO), (none : Option HO) ≠ some u := fun u z => by cases z
      refine ⟨fun _ => none, fun _ => .inl rfl, ?_, (fun b u z => (never u z).elim), (fun b u z => (never u z).elim)⟩
      refine .inr ⟨_, vs.toArray, _, inText, rfl, rfl, rfl, ?_, ?_⟩
      · rw [List.size_toArray, lens]
        exact few
      · rw [List.toList_toArray]
        exact rel
    | none =>
      let here : HO := .frz { cls := .type "list", data := .seq vs.toArray } (.lst (ns.map V.int))
      have only : ∀ b u, (if b = a then some here else none) = some u → b = a ∧ u = here := fun b u z => by
        by_cases hb : b = a
        · rw [if_pos hb] at z
          exact ⟨hb, (Option.some.inj z).symm⟩
        · rw [if_neg hb] at z
          cases z
      refine ⟨fun b => if b = a then some here else none, fun b => ?_, .inl (.inr ⟨{ cls := .type "list", data := .seq vs.toArray }, if_pos rfl⟩), fun b u z => ?_, fun b u z => ⟨(only b u z).1, rfl⟩⟩
      · by_cases hb : b = a
        · exact .inr ⟨_, _, if_pos hb⟩
        · exact .inl (if_neg hb)
      · obtain ⟨rfl, rfl⟩ := only b u z
        exact ⟨obj, by rw [List.length_map]; exact few, vs, _, rel, obj⟩
  obtain ⟨H, hO, hS, hok, hA⟩ := found
  have under : ∀ {b : Addr} {o : Obj}, s₁.heap.get? b = some o → H b = none → (hidT s₁.heap H).get? b = some o := fun e z => hidT_get e z
  have notDict : ∀ {b : Addr} {o : Obj} {es : Array DictEntry} {ep : Nat}, s₁.heap.get? b = some o → o.data = .dict es ep → H b = none := by
    intro b o es ep e isD
    cases z : H b with
    | none => rfl
    | some u =>
      obtain ⟨rfl, _⟩ := hA b u z
      rw [obj] at e
      cases e
      cases isD
  have ns' : ∀ {b : Addr} {m : Str → Option Value}, s₁.heap.Ns b m → (hidT s₁.heap H).Ns b m := by
    rintro b m ⟨o, es, ep, e, isD, r⟩
    exact ⟨o, es, ep, under e (notDict e isD), isD, r⟩
  have inK' : K.In (hidT s₁.heap H) := by
    intro b o e
    refine under (inK b o e) ?_
    cases z : H b with
    | none => rfl
    | some u =>
      obtain ⟨rfl, no⟩ := hA b u z
      rw [no] at e
      cases e
  obtain ⟨mc, l1, l2⟩ := lim
  have env : Env0 P w K mg (hidT s₁.heap H) callerA [] s₁ H :=
    ⟨rfl, ⟨inK', ns' gl, ⟨mb, ns' bl, isB⟩, ⟨mc, ns' l1, l2⟩⟩, fun _ _ e => of_hidT e, Nat.le_of_eq (hidT_size _ _), trivial, (fun _ hb => nomatch hb), hok, .of_eq gens⟩
  refine codeAny_mono (run _ H inK' (ns' gl) env hS) ?_
  intro r s' h
  cases r with
  | error e => exact h.elim
  | ok fl =>
    cases fl with
    | next => exact h.elim
    | brk => exact h.elim
    | cont => exact h.elim
    | ret u =>
      obtain ⟨v, H', os, bare, un, hok', rv, isT⟩ := h
      subst isT
      cases rv
      refine ⟨rfl, OldK.of_keep ?_, os, bare⟩
      intro b o e
      cases z : H b with
      | none => exact un.keep b o e z (fun y => nomatch y) (fun y => nomatch y)
      | some u =>
        rcases hO b with y | ⟨ob, xs, y⟩
        · rw [z] at y
          cases y
        · have y2 := un.frzs b ob _ y
          obtain ⟨e1, _⟩ := hok b _ y
          obtain ⟨e2, _⟩ := hok' b _ y2
          rw [e] at e1
          cases e1
          exact e2
/-! ### t[::-1] -/
section
variable {prog : Program} {w : World} {A : Around} {E : Value → Shared → Prop} {s : Shared}
open HT in
theorem back_bounds {sl : Addr} {vl vu vs : Value} {n : Nat} {Q : Int × Int × Nat → Shared → Prop} (hs : s.heap.IsSliceOf sl vl vu vs) (pl : IsPart vl none) (pu : IsPart vu none) (ps : IsPart vs (some (-1)))
    (h : Q ((n : Int) - 1, -1, n) s) : wpAny (model prog w) A (Builtin.Slice.sliceApplied (.ref sl) (pure (n : Int))) Q E s := by
  obtain ⟨ob, isOb, isCl, isDt⟩ := id hs
  unfold Builtin.Slice.sliceApplied Builtin.Slice.sliceFields
  refine wpAny_bind (wpAny_bind (wpAny_field isOb isDt (x := vl) rfl (wpAny_bind (wpAny_field isOb isDt (x := vu) rfl (wpAny_bind (wpAny_field isOb isDt (x := vs) rfl (wpAny_pure ?_)))))))
  refine wpAny_bind (slicePart_ ps ?_)
  show wpAny _ _ (if ((-1 : Int) == 0) = true then _ else _) _ _ s
  rw [if_neg (by decide)]
  refine wpAny_bind (slicePart_ pl (wpAny_bind (slicePart_ pu (wpAny_bind (wpAny_pure ?_)))))
  have e : Builtin.Slice.slicePlaces ((n : Int) - 1) (-1) (-1) = n := by
    unfold Builtin.Slice.slicePlaces
    rw [if_neg (by decide)]
    by_cases h0 : (n : Int) - 1 > -1
    · rw [if_pos h0, show (- -1 : Int) = 1 by decide, Int.ediv_one]
      omega
    · rw [if_neg h0]
      omega
  show wpAny _ _ (pure ((n : Int) - 1, (-1 : Int), Builtin.Slice.slicePlaces ((n : Int) - 1) (-1) (-1))) _ _ s
  rw [e]
  exact wpAny_pure h
theorem fm_congr {α β : Type} {f g : α → Option β} : ∀ (l : List α), (∀ k ∈ l, f k = g k) → l.filterMap f = l.filterMap g
  | [], _ => rfl
  | x :: l, h => by
    rw [List.filterMap_cons, List.filterMap_cons, h x (List.mem_cons_self ..), fm_congr l fun k hk => h k (List.mem_cons_of_mem _ hk)]
theorem back_pick (xs : Array Value) : ((List.range xs.size).filterMap fun (k : Nat) => xs[((xs.size : Int) - 1 + (k : Int) * (-1)).toNat]?).toArray = xs.toList.reverse.toArray := by
  congr 1
  have e1 : ((List.range xs.size).filterMap fun (k : Nat) => xs[((xs.size : Int) - 1 + (k : Int) * (-1)).toNat]?) = ((List.range xs.size).map fun k => xs.size - 1 - k).filterMap (xs[·]?) := by
    rw [List.filterMap_map]
    refine fm_congr _ fun k hk => ?_
    have := List.mem_range.mp hk
    show xs[((xs.size : Int) - 1 + (k : Int) * (-1)).toNat]? = xs[xs.size - 1 - k]?
    rw [show ((xs.size : Int) - 1 + (k : Int) * (-1)).toNat = xs.size - 1 - k by omega]
  rw [e1, PySem.W.krv_range, List.filterMap_reverse, PySem.W.krv_all]
open HT in
theorem getItem_back {t sl : Addr} {items : Array Value} {vl vu vs : Value} {Q : Value → Shared → Prop} (ht : IsTup s.heap t items) (hs : s.heap.IsSliceOf sl vl vu vs) (pl : IsPart vl none) (pu : IsPart vu none) (ps : IsPart vs (some (-1)))
    (h : Q (.ref s.heap.objs.size) { s with heap := s.heap.push { cls := .type "tuple", data := .seq items.toList.reverse.toArray } }) (hsz : items.size ≤ sizeLine) : wpAny (model prog w) A (getItem (.ref t) (.ref sl)) Q E s := by
  obtain ⟨ob, isOb, isCl, isDt⟩ := id hs
  have isSl : s.TypeIs (.ref sl) "slice" := ⟨ob, isOb, isCl⟩
  have fits : sizeOk (.seq items.toList.reverse.toArray) := by
    show items.toList.reverse.toArray.size ≤ sizeLine
    rw [List.size_toArray, List.length_reverse, Array.length_toList]
    exact hsz
  unfold getItem
  refine wpAny_holding ?_
  refine wpAny_bind (wpAny_sequenceKey ht.typeIs (by decide) ?_)
  have body : wpAny (model prog w) A.in1 (Builtin.«tuple.__getitem__» ⟨[.ref t, .ref sl], []⟩) (fun fin s' => ∃ v, fin = Fin.done (Flow.ret v) ∧ Q v s') E s := by
    show wpAny _ _ (Builtin.Tuple.tupleItemsOf (.ref t) >>= _) _ _ s
    refine wpAny_bind (tupleItemsOf_ ht (wpAny_bind (wpAny_typeOf isSl ?_)))
    rw [if_pos (by decide)]
    refine wpAny_bind (back_bounds hs pl pu ps ?_)
    have off : ¬ ((((items.size : Int) - 1) == 0 && (-1 : Int) == 1 && items.size == items.size) = true) := by
      rw [show ((-1 : Int) == 1) = false by decide, Bool.and_false, Bool.false_and]
      exact Bool.false_ne_true
    show wpAny _ _ (if (((items.size : Int) - 1) == 0 && (-1 : Int) == 1 && items.size == items.size) = true then _ else _) _ _ s
    rw [if_neg off, back_pick]
    first
      | exact wpAny_bind (m := Builtin.Tuple.tupleExact _) (wpAny_newObj_type (wpAny_pure ⟨_, rfl, h⟩) fits)
      | exact wpAny_bind (m := Builtin.Tuple.tupleExact _) (wpAny_newObj_type (wpAny_bind (wpAny_pure (wpAny_pure ⟨_, rfl, h⟩))) fits)
      | exact wpAny_bind (wpAny_bind (m := Builtin.Tuple.tupleExact _) (wpAny_newObj_type (wpAny_pure (wpAny_pure ⟨_, rfl, h⟩)) fits))
      | exact wpAny_bind (wpAny_bind (m := Builtin.Tuple.tupleExact _) (wpAny_newObj_type (wpAny_pure ⟨_, rfl, h⟩) fits))
  refine wpAny_bind (wpAny_callSpecial?_slot (name := Str.ofString "__getitem__") ht.typeIs PyProof.Rows.slot_tuple_getitem ?_)
  refine wpAny_call_entry PyProof.Rows.slot_tuple_getitem ht.typeIs entry_tuple_getitem (wpAny_mono body (fun fin s' z => ?_) fun _ _ z => z) (args_tuple_getitem _ _)
  obtain ⟨v, e, q⟩ := z
  exact ⟨v, e, wpAny_pure q⟩
end
/-- t[::-1], t a tuple -/
def tRevT (K : PySem.W.Frag) (te : TE) : TE := fun σ H Q => te σ H fun x H1 => ∃ a xs, x = .ref a ∧ SqT K H1 a xs ∧ ∀ p, H1 p = none → Q (.ref p) (upd H1 p (.tup xs.reverse))
theorem pe_revT {X : Cx} {e : Expr} {te : TE} {k : Nat} {p1 p2 p3 pos : Pos} (he : PE X e te) : PE X (.Subscript e (.Slice none none (some (.UnaryOp .USub (.Constant (.int 1) k p1) p2)) p3) pos) (tRevT X.K te) := by
  constructor
  intro pins s σ H Q I h
  refine Subscript_ (thn (he.run pins s σ H _ I h) ?_)
  rintro v s1 ⟨x, H1, I1, r1, a, xs, rfl, hx, q⟩
  cases r1
  have minus : PO X (some (.UnaryOp .USub (.Constant (.int 1) k p1) p2)) (tPart (tUn (rU fun i => .int (-i)) (tC (.int 1)))) := po_some (pe_un un_neg pe_int)
  refine wpAny_Slice (thn (po_none.run pins s1 σ H1 (fun o H2 => o = none ∧ H2 = H1) I1 ⟨rfl, rfl⟩) ?_)
  rintro vl s2 ⟨l, H2, I2, pl, rfl, rfl⟩
  refine thn (po_none.run pins s2 σ H2 (fun o H3 => o = none ∧ H3 = H2) I2 ⟨rfl, rfl⟩) ?_
  rintro vu s3 ⟨u, H3, I3, pu, rfl, rfl⟩
  refine thn (minus.run pins s3 σ H3 (fun o H4 => o = some (-1) ∧ H4 = H3) I3 ⟨1, rfl, -1, rfl, rfl, rfl⟩) ?_
  rintro vs s4 ⟨o, H4, I4, ps, rfl, rfl⟩
  have J : Inv X pins σ H4 { s4 with heap := s4.heap.push { cls := .type "slice", data := .fields #[vl, vu, vs] } } := I4.kept (t' := s4.toks) fun _ _ z => Heap.get?_push_of_some _ z
  obtain ⟨its, r, ht, hz⟩ := J.tuple hx
  have lens := r.length
  show wpAny (model X.prog X.w) X.A (subscriptTail e (.Slice none none (some (.UnaryOp .USub (.Constant (.int 1) k p1) p2)) p3) (.ref a) (.ref s4.heap.objs.size)) _ X.xe _
  refine tail_any (ops := [.ref a, .ref s4.heap.objs.size]) ht.typeIs (PyProof.Rows.slot_tuple_getitem.lookup) ?_ (by with_unfolding_all rfl)
  refine getItem_back ht (Heap.IsSliceOf.new _ vl vu vs) pl pu ps ?_ (by rw [List.size_toArray]; omega)
  refine ⟨.ref _, _, J.laid (t' := s4.toks) (o := .tup xs.reverse) (fun _ _ z => Heap.get?_push_of_some _ z) (Nat.le_refl _) ?_, rfl, q _ (J.hok.fresh (Nat.le_refl _))⟩
  exact ⟨by rw [List.length_reverse]; exact hz, _, r.reverse, ⟨_, Heap.get?_push_size _ rfl, rfl, _, rfl⟩⟩
/-! ### values of any kind, and how they are shown -/
mutual
inductive DQ (D : Deck) (H : Hp) : V → PyData → Prop
  | non : DQ D H .non .none
  | bl (b : Bool) : DQ D H (.bl b) (.bool b)
  | int (i : Int) : DQ D H (.int i) (.int i)
  | str (x : Str) : DQ D H (.str x) (.str x)
  | lst {a : Addr} {xs : List V} {ds : List PyData} : Off D a → H a = some (.lst xs) → DQAll D H xs ds → DQ D H (.ref a) (.list ds)
  | tup {a : Addr} {xs : List V} {ds : List PyData} : Off D a → H a = some (.tup xs) → DQAll D H xs ds → DQ D H (.ref a) (.tuple ds)
  | emp {a : Addr} : Off D a → H a = some (.dK []) → DQ D H (.ref a) (.dict [])
inductive DQAll (D : Deck) (H : Hp) : List V → List PyData → Prop
  | nil : DQAll D H [] []
  | cons {v : V} {vs : List V} {d : PyData} {ds : List PyData} : DQ D H v d → DQAll D H vs ds → DQAll D H (v :: vs) (d :: ds)
end
mutual
theorem dq_sameD {D : Deck} {H H' : Hp} (s : SameD D H H') : ∀ {v : V} {d : PyData}, DQ D H v d → DQ D H' v d
  | _, _, .non => .non
  | _, _, .bl b => .bl b
  | _, _, .int i => .int i
  | _, _, .str x => .str x
  | _, _, .lst o e a => .lst o (s.at o e) (dqAll_sameD s a)
  | _, _, .tup o e a => .tup o (s.at o e) (dqAll_sameD s a)
  | _, _, .emp o e => .emp o (s.at o e)
theorem dqAll_sameD {D : Deck} {H H' : Hp} (s : SameD D H H') : ∀ {vs : List V} {ds : List PyData}, DQAll D H vs ds → DQAll D H' vs ds
  | _, _, .nil => .nil
  | _, _, .cons h a => .cons (dq_sameD s h) (dqAll_sameD s a)
end
theorem dq_same {D : Deck} {H H' : Hp} (s : Same H H') {v : V} {d : PyData} (h : DQ D H v d) : DQ D H' v d := dq_sameD (SameD.of s) h
theorem dqAll_same {D : Deck} {H H' : Hp} (s : Same H H') {v : List V} {d : List PyData} (h : DQAll D H v d) : DQAll D H' v d := dqAll_sameD (SameD.of s) h
theorem dqAll_len {D : Deck} {H : Hp} : ∀ {vs : List V} {ds : List PyData}, DQAll D H vs ds → vs.length = ds.length
  | _, _, .nil => rfl
  | _, _, .cons _ a => congrArg (· + 1) (dqAll_len a)
theorem dqAll_get {D : Deck} {H : Hp} : ∀ {vs : List V} {ds : List PyData} {i : Nat} {v : V}, DQAll D H vs ds → vs[i]? = some v → ∃ d, ds[i]? = some d ∧ DQ D H v d
  | _, _, _, _, .nil, h => by simp at h
  | _, _, 0, _, .cons h _, e => by
    cases e
    exact ⟨_, rfl, h⟩
  | _, _, i + 1, _, .cons _ a, e => dqAll_get (i := i) a e
theorem dqAll_app {D : Deck} {H : Hp} : ∀ {vs vs' : List V} {ds ds' : List PyData}, DQAll D H vs ds → DQAll D H vs' ds' → DQAll D H (vs ++ vs') (ds ++ ds')
  | _, _, _, _, .nil, h => h
  | _, _, _, _, .cons h a, h' => .cons h (dqAll_app a h')
theorem BAt.dq {D : Deck} {H : Hp} {n : Nat} (d : DeckOk H D n) {v : V} {t : B} (h : BAt H v t) : DQ D H v t.data := by
  obtain ⟨c, r, h1, h2, h3, _⟩ := d.ex
  induction h with
  | nil => exact .non
  | node e _ _ i1 i2 => exact .tup ⟨ne_of e h1 (by intro z; cases z), ne_of e h2 (by intro z; cases z), ne_of e h3 (by intro z; cases z)⟩ e (.cons i1 (.cons (.str _) (.cons i2 .nil)))
def okInts : List Int := [-1, 0, 1, 12, 100000000000000000000000000000]
mutual
def gd : PyData → Bool
  | .none => true
  | .bool _ => true
  | .int i => decide (i ∈ okInts)
  | .str x => decide (x.length ≤ 90) && x.cps.toList.all (· < 128)
  | .list xs => gds xs
  | .tuple xs => gds xs
  | .dict kvs => kvs.isEmpty
def gds : List PyData → Bool
  | [] => true
  | x :: xs => gd x && gds xs
end
mutual
def wt : PyData → Nat
  | .none => 4
  | .bool _ => 5
  | .int _ => 31
  | .str _ => 902
  | .list xs => 3 + wts xs
  | .tuple xs => 3 + wts xs
  | .dict _ => 2
def wts : List PyData → Nat
  | [] => 0
  | x :: xs => wt x + 2 + wts xs
end
theorem gd_str {x : Str} (h : gd (.str x) = true) : x.length ≤ 90 ∧ ∀ c ∈ x.cps.toList, c < 128 := by
  simp only [gd, Bool.and_eq_true, decide_eq_true_eq, List.all_eq_true] at h
  exact h
theorem reprText_le {x : Str} (h : gd (.str x) = true) : (reprText x).length ≤ 902 := by
  obtain ⟨h1, h2⟩ := gd_str h
  have := StrLaws.reprText_len x (fun c hc => Nat.lt_of_lt_of_le (h2 c hc) (by decide))
  omega
theorem int_show {i : Int} (h : gd (.int i) = true) : (Str.ofString (toString i)).length ≤ 31 ∧ i.natAbs.log2 < 1920 := by
  simp only [gd, decide_eq_true_eq] at h
  unfold okInts at h
  rcases List.mem_cons.mp h with rfl | h
  · decide +kernel
  rcases List.mem_cons.mp h with rfl | h
  · decide +kernel
  rcases List.mem_cons.mp h with rfl | h
  · decide +kernel
  rcases List.mem_cons.mp h with rfl | h
  · decide +kernel
  rcases List.mem_cons.mp h with rfl | h
  · decide +kernel
  · exact nomatch h
theorem listText_le (ts : List Str) : (listText ts).length ≤ piled ts + 3 := by
  have h := textFrom_len_le ts 0 "["
  have e : (listText ts).length = (textFrom 0 "[" ts).length + 1 := by
    show (textFrom 0 "[" ts ++ "]").length = _
    rw [strLen_append]
    rfl
  have z : ∀ l : List Str, (l.map (·.length)).sum + 2 * l.length = piled l := by
    intro l
    induction l with
    | nil => rfl
    | cons t l ih =>
      rw [piled_cons, List.map_cons, List.sum_cons, List.length_cons]
      omega
  have z2 := z ts
  have z3 : (("[" : String) : Str).length = 1 := rfl
  omega
mutual
theorem shown_le : ∀ d : PyData, gd d = true → d.shown.length ≤ wt d ∧ d.showable = true
  | .none, _ => by
    simp only [PyData.shown, wt, PyData.showable, and_true]
    decide +kernel
  | .bool b, _ => by
    simp only [PyData.shown, wt, PyData.showable, and_true]
    cases b <;> decide +kernel
  | .int i, h => by
    obtain ⟨h1, h2⟩ := int_show h
    simp only [PyData.shown, wt, PyData.showable, decide_eq_true_eq]
    exact ⟨h1, h2⟩
  | .str x, h => by
    have h1 := reprText_le h
    simp only [PyData.shown, wt, PyData.showable, and_true]
    exact h1
  | .list xs, h => by
    simp only [gd] at h
    obtain ⟨h1, h2⟩ := showns_le xs h
    simp only [PyData.shown, wt, PyData.showable]
    exact ⟨Nat.le_trans (listText_le _) (by omega), h2⟩
  | .tuple xs, h => by
    simp only [gd] at h
    obtain ⟨h1, h2⟩ := showns_le xs h
    simp only [PyData.shown, wt, PyData.showable]
    exact ⟨Nat.le_trans (fmt_text _) (by omega), h2⟩
  | .dict kvs, h => by
    simp only [gd] at h
    cases kvs with
    | nil =>
      simp only [PyData.shown, PyData.shownKv, wt, PyData.showable, PyData.showableKv, and_true]
      decide +kernel
    | cons p r => exact absurd h Bool.false_ne_true
theorem showns_le : ∀ ds : List PyData, gds ds = true → piled (PyData.shownAll ds) ≤ wts ds ∧ PyData.showableAll ds = true
  | [], _ => by
    simp only [PyData.shownAll, wts, PyData.showableAll, and_true]
    exact Nat.le_refl _
  | d :: ds, h => by
    simp only [gds, Bool.and_eq_true] at h
    obtain ⟨h1, h2⟩ := shown_le d h.1
    obtain ⟨h3, h4⟩ := showns_le ds h.2
    simp only [PyData.shownAll, wts, PyData.showableAll, h2, h4, Bool.and_self, and_true]
    rw [piled_cons]
    omega
end
/-! ### repr of such a value -/
section
variable {X : Cx} {pins : List (Addr × Obj)} {σ : L2.St} {H : Hp} {s : Shared} {D : Deck}
theorem obj_lst (I : Inv X pins σ H s) {a : Addr} {xs : List V} (e : H a = some (.lst xs)) : ∃ (its : List Value) (o : Obj) (n : Nat), Vals xs its ∧ s.heap.get? a = some o ∧ o.cls = .type "list" ∧ o.data = .seq its.toArray n := by
  obtain ⟨_, its, n, r, h⟩ := (show ObjOk X.prog X.w H s.heap a (.lst xs) from I.hok a _ e)
  exact ⟨its, _, n, r, h, rfl, rfl⟩
theorem obj_tup (I : Inv X pins σ H s) {a : Addr} {xs : List V} (e : H a = some (.tup xs)) : ∃ (its : List Value) (o : Obj) (n : Nat), Vals xs its ∧ s.heap.get? a = some o ∧ o.cls = .type "tuple" ∧ o.data = .seq its.toArray n := by
  obtain ⟨_, its, r, o, h1, h2, n, h3⟩ := (show ObjOk X.prog X.w H s.heap a (.tup xs) from I.hok a _ e)
  exact ⟨its, o, n, r, h1, h2, h3⟩
theorem obj_emp (I : Inv X pins σ H s) {a : Addr} (e : H a = some (.dK [])) : ∃ (o : Obj) (n : Nat), s.heap.get? a = some o ∧ o.cls = .type "dict" ∧ o.data = .dict #[] n ∧ (a == sysModules) = false := by
  obtain ⟨_, ne, vs, kv, o, es, ep, h1, ex, h2, _, ps, _⟩ := (show ObjOk X.prog X.w H s.heap a (.dK []) from I.hok a _ e)
  cases kv
  have hes : es = #[] := by
    cases hl : es.toList with
    | nil => exact Array.toList_eq_nil_iff.mp hl
    | cons e l =>
      rw [hl] at ps
      cases ps
  subst hes
  exact ⟨o, ep, h1, ex.1, h2, ne⟩
mutual
theorem dq_reads (I : Inv X pins σ H s) : ∀ (d : PyData) (v : V) (u : Value), DQ D H v d → RelV v u → ∃ as, Reads s.heap u d as
  | .none, _, _, h, r => by
    cases h
    cases r
    exact ⟨_, .none⟩
  | .bool b, _, _, h, r => by
    cases h
    cases r
    exact ⟨_, .bool b⟩
  | .int i, _, _, h, r => by
    cases h
    obtain ⟨t, rfl⟩ := r
    exact ⟨_, .int i t⟩
  | .str x, _, _, h, r => by
    cases h
    obtain ⟨t, rfl⟩ := r
    exact ⟨_, .str x t⟩
  | .list ds, _, _, h, r => by
    cases h with
    | lst o e al =>
      cases r
      obtain ⟨its, ob, n, rv, h1, h2, h3⟩ := obj_lst I e
      obtain ⟨as, ra⟩ := dq_readsAll I ds _ its al rv
      exact ⟨_, .list h1 h2 h3 ra⟩
  | .tuple ds, _, _, h, r => by
    cases h with
    | tup o e al =>
      cases r
      obtain ⟨its, ob, n, rv, h1, h2, h3⟩ := obj_tup I e
      obtain ⟨as, ra⟩ := dq_readsAll I ds _ its al rv
      exact ⟨_, .tuple h1 h2 h3 ra⟩
  | .dict kvs, _, _, h, r => by
    cases h with
    | emp o e =>
      cases r
      obtain ⟨ob, n, h1, h2, h3, _⟩ := obj_emp I e
      exact ⟨_, .dict h1 h2 h3 .nil .nil⟩
theorem dq_readsAll (I : Inv X pins σ H s) : ∀ (ds : List PyData) (vs : List V) (us : List Value), DQAll D H vs ds → Vals vs us → ∃ as, ReadsAll s.heap us ds as
  | [], _, _, h, r => by
    cases h
    cases r
    exact ⟨_, .nil⟩
  | d :: ds, _, _, h, r => by
    cases h with
    | cons h1 h2 =>
      cases r with
      | cons r1 r2 =>
        obtain ⟨as, q1⟩ := dq_reads I d _ _ h1 r1
        obtain ⟨bs, q2⟩ := dq_readsAll I ds _ _ h2 r2
        exact ⟨_, .cons q1 q2⟩
end
theorem entries0 {as : List Addr} {h₀ : Heap} {d : Nat} {prog : Program} {w : World} : ReprEntriesK prog w as h₀ d (#[] : Array DictEntry).toList [] := .nil
mutual
theorem dq_repr (I : Inv X pins σ H s) : ∀ (d : PyData) (v : V) (u : Value), DQ D H v d → RelV v u → gd d = true → wt d ≤ 1000000 → ∃ bs, ReadAtMost s.heap d.depth bs ∧ ReprK X.prog X.w bs s.heap d.depth u d.shown
  | .none, _, _, h, r, _, _ => by
    cases h
    cases r
    exact ⟨[], (fun _ z => nomatch z), by simp only [PyData.shown]; exact .of_is ReprIs.none _ _ _⟩
  | .bool b, _, _, h, r, _, _ => by
    cases h
    cases r
    exact ⟨[], (fun _ z => nomatch z), by simp only [PyData.shown]; exact .of_is (ReprIs.bool b) _ _ _⟩
  | .int i, _, _, h, r, g, _ => by
    cases h
    obtain ⟨t, rfl⟩ := r
    exact ⟨[], (fun _ z => nomatch z), by simp only [PyData.shown]; exact .of_is (ReprIs.int t (int_show g).2) _ _ _⟩
  | .str x, _, _, h, r, g, _ => by
    cases h
    obtain ⟨t, rfl⟩ := r
    have hx : (reprText x).length ≤ sizeLine := small (Nat.le_trans (reprText_le g) (by decide))
    exact ⟨[], (fun _ z => nomatch z), by simp only [PyData.shown]; exact .of_is (ReprIs.str x t hx) _ _ _⟩
  | .list ds, _, _, h, r, g, z => by
    have rd := dq_reads I (.list ds) _ _ h r
    cases h with
    | @lst a xs _ o e al =>
      cases r
      simp only [gd] at g
      simp only [wt] at z
      obtain ⟨its, ob, n, rv, h1, h2, h3⟩ := obj_lst I e
      obtain ⟨bs, hb, hk⟩ := dq_reprAll I ds _ its al rv g (by omega)
      obtain ⟨as, rd⟩ := rd
      have hna : a ∉ bs := not_mem_of_deeper rd (by simp only [PyData.depth]; omega) hb
      refine ⟨a :: bs, ReadAtMost.cons rd (by simp only [PyData.depth]; omega) hb, ?_⟩
      simp only [PyData.depth, PyData.shown]
      cases its with
      | nil =>
        cases rv
        cases al
        simp only [PyData.shownAll, listText_nil]
        exact ReprK.listEmpty h1 h2 h3
      | cons y l => exact ReprK.list h1 h2 h3 hna (by simpa using hk.length_eq) (fun i w e => hk.item i w (by simpa using e))
  | .tuple ds, _, _, h, r, g, z => by
    have rd := dq_reads I (.tuple ds) _ _ h r
    cases h with
    | @tup a xs _ o e al =>
      cases r
      simp only [gd] at g
      simp only [wt] at z
      obtain ⟨its, ob, n, rv, h1, h2, h3⟩ := obj_tup I e
      obtain ⟨bs, hb, hk⟩ := dq_reprAll I ds _ its al rv g (by omega)
      obtain ⟨as, rd⟩ := rd
      have hna : a ∉ bs := not_mem_of_deeper rd (by simp only [PyData.depth]; omega) hb
      refine ⟨a :: bs, ReadAtMost.cons rd (by simp only [PyData.depth]; omega) hb, ?_⟩
      simp only [PyData.depth, PyData.shown]
      exact ReprK.tuple h1 h2 h3 hna hk
  | .dict kvs, _, _, h, r, _, _ => by
    have rd := dq_reads I (.dict kvs) _ _ h r
    cases h with
    | @emp a o e =>
      cases r
      obtain ⟨ob, n, h1, h2, h3, hs⟩ := obj_emp I e
      obtain ⟨as, rd⟩ := rd
      refine ⟨[a], ReadAtMost.cons rd (n := 0) (Nat.zero_le _) (fun _ z => nomatch z), ?_⟩
      simp only [PyData.depth, PyData.shown, PyData.shownKv, PyData.depthKv]
      exact ReprK.dict h1 h2 h3 hs (fun z => nomatch z) entries0
theorem dq_reprAll (I : Inv X pins σ H s) : ∀ (ds : List PyData) (vs : List V) (us : List Value), DQAll D H vs ds → Vals vs us → gds ds = true → wts ds ≤ 1000000 → ∃ bs, ReadAtMost s.heap (PyData.depthAll ds) bs ∧ ReprAllK X.prog X.w bs s.heap (PyData.depthAll ds) us (PyData.shownAll ds)
  | [], _, _, h, r, _, _ => by
    cases h
    cases r
    exact ⟨[], (fun _ z => nomatch z), by simp only [PyData.shownAll]; exact .nil⟩
  | d :: ds, _, _, h, r, g, z => by
    cases h with
    | cons h1 h2 =>
      cases r with
      | cons r1 r2 =>
        simp only [gds, Bool.and_eq_true] at g
        simp only [wts] at z
        obtain ⟨b1, hb1, k1⟩ := dq_repr I d _ _ h1 r1 g.1 (by omega)
        obtain ⟨b2, hb2, k2⟩ := dq_reprAll I ds _ _ h2 r2 g.2 (by omega)
        simp only [PyData.depthAll, PyData.shownAll]
        refine ⟨b1 ++ b2, (hb1.mono (Nat.le_max_left _ _)).append (hb2.mono (Nat.le_max_right _ _)), ?_⟩
        refine .cons ((k1.more ?_).level_le (Nat.le_max_left _ _)) (k2.more_le ?_ (Nat.le_max_right _ _))
        · intro b hb
          exact List.mem_append_left _ hb
        · intro b hb
          exact List.mem_append_right _ hb
end
end
theorem call_reprQ {X : Cx} (hg : X.A.guards = some []) (hu : X.A.units + 64 < cLine) : CallR X (.builtin "repr") (fun xs H Q => ∃ (v : V) (D : Deck) (d : PyData), xs = [v] ∧ DQ D H v d ∧ gd d = true ∧ wt d ≤ 1000000 ∧ d.depth ≤ 60 ∧ Q (.str d.shown) H) := by
  intro pins s σ H xs us Q I r h
  obtain ⟨v, D, d, rfl, hd, g, z, hz, q⟩ := h
  obtain ⟨u, rfl, rx⟩ := vals1 r
  obtain ⟨hl, _⟩ := shown_le d g
  have big : (1000000 : Nat) ≤ sizeLine := by decide
  have fits : d.shown.length ≤ sizeLine := by omega
  have fin : ∀ (h' : Heap) (t : Tok) (tk : Tok), (∀ b o, s.heap.get? b = some o → h'.get? b = some o) → EP X pins σ Q (.str d.shown t) { s with heap := h', toks := tk } := fun h' t tk hk => ⟨.str d.shown, H, I.kept (t' := tk) hk, ⟨t, rfl⟩, q⟩
  have nil0 : ∀ b ∈ ([] : List Addr), True := fun _ _ => trivial
  have key := dq_repr I d v u hd rx g z
  have rds := dq_reads I d v u hd rx
  cases hd with
  | non =>
    cases rx
    simp only [PyData.shown] at fin
    exact PySem.P.repr_of_none (fin s.heap _ _ fun _ _ e => e)
  | bl b =>
    cases rx
    simp only [PyData.shown] at fin
    exact PySem.P.repr_of_bool (fin s.heap _ _ fun _ _ e => e)
  | int i =>
    obtain ⟨t, rfl⟩ := rx
    simp only [PyData.shown] at fin
    exact PySem.P.repr_of_int (int_show g).2 (fin s.heap _ _ fun _ _ e => e)
  | str x =>
    obtain ⟨t, rfl⟩ := rx
    simp only [PyData.shown] at fin fits
    exact PySem.P.repr_of_str (fin s.heap _ _ fun _ _ e => e) fits
  | @lst a xs ds o e al =>
    cases rx
    simp only [gd] at g
    simp only [wt] at z
    simp only [PyData.shown] at fin fits
    simp only [PyData.depth] at hz
    obtain ⟨its, ob, n, rv, h1, h2, h3⟩ := obj_lst I e
    obtain ⟨bs, hb, hk⟩ := dq_reprAll I ds _ its al rv g (by omega)
    obtain ⟨as, rd⟩ := rds
    have hna : a ∉ bs := not_mem_of_deeper rd (by simp only [PyData.depth]; omega) hb
    refine call_repr_slot (by omega) ⟨ob, h1, h2⟩ F.slot_list_repr.toG ?_
    cases its with
    | nil =>
      cases rv
      cases al
      simp only [PyData.shownAll, listText_nil] at fin
      exact call_list_repr_empty ⟨ob, h1, h2⟩ h1 h3 ⟨_, _, rfl, fin s.heap _ _ fun _ _ e => e⟩
    | cons y l => exact call_list_reprK h1 h2 h3 hna (by simpa using hk.length_eq) (fun i w e => hk.item i w (by simpa using e)) hg (fun b _ => Clear.nil b) (by show X.A.units + 1 + (PyData.depthAll ds + 1) < cLine; omega) (fun _ _ e => e) (fun h' u tk hk => ⟨_, _, rfl, fin h' u tk hk⟩) fits
  | @tup a xs ds o e al =>
    cases rx
    simp only [gd] at g
    simp only [wt] at z
    simp only [PyData.shown] at fin fits
    simp only [PyData.depth] at hz
    obtain ⟨its, ob, n, rv, h1, h2, h3⟩ := obj_tup I e
    obtain ⟨bs, hb, hk⟩ := dq_reprAll I ds _ its al rv g (by omega)
    obtain ⟨as, rd⟩ := rds
    have hna : a ∉ bs := not_mem_of_deeper rd (by simp only [PyData.depth]; omega) hb
    refine call_repr_slot (by omega) ⟨ob, h1, h2⟩ F.slot_tuple_repr ?_
    exact call_tuple_reprK h1 h2 h3 hna hk hg (fun b _ => Clear.nil b) (by show X.A.units + 1 + (PyData.depthAll ds + 1) < cLine; omega) (fun _ _ e => e) (fun h' u tk hk => ⟨_, _, rfl, fin h' u tk hk⟩) fits
  | @emp a o e =>
    cases rx
    simp only [PyData.shown, PyData.shownKv] at fin fits
    obtain ⟨ob, n, h1, h2, h3, hs⟩ := obj_emp I e
    refine call_repr_slot (by omega) ⟨ob, h1, h2⟩ F.slot_dict_repr ?_
    exact call_dict_reprK h1 h2 h3 hs (as := []) (fun z => nomatch z) (d := 0) entries0 hg (fun b _ => Clear.nil b) (by show X.A.units + 1 + (0 + 1) < cLine; omega) (fun _ _ e => e) (fun h' u tk hk => ⟨_, _, rfl, fin h' u tk hk⟩) fits
theorem dq_ty {K : PySem.W.Frag} {D : Deck} {H : Hp} {v : V} {d : PyData} (h : DQ D H v d) : TyX K H v (.type (tyD d)) := by
  cases h with
  | non => exact .base .non
  | bl b => exact .base (.bl b)
  | int i => exact .base (.int i)
  | str x => exact .base (.str x)
  | lst _ e _ => exact .base (.lst e)
  | tup _ e _ => exact .base (.tup e)
  | emp _ e => exact .base (.dK e)
def isStrD : PyData → Bool
  | .str _ => true
  | _ => false
def isTupD : PyData → Bool
  | .tuple _ => true
  | _ => false
theorem kit_str (d : PyData) : kitB (tyD d) "str" = some (isStrD d) := by
  cases d <;> (simp only [tyD, isStrD]; decide +kernel)
theorem kit_tup (d : PyData) : kitB (tyD d) "tuple" = some (isTupD d) := by
  cases d <;> (simp only [tyD, isTupD]; decide +kernel)
theorem isStr_of {d : PyData} (h : isStrD d = true) : ∃ x, d = .str x := by
  cases d <;> first | exact ⟨_, rfl⟩ | exact absurd h Bool.false_ne_true
theorem gds_app : ∀ {a b : List PyData}, gds (a ++ b) = (gds a && gds b)
  | [], b => by simp only [List.nil_append, gds, Bool.true_and]
  | d :: a, b => by
    have h := gds_app (a := a) (b := b)
    simp only [List.cons_append, gds, h, Bool.and_assoc]
/-! ### t != () -/
theorem op_neE {X : Cx} (hu : X.A.units < cLine) : OpR X (compareOp .NotEq) (fun x y H Q => ∃ a b xs, x = .ref a ∧ y = .ref b ∧ SqT X.K H a xs ∧ SqT X.K H b [] ∧ Q (.bl (!xs.isEmpty)) H) := by
  intro pins s σ H x y v u Q I rx ry h
  obtain ⟨a, b, xs, rfl, rfl, hx, hy, q⟩ := h
  cases rx
  cases ry
  obtain ⟨its, r1, t1, _⟩ := I.tuple hx
  obtain ⟨its2, r2, t2, _⟩ := I.tuple hy
  cases r2
  have rc := SeqAt.RcNeAt.tuples (A := X.A) (s := s) (items := its.toArray) (items2 := ([] : List Value).toArray) (e := fun _ => true) t1 t2 hu (fun j _ h2 => absurd h2 (by simp))
  refine rc X.prog X.w X.xe _ ?_
  have e : (!((List.range (min its.toArray.size ([] : List Value).toArray.size)).all (fun _ => true) && its.toArray.size == ([] : List Value).toArray.size)) = !xs.isEmpty := by
    cases r1 with
    | nil => rfl
    | cons _ _ => simp
  rw [e]
  exact ⟨.bl _, H, I, rfl, q⟩
theorem cut_whole {xs : List V} {lo hi : Option Int} (h : HT.sIx xs.length 0 lo = 0 ∧ HT.sIx xs.length xs.length hi = xs.length) : cutV xs lo hi = xs := by
  unfold cutV
  rw [h.1, h.2, List.drop_zero, Nat.sub_zero, List.take_length]
theorem slA_of {K : PySem.W.Frag} {D : Deck} {H : Hp} {n : Nat} (dk : DeckOk H D n) {a : Addr} {xs : List V} {lo hi : Option Int} {Q : VK} (hx : H a = some (.tup xs)) (oa : Off D a)
    (q : ∀ (p : Addr) (H' : Hp), Same H H' → H' p = some (.tup (cutV xs lo hi)) → Off D p → Q (.ref p) H') : rSlA K (.ref a) lo hi H Q :=
  ⟨a, xs, rfl, SqT.of hx, fun hw => q a H (Same.refl H) (by rw [cut_whole hw]; exact hx) oa, fun _ p np => q p _ (same_new np _) upd_same (dk.new np)⟩
theorem catA_of {K : PySem.W.Frag} {D : Deck} {H : Hp} {n : Nat} (dk : DeckOk H D n) {a b : Addr} {xs ys : List V} {Q : VK} (hx : H a = some (.tup xs)) (oa : Off D a) (hy : H b = some (.tup ys)) (ob : Off D b) (hz : xs.length + ys.length ≤ sizeLine)
    (q : ∀ (p : Addr) (H' : Hp), Same H H' → H' p = some (.tup (xs ++ ys)) → Off D p → Q (.ref p) H') : rCatA K (.ref a) (.ref b) H Q :=
  ⟨a, b, xs, ys, rfl, rfl, SqT.of hx, SqT.of hy, hz, fun e => q b H (Same.refl H) (by rw [e]; exact hy) ob, fun _ e => q a H (Same.refl H) (by rw [e, List.append_nil]; exact hx) oa, fun _ _ p np => q p _ (same_new np _) upd_same (dk.new np)⟩
/-! ### weights of changed tuples -/
theorem wts_app : ∀ a b : List PyData, wts (a ++ b) = wts a + wts b
  | [], b => by simp only [List.nil_append, wts, Nat.zero_add]
  | d :: a, b => by
    have h := wts_app a b
    simp only [List.cons_append, wts, h]
    omega
theorem wts_take : ∀ (a : List PyData) (k : Nat), wts (a.take k) + wts (a.drop k) = wts a := fun a k => by
  rw [← wts_app, List.take_append_drop]
theorem depthAll_app : ∀ a b : List PyData, PyData.depthAll (a ++ b) = max (PyData.depthAll a) (PyData.depthAll b)
  | [], b => by simp only [List.nil_append, PyData.depthAll]; omega
  | d :: a, b => by
    have h := depthAll_app a b
    simp only [List.cons_append, PyData.depthAll, h]
    omega
theorem depthAll_parts (a : List PyData) (k : Nat) : PyData.depthAll (a.take k) ≤ PyData.depthAll a ∧ PyData.depthAll (a.drop k) ≤ PyData.depthAll a := by
  have h := depthAll_app (a.take k) (a.drop k)
  rw [List.take_append_drop] at h
  omega
theorem gds_parts {a : List PyData} (k : Nat) (h : gds a = true) : gds (a.take k) = true ∧ gds (a.drop k) = true := by
  rw [← List.take_append_drop k a, gds_app, Bool.and_eq_true] at h
  exact h
theorem rev_ok : ∀ a : List PyData, wts a.reverse = wts a ∧ PyData.depthAll a.reverse = PyData.depthAll a ∧ gds a.reverse = gds a
  | [] => ⟨rfl, rfl, rfl⟩
  | d :: a => by
    obtain ⟨h1, h2, h3⟩ := rev_ok a
    rw [List.reverse_cons, wts_app, depthAll_app, gds_app, h1, h2, h3]
    simp only [wts, PyData.depthAll, gds, Bool.and_true]
    refine ⟨by omega, by omega, Bool.and_comm _ _⟩
theorem wts_len : ∀ a : List PyData, 2 * a.length ≤ wts a
  | [] => Nat.zero_le _
  | d :: a => by
    have h := wts_len a
    simp only [wts, List.length_cons]
    omega
theorem dqAll_take {D : Deck} {H : Hp} : ∀ {vs : List V} {ds : List PyData} (k : Nat), DQAll D H vs ds → DQAll D H (vs.take k) (ds.take k) ∧ DQAll D H (vs.drop k) (ds.drop k)
  | _, _, 0, h => ⟨.nil, h⟩
  | _, _, _ + 1, .nil => ⟨.nil, .nil⟩
  | _, _, k + 1, .cons h a => ⟨.cons h (dqAll_take k a).1, (dqAll_take k a).2⟩
theorem dqAll_rev {D : Deck} {H : Hp} : ∀ {vs : List V} {ds : List PyData}, DQAll D H vs ds → DQAll D H vs.reverse ds.reverse
  | _, _, .nil => .nil
  | _, _, .cons h a => by
    rw [List.reverse_cons, List.reverse_cons]
    exact dqAll_app (dqAll_rev a) (.cons h .nil)
theorem wt_get : ∀ {ds : List PyData} {i : Nat} {d : PyData}, ds[i]? = some d → wt d + 2 + wts (ds.take i) + wts (ds.drop (i + 1)) = wts ds
  | [], _, _, h => by simp at h
  | x :: xs, 0, _, h => by
    cases h
    simp only [List.take_zero, wts, List.drop_succ_cons, List.drop_zero, Nat.add_zero]
  | x :: xs, i + 1, d, h => by
    have := wt_get (ds := xs) (i := i) h
    simp only [List.take_succ_cons, wts, List.drop_succ_cons]
    omega
theorem gd_get : ∀ {ds : List PyData} {i : Nat} {d : PyData}, ds[i]? = some d → gds ds = true → gd d = true
  | [], _, _, h, _ => by simp at h
  | x :: xs, 0, _, h, k => by
    cases h
    simp only [gds, Bool.and_eq_true] at k
    exact k.1
  | x :: xs, i + 1, d, h, k => by
    simp only [gds, Bool.and_eq_true] at k
    exact gd_get (ds := xs) (i := i) h k.2
/-! ### text[::-1] -/
def tRevS (te : TE) : TE := fun σ H Q => te σ H fun x H1 => ∃ z : Str, x = .str z ∧ z.length ≤ 1000 ∧ Q (.str ⟨z.cps.toList.reverse.toArray⟩) H1
theorem picked_rev (z : Str) (t : Tok) : ((slicePicked z none none (some (-1, t))).filterMap (z.cps[·]?)).toArray = z.cps.toList.reverse.toArray := by
  have e : slicePicked z none none (some (-1, t)) = sliceRange ((z.cps.size : Int) - 1) (-1) (-1) := rfl
  rw [e, PySem.W.krv_sliceRange, PySem.W.krv_range, List.filterMap_reverse, PySem.W.krv_all]
theorem pe_revS {X : Cx} {e : Expr} {te : TE} {k : Nat} {p1 p2 p3 pos : Pos} (he : PE X e te) : PE X (.Subscript e (.Slice none none (some (.UnaryOp .USub (.Constant (.int 1) k p1) p2)) p3) pos) (tRevS te) := by
  refine ⟨fun pins s σ H Q I h => ?_⟩
  refine Subscript_ (thn (he.run pins s σ H _ I h) fun v s1 ⟨x, H1, I1, r1, q1⟩ => ?_)
  obtain ⟨z, ex, hz, q⟩ := q1
  subst ex
  obtain ⟨tz, rfl⟩ := r1
  have hst : PO X (some (.UnaryOp .USub (.Constant (.int 1) k p1) p2)) (tPart (tUn (rU fun i => .int (-i)) (tC (.int 1)))) := po_some (pe_un un_neg pe_int)
  refine wpAny_Slice (thn (po_none.run pins s1 σ H1 (fun o H2 => o = none ∧ H2 = H1) I1 ⟨rfl, rfl⟩) fun vl s2 ⟨l, H2, I2, pl, el, e2⟩ => ?_)
  subst el e2
  refine thn (po_none.run pins s2 σ H2 (fun o H3 => o = none ∧ H3 = H2) I2 ⟨rfl, rfl⟩) fun vu s3 ⟨u, H3, I3, pu, eu, e3⟩ => ?_
  subst eu e3
  refine thn (hst.run pins s3 σ H3 (fun o H4 => o = some (-1) ∧ H4 = H3) I3 ⟨1, rfl, -1, rfl, rfl, rfl⟩) fun vs s4 ⟨o, H4, I4, ps, eo, e4⟩ => ?_
  subst eo e4
  have I5 : Inv X pins σ H4 { s4 with heap := s4.heap.push { cls := .type "slice", data := .fields #[vl, vu, vs] } } := I4.kept (t' := s4.toks) fun b ob q => Heap.get?_push_of_some _ q
  cases pl
  cases pu
  cases ps with
  | int _ t =>
    show wpAny (model X.prog X.w) X.A (subscriptTail e (.Slice none none (some (.UnaryOp .USub (.Constant (.int 1) k p1) p2)) p3) (.str z tz) (.ref s4.heap.objs.size)) (EP X pins σ Q) X.xe { s4 with heap := s4.heap.push { cls := .type "slice", data := .fields #[.none, .none, .int (-1) t] } }
    refine tail_any (ops := [.str z tz, .ref s4.heap.objs.size]) (typeIs_str _ _ _) (F.slot_str_getitem.lookup) ?_ (by with_unfolding_all rfl)
    refine wpAny_getItem_str_slice (l := none) (u := none) (st := some (-1, t)) ⟨_, Heap.get?_push_size _ rfl, rfl, rfl⟩ rfl ?_
    have e1 : sliceMade z tz none none (some (-1, t)) = .str ⟨z.cps.toList.reverse.toArray⟩ := by
      unfold sliceMade
      rw [picked_rev]
      rfl
    rw [e1]
    refine ⟨(by show z.cps.toList.reverse.toArray.size ≤ sizeLine; rw [List.size_toArray, List.length_reverse, Array.length_toList]; exact small hz), .str ⟨z.cps.toList.reverse.toArray⟩, H4, I5.kept (t' := s4.toks + 1) (fun _ _ e => e), ⟨_, rfl⟩, q⟩
/-! ### _law_bent -/
mutual
def tm (m : Nat) : PyData → Bool
  | .none => true
  | .bool _ => true
  | .int _ => true
  | .str x => decide (x.length ≤ m)
  | .list xs => tms m xs
  | .tuple xs => tms m xs
  | .dict _ => true
def tms (m : Nat) : List PyData → Bool
  | [] => true
  | x :: xs => tm m x && tms m xs
end
theorem tms_app {m : Nat} : ∀ {a b : List PyData}, tms m (a ++ b) = (tms m a && tms m b)
  | [], b => by simp only [List.nil_append, tms, Bool.true_and]
  | d :: a, b => by
    have h := tms_app (m := m) (a := a) (b := b)
    simp only [List.cons_append, tms, h, Bool.and_assoc]
theorem tm_get {m : Nat} : ∀ {ds : List PyData} {i : Nat} {d : PyData}, ds[i]? = some d → tms m ds = true → tm m d = true
  | [], _, _, h, _ => by simp at h
  | x :: xs, 0, _, h, k => by
    cases h
    simp only [tms, Bool.and_eq_true] at k
    exact k.1
  | x :: xs, i + 1, d, h, k => by
    simp only [tms, Bool.and_eq_true] at k
    exact tm_get (ds := xs) (i := i) h k.2
theorem tms_parts {m : Nat} {a : List PyData} (k : Nat) (h : tms m a = true) : tms m (a.take k) = true ∧ tms m (a.drop k) = true := by
  rw [← List.take_append_drop k a, tms_app, Bool.and_eq_true] at h
  exact h
theorem tms_rev {m : Nat} : ∀ a : List PyData, tms m a.reverse = tms m a
  | [] => rfl
  | d :: a => by
    rw [List.reverse_cons, tms_app, tms_rev a]
    simp only [tms, Bool.and_true]
    exact Bool.and_comm _ _
mutual
theorem tm_mono {m k : Nat} (h : m ≤ k) : ∀ {d : PyData}, tm m d = true → tm k d = true
  | .none, _ => by simp only [tm]
  | .bool _, _ => by simp only [tm]
  | .int _, _ => by simp only [tm]
  | .str x, z => by
    simp only [tm, decide_eq_true_eq] at z ⊢
    omega
  | .list xs, z => by
    simp only [tm] at z ⊢
    exact tms_mono h z
  | .tuple xs, z => by
    simp only [tm] at z ⊢
    exact tms_mono h z
  | .dict _, _ => by simp only [tm]
theorem tms_mono {m k : Nat} (h : m ≤ k) : ∀ {ds : List PyData}, tms m ds = true → tms k ds = true
  | [], _ => by simp only [tms]
  | d :: ds, z => by
    simp only [tms, Bool.and_eq_true] at z ⊢
    exact ⟨tm_mono h z.1, tms_mono h z.2⟩
end
/-- a value that may be shown and whose texts are short -/
def Gm (D : Deck) (H : Hp) (W B m : Nat) (v : V) : Prop := ∃ d : PyData, DQ D H v d ∧ gd d = true ∧ tm m d = true ∧ wt d ≤ W ∧ d.depth ≤ B
def spBent (N : Nat) : Sp := fun vs H Q _ => ∃ (D : Deck) (n m : Nat) (v : V) (d : PyData), vs = [.ref D.dk, v] ∧ DeckOk H D n ∧ n + 4 * d.depth + 10 ≤ 1000000 ∧ DQ D H v d ∧ gd d = true ∧ tm m d = true ∧ 6 ≤ m ∧ m ≤ 80 ∧ wt d ≤ 100000 ∧ d.depth < N ∧
  ∀ (v' : V) (n' : Nat) (H' : Hp), DeckOk H' D n' → n' ≤ n + 4 * d.depth + 4 → SameD D H H' → Gm D H' (2 * wt d + 20000) (d.depth + 3) (m + 1) v' → Q v' H'
/-- ascii and not longer than m -/
def Asc (m : Nat) (x : Str) : Prop := x.length ≤ m ∧ ∀ c ∈ x.cps.toList, c < 128
theorem Asc.gd {m : Nat} {x : Str} (h : Asc m x) (hm : m ≤ 90) : gd (.str x) = true ∧ tm m (.str x) = true := by
  refine ⟨?_, ?_⟩
  · simp only [Tw.gd, Bool.and_eq_true, decide_eq_true_eq, List.all_eq_true]
    exact ⟨Nat.le_trans h.1 hm, h.2⟩
  · simp only [tm, decide_eq_true_eq]
    exact h.1
theorem str_tx (x : Str) : x = tx x.cps.toList := rfl
theorem asc_tx {m : Nat} {l : List Nat} (h : l.length ≤ m) (a : ∀ c ∈ l, c < 128) : Asc m (tx l) := ⟨h, a⟩
theorem up_asc {m : Nat} {l : List Nat} (h : l.length ≤ m) (a : ∀ c ∈ l, c < 128) : Asc m (Txt.upper (tx l)) := by
  have e : Txt.upper (tx l) = tx (l.map PyProof.Rows.up1) := by
    rw [PyProof.Rows.upper_ascii (x := tx l) a]
    show (⟨l.toArray.map PyProof.Rows.up1⟩ : Str) = ⟨(l.map PyProof.Rows.up1).toArray⟩
    rw [List.map_toArray]
  rw [e]
  refine asc_tx (by rw [List.length_map]; exact h) fun c hc => ?_
  obtain ⟨d, hd, rfl⟩ := List.mem_map.mp hc
  have hd := a d hd
  unfold PyProof.Rows.up1
  split <;> omega
/-! ### _law_one, _law_odd -/
/-- a value that may be shown: light, not deep -/
def Gd (D : Deck) (H : Hp) (W B : Nat) (v : V) : Prop := ∃ d : PyData, DQ D H v d ∧ gd d = true ∧ wt d ≤ W ∧ d.depth ≤ B
theorem Gd.sameD {D : Deck} {H H' : Hp} {W B : Nat} {v : V} (s : SameD D H H') (h : Gd D H W B v) : Gd D H' W B v := by
  obtain ⟨d, h1, h2⟩ := h
  exact ⟨d, dq_sameD s h1, h2⟩
theorem Gd.same {D : Deck} {H H' : Hp} {W B : Nat} {v : V} (s : Same H H') (h : Gd D H W B v) : Gd D H' W B v := h.sameD (SameD.of s)
theorem Gd.mono {D : Deck} {H : Hp} {W B W' B' : Nat} {v : V} (h : Gd D H W B v) (hw : W ≤ W') (hb : B ≤ B') : Gd D H W' B' v := by
  obtain ⟨d, h1, h2, h3, h4⟩ := h
  exact ⟨d, h1, h2, Nat.le_trans h3 hw, Nat.le_trans h4 hb⟩
theorem dq_newT {D : Deck} {H : Hp} {n : Nat} (dk : DeckOk H D n) {p : Addr} (np : H p = none) {xs : List V} {ds : List PyData} (al : DQAll D H xs ds) : DQ D (upd H p (.tup xs)) (.ref p) (.tuple ds) := .tup (dk.new np) upd_same (dqAll_same (same_new np _) al)
theorem dq_newL {D : Deck} {H : Hp} {n : Nat} (dk : DeckOk H D n) {p : Addr} (np : H p = none) {xs : List V} {ds : List PyData} (al : DQAll D H xs ds) : DQ D (upd H p (.lst xs)) (.ref p) (.list ds) := .lst (dk.new np) upd_same (dqAll_same (same_new np _) al)
theorem dq_newE {D : Deck} {H : Hp} {n : Nat} (dk : DeckOk H D n) {p : Addr} (np : H p = none) : DQ D (upd H p (.dK [])) (.ref p) (.dict []) := .emp (dk.new np) upd_same
def spOne : Sp := fun vs H Q _ => ∃ (D : Deck) (n : Nat) (L : Addr) (xs : List V), vs = [.ref D.dk, .ref L] ∧ DeckOk H D n ∧ n ≤ 1000000 ∧ H L = some (.lst xs) ∧ Off D L ∧ 0 < xs.length ∧ xs.length ≤ 1000 ∧
  ∀ (i : Nat) (v : V) (H' : Hp), xs[i]? = some v → DeckOk H' D (n + 1) → SameD D H H' → Q v H'
def spOdd : Sp := fun vs H Q _ => ∃ (D : Deck) (n : Nat), vs = [.ref D.dk] ∧ DeckOk H D n ∧ n ≤ 1000000 ∧ ∀ (v : V) (H' : Hp), DeckOk H' D (n + 1) → SameD D H H' → Gm D H' 10000 3 6 v → Q v H'
def odds : List PyData := [.none, .bool true, .bool false, .int 0, .int 1, .int (-1), .int ((10 : Int) ^ Int.toNat 29), .str "", .str "a", .str "ab", .str "A", .str "?", .tuple [], .list [], .dict [], .tuple [.str "a", .str "a"], .tuple [.str "ab", .str "ba"], .list [.str "a", .str "a"], .tuple [.str "a"], .tuple [.list [], .str "a"], .tuple [.dict [], .dict []], .tuple [.int 0, .int 0], .tuple [.str "a", .list [.str "a"]], .tuple [.str "root", .str "a"], .tuple [.list [.int 0]], .tuple [.dict []], .tuple [.str "a", .str "b", .str "c"], .tuple [.str "tree", .none], .tuple [.str "triple", .tuple []], .tuple [.str "crowd", .tuple [.list [], .str "a", .str "b", .str "c"]]]
theorem odds_ok : odds.all (fun d => gd d && tm 6 d && decide (wt d ≤ 10000) && decide (d.depth ≤ 3)) = true := by decide +kernel
section
variable {P : Program} {w : World} {K : PySem.W.Frag} {mg : Str → Option Value} {base : Heap} {f : Addr} {fd : FuncData}
theorem ok_one {k : Nat} (F : Fun K "_law_one" "_law_one" s__law_one f fd) (M : Mgs mg) (D_law_draw : Df P w K mg base (k + 1) "_law_draw" ["_law_spring_here", "_law_bound"] spDraw) : FnOk P w K mg base CX0 (k + 2) f fd ["_law_spring_here", "_law_items"] spOne := by
  refine F.ok (k := k + 1) sc__law_one (fun vs H Q E h => ?_) (fun cdv A outer s H vs Q E hr h => ?_)
  · obtain ⟨D, n, L, xs, rfl, _⟩ := h
    rfl
  obtain ⟨D, n, L, xs, rfl, dk, hn, eL, oL, h0, h1, q⟩ := h
  refine ⟨_, (pss_one (ps_ret (pe_ix ix_list (pv 1) (pe_call D_law_draw.ok (hr.mono (by omega)) rfl D_law_draw.g D_law_draw.kp D_law_draw.b .nil pass0 (pa_cons (pv 0) (pa_cons (pe_callB call_len_seq rfl M.len PySem.boot_len (pa_cons (pv 1) pa_nil)) pa_nil))) (fun _ _ => rfl)))), ?_⟩
  refine ⟨_, rfl, _, rfl, _, rfl, L, xs, rfl, .inl (SqL.of eL), D, n, _, rfl, dk, hn, by omega, by omega, fun i H1 i0 i1 d1 s1 => ?_⟩
  obtain ⟨j, rfl⟩ := Int.eq_ofNat_of_zero_le i0
  have hj : j < xs.length := by omega
  exact ⟨L, _, _, _, rfl, rfl, SqL.of (s1.at oL eL), atI_nat (List.getElem?_eq_getElem hj), q j _ H1 (List.getElem?_eq_getElem hj) d1 s1⟩
theorem ok_odd {k : Nat} (F : Fun K "_law_odd" "_law_odd" s__law_odd f fd) (D_law_one : Df P w K mg base (k + 1) "_law_one" ["_law_spring_here", "_law_items"] spOne) : FnOk P w K mg base CX0 (k + 2) f fd ["_law_spring_here"] spOdd := by
  refine F.ok (k := k + 1) sc__law_odd (fun vs H Q E h => ?_) (fun cdv A outer s H vs Q E hr h => ?_)
  · obtain ⟨D, n, rfl, _⟩ := h
    rfl
  obtain ⟨D, n, rfl, dk, hn, q⟩ := h
  refine ⟨_, (pss_cons (ps_set (i := 1) sc__law_odd.nd rfl (.inl rfl) (pe_lst (pa_cons pe_non (pa_cons pe_bl (pa_cons pe_bl (pa_cons pe_int (pa_cons pe_int (pa_cons (pe_un un_neg pe_int) (pa_cons (pe_op op_pow pe_int pe_int) (pa_cons pe_str (pa_cons pe_str (pa_cons pe_str (pa_cons pe_str (pa_cons pe_str (pa_cons (pe_tup pa_nil) (pa_cons (pe_lst pa_nil) (pa_cons pe_dnewK (pa_cons (pe_tup (pa_cons pe_str (pa_cons pe_str pa_nil))) (pa_cons (pe_tup (pa_cons pe_str (pa_cons pe_str pa_nil))) pa_nil)))))))))))))))))))
    (pss_cons (ps_set (i := 1) sc__law_odd.nd rfl (.inl rfl) (pe_op op_cat (pv 1) (pe_lst (pa_cons (pe_lst (pa_cons pe_str (pa_cons pe_str pa_nil))) (pa_cons (pe_tup (pa_cons pe_str pa_nil)) (pa_cons (pe_tup (pa_cons (pe_lst pa_nil) (pa_cons pe_str pa_nil))) (pa_cons (pe_tup (pa_cons pe_dnewK (pa_cons pe_dnewK pa_nil))) (pa_cons (pe_tup (pa_cons pe_int (pa_cons pe_int pa_nil))) (pa_cons (pe_tup (pa_cons pe_str (pa_cons (pe_lst (pa_cons pe_str pa_nil)) pa_nil))) (pa_cons (pe_tup (pa_cons pe_str (pa_cons pe_str pa_nil))) (pa_cons (pe_tup (pa_cons (pe_lst (pa_cons pe_int pa_nil)) pa_nil)) (pa_cons (pe_tup (pa_cons pe_dnewK pa_nil)) pa_nil))))))))))))
    (pss_one (ps_ret (pe_call D_law_one.ok (hr.mono (by omega)) rfl D_law_one.g D_law_one.kp D_law_one.b .nil pass0 (pa_cons (pv 0) (pa_cons (pe_op op_cat (pv 1) (pe_lst (pa_cons (pe_tup (pa_cons pe_str (pa_cons pe_str (pa_cons pe_str pa_nil)))) (pa_cons (pe_tup (pa_cons pe_str (pa_cons pe_non pa_nil))) (pa_cons (pe_tup (pa_cons pe_str (pa_cons (pe_tup pa_nil) pa_nil))) (pa_cons (pe_tup (pa_cons pe_str (pa_cons (pe_tup (pa_cons (pe_lst pa_nil) (pa_cons pe_str (pa_cons pe_str (pa_cons pe_str pa_nil))))) pa_nil))) pa_nil)))))) pa_nil))))))), ?_⟩
  have sm := Same.refl H
  refine ⟨1, rfl, ?_⟩
  refine ⟨_, _, rfl, rfl, ⟨by decide, by decide, by decide⟩, ?_⟩
  refine ⟨(by show 0 ≤ sizeLine; decide), fun p1 n1 => ?_⟩
  have q1 := same_new n1 (.tup [])
  have a1 := dq_newT (xs := []) (ds := []) dk n1 .nil
  have x1 := upd_same (H := H) (a := p1) (o := .tup [])
  have f1 := dk.new n1
  have dk := dk.same q1
  have sm := sm.trans q1
  clear q1 n1
  generalize upd H p1 (.tup []) = H1 at x1 dk sm a1 ⊢
  refine ⟨(by show 0 ≤ sizeLine; decide), fun p2 n2 => ?_⟩
  have q2 := same_new n2 (.lst [])
  have a2 := dq_newL (xs := []) (ds := []) dk n2 .nil
  have x2 := upd_same (H := H1) (a := p2) (o := .lst [])
  have f2 := dk.new n2
  have a1 := dq_same q2 a1
  have dk := dk.same q2
  have sm := sm.trans q2
  clear q2 n2
  generalize upd H1 p2 (.lst []) = H2 at x2 dk sm a2 a1 ⊢
  refine fun p3 n3 => ?_
  have q3 := same_new n3 (.dK [])
  have a3 := dq_newE dk n3
  have x3 := upd_same (H := H2) (a := p3) (o := .dK [])
  have f3 := dk.new n3
  have a1 := dq_same q3 a1
  have a2 := dq_same q3 a2
  have dk := dk.same q3
  have sm := sm.trans q3
  clear q3 n3
  generalize upd H2 p3 (.dK []) = H3 at x3 dk sm a3 a1 a2 ⊢
  refine ⟨(by show 2 ≤ sizeLine; decide), fun p4 n4 => ?_⟩
  have q4 := same_new n4 (.tup [.str "a", .str "a"])
  have a4 := dq_newT (xs := [.str "a", .str "a"]) (ds := [.str "a", .str "a"]) dk n4 (.cons (.str _) (.cons (.str _) .nil))
  have x4 := upd_same (H := H3) (a := p4) (o := .tup [.str "a", .str "a"])
  have f4 := dk.new n4
  have a1 := dq_same q4 a1
  have a2 := dq_same q4 a2
  have a3 := dq_same q4 a3
  have dk := dk.same q4
  have sm := sm.trans q4
  clear q4 n4
  generalize upd H3 p4 (.tup [.str "a", .str "a"]) = H4 at x4 dk sm a4 a1 a2 a3 ⊢
  refine ⟨(by show 2 ≤ sizeLine; decide), fun p5 n5 => ?_⟩
  have q5 := same_new n5 (.tup [.str "ab", .str "ba"])
  have a5 := dq_newT (xs := [.str "ab", .str "ba"]) (ds := [.str "ab", .str "ba"]) dk n5 (.cons (.str _) (.cons (.str _) .nil))
  have x5 := upd_same (H := H4) (a := p5) (o := .tup [.str "ab", .str "ba"])
  have f5 := dk.new n5
  have a1 := dq_same q5 a1
  have a2 := dq_same q5 a2
  have a3 := dq_same q5 a3
  have a4 := dq_same q5 a4
  have dk := dk.same q5
  have sm := sm.trans q5
  clear q5 n5
  generalize upd H4 p5 (.tup [.str "ab", .str "ba"]) = H5 at x5 dk sm a5 a1 a2 a3 a4 ⊢
  refine ⟨(by show 17 ≤ sizeLine; decide), fun p6 n6 => ?_⟩
  have q6 := same_new n6 (.lst [.non, .bl true, .bl false, .int 0, .int 1, .int (-1), .int ((10 : Int) ^ Int.toNat 29), .str "", .str "a", .str "ab", .str "A", .str "?", .ref p1, .ref p2, .ref p3, .ref p4, .ref p5])
  have x6 := upd_same (H := H5) (a := p6) (o := .lst [.non, .bl true, .bl false, .int 0, .int 1, .int (-1), .int ((10 : Int) ^ Int.toNat 29), .str "", .str "a", .str "ab", .str "A", .str "?", .ref p1, .ref p2, .ref p3, .ref p4, .ref p5])
  have f6 := dk.new n6
  have a1 := dq_same q6 a1
  have a2 := dq_same q6 a2
  have a3 := dq_same q6 a3
  have a4 := dq_same q6 a4
  have a5 := dq_same q6 a5
  have dk := dk.same q6
  have sm := sm.trans q6
  clear q6 n6
  generalize upd H5 p6 (.lst [.non, .bl true, .bl false, .int 0, .int 1, .int (-1), .int ((10 : Int) ^ Int.toNat 29), .str "", .str "a", .str "ab", .str "A", .str "?", .ref p1, .ref p2, .ref p3, .ref p4, .ref p5]) = H6 at x6 dk sm a1 a2 a3 a4 a5 ⊢
  refine ⟨_, rfl, ?_⟩
  refine ⟨(by show 2 ≤ sizeLine; decide), fun p7 n7 => ?_⟩
  have q7 := same_new n7 (.lst [.str "a", .str "a"])
  have a7 := dq_newL (xs := [.str "a", .str "a"]) (ds := [.str "a", .str "a"]) dk n7 (.cons (.str _) (.cons (.str _) .nil))
  have x7 := upd_same (H := H6) (a := p7) (o := .lst [.str "a", .str "a"])
  have f7 := dk.new n7
  have a1 := dq_same q7 a1
  have a2 := dq_same q7 a2
  have a3 := dq_same q7 a3
  have a4 := dq_same q7 a4
  have a5 := dq_same q7 a5
  have x6 := q7 _ _ x6
  have dk := dk.same q7
  have sm := sm.trans q7
  clear q7 n7
  generalize upd H6 p7 (.lst [.str "a", .str "a"]) = H7 at x7 dk sm a7 a1 a2 a3 a4 a5 x6 ⊢
  refine ⟨(by show 1 ≤ sizeLine; decide), fun p8 n8 => ?_⟩
  have q8 := same_new n8 (.tup [.str "a"])
  have a8 := dq_newT (xs := [.str "a"]) (ds := [.str "a"]) dk n8 (.cons (.str _) .nil)
  have x8 := upd_same (H := H7) (a := p8) (o := .tup [.str "a"])
  have f8 := dk.new n8
  have a1 := dq_same q8 a1
  have a2 := dq_same q8 a2
  have a3 := dq_same q8 a3
  have a4 := dq_same q8 a4
  have a5 := dq_same q8 a5
  have a7 := dq_same q8 a7
  have x6 := q8 _ _ x6
  have dk := dk.same q8
  have sm := sm.trans q8
  clear q8 n8
  generalize upd H7 p8 (.tup [.str "a"]) = H8 at x8 dk sm a8 a1 a2 a3 a4 a5 a7 x6 ⊢
  refine ⟨(by show 0 ≤ sizeLine; decide), fun p9 n9 => ?_⟩
  have q9 := same_new n9 (.lst [])
  have a9 := dq_newL (xs := []) (ds := []) dk n9 .nil
  have x9 := upd_same (H := H8) (a := p9) (o := .lst [])
  have f9 := dk.new n9
  have a1 := dq_same q9 a1
  have a2 := dq_same q9 a2
  have a3 := dq_same q9 a3
  have a4 := dq_same q9 a4
  have a5 := dq_same q9 a5
  have a7 := dq_same q9 a7
  have a8 := dq_same q9 a8
  have x6 := q9 _ _ x6
  have dk := dk.same q9
  have sm := sm.trans q9
  clear q9 n9
  generalize upd H8 p9 (.lst []) = H9 at x9 dk sm a9 a1 a2 a3 a4 a5 a7 a8 x6 ⊢
  refine ⟨(by show 2 ≤ sizeLine; decide), fun p10 n10 => ?_⟩
  have q10 := same_new n10 (.tup [.ref p9, .str "a"])
  have a10 := dq_newT (xs := [.ref p9, .str "a"]) (ds := [.list [], .str "a"]) dk n10 (.cons a9 (.cons (.str _) .nil))
  have x10 := upd_same (H := H9) (a := p10) (o := .tup [.ref p9, .str "a"])
  have f10 := dk.new n10
  have a1 := dq_same q10 a1
  have a2 := dq_same q10 a2
  have a3 := dq_same q10 a3
  have a4 := dq_same q10 a4
  have a5 := dq_same q10 a5
  have a7 := dq_same q10 a7
  have a8 := dq_same q10 a8
  have a9 := dq_same q10 a9
  have x6 := q10 _ _ x6
  have dk := dk.same q10
  have sm := sm.trans q10
  clear q10 n10
  generalize upd H9 p10 (.tup [.ref p9, .str "a"]) = H10 at x10 dk sm a10 a1 a2 a3 a4 a5 a7 a8 a9 x6 ⊢
  refine fun p11 n11 => ?_
  have q11 := same_new n11 (.dK [])
  have a11 := dq_newE dk n11
  have x11 := upd_same (H := H10) (a := p11) (o := .dK [])
  have f11 := dk.new n11
  have a1 := dq_same q11 a1
  have a2 := dq_same q11 a2
  have a3 := dq_same q11 a3
  have a4 := dq_same q11 a4
  have a5 := dq_same q11 a5
  have a7 := dq_same q11 a7
  have a8 := dq_same q11 a8
  have a9 := dq_same q11 a9
  have a10 := dq_same q11 a10
  have x6 := q11 _ _ x6
  have dk := dk.same q11
  have sm := sm.trans q11
  clear q11 n11
  generalize upd H10 p11 (.dK []) = H11 at x11 dk sm a11 a1 a2 a3 a4 a5 a7 a8 a9 a10 x6 ⊢
  refine fun p12 n12 => ?_
  have q12 := same_new n12 (.dK [])
  have a12 := dq_newE dk n12
  have x12 := upd_same (H := H11) (a := p12) (o := .dK [])
  have f12 := dk.new n12
  have a1 := dq_same q12 a1
  have a2 := dq_same q12 a2
  have a3 := dq_same q12 a3
  have a4 := dq_same q12 a4
  have a5 := dq_same q12 a5
  have a7 := dq_same q12 a7
  have a8 := dq_same q12 a8
  have a9 := dq_same q12 a9
  have a10 := dq_same q12 a10
  have a11 := dq_same q12 a11
  have x6 := q12 _ _ x6
  have dk := dk.same q12
  have sm := sm.trans q12
  clear q12 n12
  generalize upd H11 p12 (.dK []) = H12 at x12 dk sm a12 a1 a2 a3 a4 a5 a7 a8 a9 a10 a11 x6 ⊢
  refine ⟨(by show 2 ≤ sizeLine; decide), fun p13 n13 => ?_⟩
  have q13 := same_new n13 (.tup [.ref p11, .ref p12])
  have a13 := dq_newT (xs := [.ref p11, .ref p12]) (ds := [.dict [], .dict []]) dk n13 (.cons a11 (.cons a12 .nil))
  have x13 := upd_same (H := H12) (a := p13) (o := .tup [.ref p11, .ref p12])
  have f13 := dk.new n13
  have a1 := dq_same q13 a1
  have a2 := dq_same q13 a2
  have a3 := dq_same q13 a3
  have a4 := dq_same q13 a4
  have a5 := dq_same q13 a5
  have a7 := dq_same q13 a7
  have a8 := dq_same q13 a8
  have a9 := dq_same q13 a9
  have a10 := dq_same q13 a10
  have a11 := dq_same q13 a11
  have a12 := dq_same q13 a12
  have x6 := q13 _ _ x6
  have dk := dk.same q13
  have sm := sm.trans q13
  clear q13 n13
  generalize upd H12 p13 (.tup [.ref p11, .ref p12]) = H13 at x13 dk sm a13 a1 a2 a3 a4 a5 a7 a8 a9 a10 a11 a12 x6 ⊢
  refine ⟨(by show 2 ≤ sizeLine; decide), fun p14 n14 => ?_⟩
  have q14 := same_new n14 (.tup [.int 0, .int 0])
  have a14 := dq_newT (xs := [.int 0, .int 0]) (ds := [.int 0, .int 0]) dk n14 (.cons (.int _) (.cons (.int _) .nil))
  have x14 := upd_same (H := H13) (a := p14) (o := .tup [.int 0, .int 0])
  have f14 := dk.new n14
  have a1 := dq_same q14 a1
  have a2 := dq_same q14 a2
  have a3 := dq_same q14 a3
  have a4 := dq_same q14 a4
  have a5 := dq_same q14 a5
  have a7 := dq_same q14 a7
  have a8 := dq_same q14 a8
  have a9 := dq_same q14 a9
  have a10 := dq_same q14 a10
  have a11 := dq_same q14 a11
  have a12 := dq_same q14 a12
  have a13 := dq_same q14 a13
  have x6 := q14 _ _ x6
  have dk := dk.same q14
  have sm := sm.trans q14
  clear q14 n14
  generalize upd H13 p14 (.tup [.int 0, .int 0]) = H14 at x14 dk sm a14 a1 a2 a3 a4 a5 a7 a8 a9 a10 a11 a12 a13 x6 ⊢
  refine ⟨(by show 1 ≤ sizeLine; decide), fun p15 n15 => ?_⟩
  have q15 := same_new n15 (.lst [.str "a"])
  have a15 := dq_newL (xs := [.str "a"]) (ds := [.str "a"]) dk n15 (.cons (.str _) .nil)
  have x15 := upd_same (H := H14) (a := p15) (o := .lst [.str "a"])
  have f15 := dk.new n15
  have a1 := dq_same q15 a1
  have a2 := dq_same q15 a2
  have a3 := dq_same q15 a3
  have a4 := dq_same q15 a4
  have a5 := dq_same q15 a5
  have a7 := dq_same q15 a7
  have a8 := dq_same q15 a8
  have a9 := dq_same q15 a9
  have a10 := dq_same q15 a10
  have a11 := dq_same q15 a11
  have a12 := dq_same q15 a12
  have a13 := dq_same q15 a13
  have a14 := dq_same q15 a14
  have x6 := q15 _ _ x6
  have dk := dk.same q15
  have sm := sm.trans q15
  clear q15 n15
  generalize upd H14 p15 (.lst [.str "a"]) = H15 at x15 dk sm a15 a1 a2 a3 a4 a5 a7 a8 a9 a10 a11 a12 a13 a14 x6 ⊢
  refine ⟨(by show 2 ≤ sizeLine; decide), fun p16 n16 => ?_⟩
  have q16 := same_new n16 (.tup [.str "a", .ref p15])
  have a16 := dq_newT (xs := [.str "a", .ref p15]) (ds := [.str "a", .list [.str "a"]]) dk n16 (.cons (.str _) (.cons a15 .nil))
  have x16 := upd_same (H := H15) (a := p16) (o := .tup [.str "a", .ref p15])
  have f16 := dk.new n16
  have a1 := dq_same q16 a1
  have a2 := dq_same q16 a2
  have a3 := dq_same q16 a3
  have a4 := dq_same q16 a4
  have a5 := dq_same q16 a5
  have a7 := dq_same q16 a7
  have a8 := dq_same q16 a8
  have a9 := dq_same q16 a9
  have a10 := dq_same q16 a10
  have a11 := dq_same q16 a11
  have a12 := dq_same q16 a12
  have a13 := dq_same q16 a13
  have a14 := dq_same q16 a14
  have a15 := dq_same q16 a15
  have x6 := q16 _ _ x6
  have dk := dk.same q16
  have sm := sm.trans q16
  clear q16 n16
  generalize upd H15 p16 (.tup [.str "a", .ref p15]) = H16 at x16 dk sm a16 a1 a2 a3 a4 a5 a7 a8 a9 a10 a11 a12 a13 a14 a15 x6 ⊢
  refine ⟨(by show 2 ≤ sizeLine; decide), fun p17 n17 => ?_⟩
  have q17 := same_new n17 (.tup [.str "root", .str "a"])
  have a17 := dq_newT (xs := [.str "root", .str "a"]) (ds := [.str "root", .str "a"]) dk n17 (.cons (.str _) (.cons (.str _) .nil))
  have x17 := upd_same (H := H16) (a := p17) (o := .tup [.str "root", .str "a"])
  have f17 := dk.new n17
  have a1 := dq_same q17 a1
  have a2 := dq_same q17 a2
  have a3 := dq_same q17 a3
  have a4 := dq_same q17 a4
  have a5 := dq_same q17 a5
  have a7 := dq_same q17 a7
  have a8 := dq_same q17 a8
  have a9 := dq_same q17 a9
  have a10 := dq_same q17 a10
  have a11 := dq_same q17 a11
  have a12 := dq_same q17 a12
  have a13 := dq_same q17 a13
  have a14 := dq_same q17 a14
  have a15 := dq_same q17 a15
  have a16 := dq_same q17 a16
  have x6 := q17 _ _ x6
  have dk := dk.same q17
  have sm := sm.trans q17
  clear q17 n17
  generalize upd H16 p17 (.tup [.str "root", .str "a"]) = H17 at x17 dk sm a17 a1 a2 a3 a4 a5 a7 a8 a9 a10 a11 a12 a13 a14 a15 a16 x6 ⊢
  refine ⟨(by show 1 ≤ sizeLine; decide), fun p18 n18 => ?_⟩
  have q18 := same_new n18 (.lst [.int 0])
  have a18 := dq_newL (xs := [.int 0]) (ds := [.int 0]) dk n18 (.cons (.int _) .nil)
  have x18 := upd_same (H := H17) (a := p18) (o := .lst [.int 0])
  have f18 := dk.new n18
  have a1 := dq_same q18 a1
  have a2 := dq_same q18 a2
  have a3 := dq_same q18 a3
  have a4 := dq_same q18 a4
  have a5 := dq_same q18 a5
  have a7 := dq_same q18 a7
  have a8 := dq_same q18 a8
  have a9 := dq_same q18 a9
  have a10 := dq_same q18 a10
  have a11 := dq_same q18 a11
  have a12 := dq_same q18 a12
  have a13 := dq_same q18 a13
  have a14 := dq_same q18 a14
  have a15 := dq_same q18 a15
  have a16 := dq_same q18 a16
  have a17 := dq_same q18 a17
  have x6 := q18 _ _ x6
  have dk := dk.same q18
  have sm := sm.trans q18
  clear q18 n18
  generalize upd H17 p18 (.lst [.int 0]) = H18 at x18 dk sm a18 a1 a2 a3 a4 a5 a7 a8 a9 a10 a11 a12 a13 a14 a15 a16 a17 x6 ⊢
  refine ⟨(by show 1 ≤ sizeLine; decide), fun p19 n19 => ?_⟩
  have q19 := same_new n19 (.tup [.ref p18])
  have a19 := dq_newT (xs := [.ref p18]) (ds := [.list [.int 0]]) dk n19 (.cons a18 .nil)
  have x19 := upd_same (H := H18) (a := p19) (o := .tup [.ref p18])
  have f19 := dk.new n19
  have a1 := dq_same q19 a1
  have a2 := dq_same q19 a2
  have a3 := dq_same q19 a3
  have a4 := dq_same q19 a4
  have a5 := dq_same q19 a5
  have a7 := dq_same q19 a7
  have a8 := dq_same q19 a8
  have a9 := dq_same q19 a9
  have a10 := dq_same q19 a10
  have a11 := dq_same q19 a11
  have a12 := dq_same q19 a12
  have a13 := dq_same q19 a13
  have a14 := dq_same q19 a14
  have a15 := dq_same q19 a15
  have a16 := dq_same q19 a16
  have a17 := dq_same q19 a17
  have a18 := dq_same q19 a18
  have x6 := q19 _ _ x6
  have dk := dk.same q19
  have sm := sm.trans q19
  clear q19 n19
  generalize upd H18 p19 (.tup [.ref p18]) = H19 at x19 dk sm a19 a1 a2 a3 a4 a5 a7 a8 a9 a10 a11 a12 a13 a14 a15 a16 a17 a18 x6 ⊢
  refine fun p20 n20 => ?_
  have q20 := same_new n20 (.dK [])
  have a20 := dq_newE dk n20
  have x20 := upd_same (H := H19) (a := p20) (o := .dK [])
  have f20 := dk.new n20
  have a1 := dq_same q20 a1
  have a2 := dq_same q20 a2
  have a3 := dq_same q20 a3
  have a4 := dq_same q20 a4
  have a5 := dq_same q20 a5
  have a7 := dq_same q20 a7
  have a8 := dq_same q20 a8
  have a9 := dq_same q20 a9
  have a10 := dq_same q20 a10
  have a11 := dq_same q20 a11
  have a12 := dq_same q20 a12
  have a13 := dq_same q20 a13
  have a14 := dq_same q20 a14
  have a15 := dq_same q20 a15
  have a16 := dq_same q20 a16
  have a17 := dq_same q20 a17
  have a18 := dq_same q20 a18
  have a19 := dq_same q20 a19
  have x6 := q20 _ _ x6
  have dk := dk.same q20
  have sm := sm.trans q20
  clear q20 n20
  generalize upd H19 p20 (.dK []) = H20 at x20 dk sm a20 a1 a2 a3 a4 a5 a7 a8 a9 a10 a11 a12 a13 a14 a15 a16 a17 a18 a19 x6 ⊢
  refine ⟨(by show 1 ≤ sizeLine; decide), fun p21 n21 => ?_⟩
  have q21 := same_new n21 (.tup [.ref p20])
  have a21 := dq_newT (xs := [.ref p20]) (ds := [.dict []]) dk n21 (.cons a20 .nil)
  have x21 := upd_same (H := H20) (a := p21) (o := .tup [.ref p20])
  have f21 := dk.new n21
  have a1 := dq_same q21 a1
  have a2 := dq_same q21 a2
  have a3 := dq_same q21 a3
  have a4 := dq_same q21 a4
  have a5 := dq_same q21 a5
  have a7 := dq_same q21 a7
  have a8 := dq_same q21 a8
  have a9 := dq_same q21 a9
  have a10 := dq_same q21 a10
  have a11 := dq_same q21 a11
  have a12 := dq_same q21 a12
  have a13 := dq_same q21 a13
  have a14 := dq_same q21 a14
  have a15 := dq_same q21 a15
  have a16 := dq_same q21 a16
  have a17 := dq_same q21 a17
  have a18 := dq_same q21 a18
  have a19 := dq_same q21 a19
  have a20 := dq_same q21 a20
  have x6 := q21 _ _ x6
  have dk := dk.same q21
  have sm := sm.trans q21
  clear q21 n21
  generalize upd H20 p21 (.tup [.ref p20]) = H21 at x21 dk sm a21 a1 a2 a3 a4 a5 a7 a8 a9 a10 a11 a12 a13 a14 a15 a16 a17 a18 a19 a20 x6 ⊢
  refine ⟨(by show 9 ≤ sizeLine; decide), fun p22 n22 => ?_⟩
  have q22 := same_new n22 (.lst [.ref p7, .ref p8, .ref p10, .ref p13, .ref p14, .ref p16, .ref p17, .ref p19, .ref p21])
  have x22 := upd_same (H := H21) (a := p22) (o := .lst [.ref p7, .ref p8, .ref p10, .ref p13, .ref p14, .ref p16, .ref p17, .ref p19, .ref p21])
  have f22 := dk.new n22
  have a1 := dq_same q22 a1
  have a2 := dq_same q22 a2
  have a3 := dq_same q22 a3
  have a4 := dq_same q22 a4
  have a5 := dq_same q22 a5
  have a7 := dq_same q22 a7
  have a8 := dq_same q22 a8
  have a9 := dq_same q22 a9
  have a10 := dq_same q22 a10
  have a11 := dq_same q22 a11
  have a12 := dq_same q22 a12
  have a13 := dq_same q22 a13
  have a14 := dq_same q22 a14
  have a15 := dq_same q22 a15
  have a16 := dq_same q22 a16
  have a17 := dq_same q22 a17
  have a18 := dq_same q22 a18
  have a19 := dq_same q22 a19
  have a20 := dq_same q22 a20
  have a21 := dq_same q22 a21
  have x6 := q22 _ _ x6
  have dk := dk.same q22
  have sm := sm.trans q22
  clear q22 n22
  generalize upd H21 p22 (.lst [.ref p7, .ref p8, .ref p10, .ref p13, .ref p14, .ref p16, .ref p17, .ref p19, .ref p21]) = H22 at x22 dk sm a1 a2 a3 a4 a5 a7 a8 a9 a10 a11 a12 a13 a14 a15 a16 a17 a18 a19 a20 a21 x6 ⊢
  refine ⟨p6, p22, _, _, rfl, rfl, x6, x22, (by show 26 ≤ 16777216; decide), fun p23 n23 => ?_⟩
  have q23 := same_new n23 (.lst ([.non, .bl true, .bl false, .int 0, .int 1, .int (-1), .int ((10 : Int) ^ Int.toNat 29), .str "", .str "a", .str "ab", .str "A", .str "?", .ref p1, .ref p2, .ref p3, .ref p4, .ref p5] ++ [.ref p7, .ref p8, .ref p10, .ref p13, .ref p14, .ref p16, .ref p17, .ref p19, .ref p21]))
  have x23 := upd_same (H := H22) (a := p23) (o := .lst ([.non, .bl true, .bl false, .int 0, .int 1, .int (-1), .int ((10 : Int) ^ Int.toNat 29), .str "", .str "a", .str "ab", .str "A", .str "?", .ref p1, .ref p2, .ref p3, .ref p4, .ref p5] ++ [.ref p7, .ref p8, .ref p10, .ref p13, .ref p14, .ref p16, .ref p17, .ref p19, .ref p21]))
  have f23 := dk.new n23
  have a1 := dq_same q23 a1
  have a2 := dq_same q23 a2
  have a3 := dq_same q23 a3
  have a4 := dq_same q23 a4
  have a5 := dq_same q23 a5
  have a7 := dq_same q23 a7
  have a8 := dq_same q23 a8
  have a9 := dq_same q23 a9
  have a10 := dq_same q23 a10
  have a11 := dq_same q23 a11
  have a12 := dq_same q23 a12
  have a13 := dq_same q23 a13
  have a14 := dq_same q23 a14
  have a15 := dq_same q23 a15
  have a16 := dq_same q23 a16
  have a17 := dq_same q23 a17
  have a18 := dq_same q23 a18
  have a19 := dq_same q23 a19
  have a20 := dq_same q23 a20
  have a21 := dq_same q23 a21
  have x6 := q23 _ _ x6
  have dk := dk.same q23
  have sm := sm.trans q23
  clear q23 n23
  generalize upd H22 p23 (.lst ([.non, .bl true, .bl false, .int 0, .int 1, .int (-1), .int ((10 : Int) ^ Int.toNat 29), .str "", .str "a", .str "ab", .str "A", .str "?", .ref p1, .ref p2, .ref p3, .ref p4, .ref p5] ++ [.ref p7, .ref p8, .ref p10, .ref p13, .ref p14, .ref p16, .ref p17, .ref p19, .ref p21])) = H23 at x23 dk sm a1 a2 a3 a4 a5 a7 a8 a9 a10 a11 a12 a13 a14 a15 a16 a17 a18 a19 a20 a21 x6 ⊢
  refine ⟨_, rfl, _, rfl, ?_⟩
  refine ⟨(by show 3 ≤ sizeLine; decide), fun p24 n24 => ?_⟩
  have q24 := same_new n24 (.tup [.str "a", .str "b", .str "c"])
  have a24 := dq_newT (xs := [.str "a", .str "b", .str "c"]) (ds := [.str "a", .str "b", .str "c"]) dk n24 (.cons (.str _) (.cons (.str _) (.cons (.str _) .nil)))
  have x24 := upd_same (H := H23) (a := p24) (o := .tup [.str "a", .str "b", .str "c"])
  have f24 := dk.new n24
  have a1 := dq_same q24 a1
  have a2 := dq_same q24 a2
  have a3 := dq_same q24 a3
  have a4 := dq_same q24 a4
  have a5 := dq_same q24 a5
  have a7 := dq_same q24 a7
  have a8 := dq_same q24 a8
  have a9 := dq_same q24 a9
  have a10 := dq_same q24 a10
  have a11 := dq_same q24 a11
  have a12 := dq_same q24 a12
  have a13 := dq_same q24 a13
  have a14 := dq_same q24 a14
  have a15 := dq_same q24 a15
  have a16 := dq_same q24 a16
  have a17 := dq_same q24 a17
  have a18 := dq_same q24 a18
  have a19 := dq_same q24 a19
  have a20 := dq_same q24 a20
  have a21 := dq_same q24 a21
  have x23 := q24 _ _ x23
  have dk := dk.same q24
  have sm := sm.trans q24
  clear q24 n24
  generalize upd H23 p24 (.tup [.str "a", .str "b", .str "c"]) = H24 at x24 dk sm a24 a1 a2 a3 a4 a5 a7 a8 a9 a10 a11 a12 a13 a14 a15 a16 a17 a18 a19 a20 a21 x23 ⊢
  refine ⟨(by show 2 ≤ sizeLine; decide), fun p25 n25 => ?_⟩
  have q25 := same_new n25 (.tup [.str "tree", .non])
  have a25 := dq_newT (xs := [.str "tree", .non]) (ds := [.str "tree", .none]) dk n25 (.cons (.str _) (.cons .non .nil))
  have x25 := upd_same (H := H24) (a := p25) (o := .tup [.str "tree", .non])
  have f25 := dk.new n25
  have a1 := dq_same q25 a1
  have a2 := dq_same q25 a2
  have a3 := dq_same q25 a3
  have a4 := dq_same q25 a4
  have a5 := dq_same q25 a5
  have a7 := dq_same q25 a7
  have a8 := dq_same q25 a8
  have a9 := dq_same q25 a9
  have a10 := dq_same q25 a10
  have a11 := dq_same q25 a11
  have a12 := dq_same q25 a12
  have a13 := dq_same q25 a13
  have a14 := dq_same q25 a14
  have a15 := dq_same q25 a15
  have a16 := dq_same q25 a16
  have a17 := dq_same q25 a17
  have a18 := dq_same q25 a18
  have a19 := dq_same q25 a19
  have a20 := dq_same q25 a20
  have a21 := dq_same q25 a21
  have a24 := dq_same q25 a24
  have x23 := q25 _ _ x23
  have dk := dk.same q25
  have sm := sm.trans q25
  clear q25 n25
  generalize upd H24 p25 (.tup [.str "tree", .non]) = H25 at x25 dk sm a25 a1 a2 a3 a4 a5 a7 a8 a9 a10 a11 a12 a13 a14 a15 a16 a17 a18 a19 a20 a21 a24 x23 ⊢
  refine ⟨(by show 0 ≤ sizeLine; decide), fun p26 n26 => ?_⟩
  have q26 := same_new n26 (.tup [])
  have a26 := dq_newT (xs := []) (ds := []) dk n26 .nil
  have x26 := upd_same (H := H25) (a := p26) (o := .tup [])
  have f26 := dk.new n26
  have a1 := dq_same q26 a1
  have a2 := dq_same q26 a2
  have a3 := dq_same q26 a3
  have a4 := dq_same q26 a4
  have a5 := dq_same q26 a5
  have a7 := dq_same q26 a7
  have a8 := dq_same q26 a8
  have a9 := dq_same q26 a9
  have a10 := dq_same q26 a10
  have a11 := dq_same q26 a11
  have a12 := dq_same q26 a12
  have a13 := dq_same q26 a13
  have a14 := dq_same q26 a14
  have a15 := dq_same q26 a15
  have a16 := dq_same q26 a16
  have a17 := dq_same q26 a17
  have a18 := dq_same q26 a18
  have a19 := dq_same q26 a19
  have a20 := dq_same q26 a20
  have a21 := dq_same q26 a21
  have a24 := dq_same q26 a24
  have a25 := dq_same q26 a25
  have x23 := q26 _ _ x23
  have dk := dk.same q26
  have sm := sm.trans q26
  clear q26 n26
  generalize upd H25 p26 (.tup []) = H26 at x26 dk sm a26 a1 a2 a3 a4 a5 a7 a8 a9 a10 a11 a12 a13 a14 a15 a16 a17 a18 a19 a20 a21 a24 a25 x23 ⊢
  refine ⟨(by show 2 ≤ sizeLine; decide), fun p27 n27 => ?_⟩
  have q27 := same_new n27 (.tup [.str "triple", .ref p26])
  have a27 := dq_newT (xs := [.str "triple", .ref p26]) (ds := [.str "triple", .tuple []]) dk n27 (.cons (.str _) (.cons a26 .nil))
  have x27 := upd_same (H := H26) (a := p27) (o := .tup [.str "triple", .ref p26])
  have f27 := dk.new n27
  have a1 := dq_same q27 a1
  have a2 := dq_same q27 a2
  have a3 := dq_same q27 a3
  have a4 := dq_same q27 a4
  have a5 := dq_same q27 a5
  have a7 := dq_same q27 a7
  have a8 := dq_same q27 a8
  have a9 := dq_same q27 a9
  have a10 := dq_same q27 a10
  have a11 := dq_same q27 a11
  have a12 := dq_same q27 a12
  have a13 := dq_same q27 a13
  have a14 := dq_same q27 a14
  have a15 := dq_same q27 a15
  have a16 := dq_same q27 a16
  have a17 := dq_same q27 a17
  have a18 := dq_same q27 a18
  have a19 := dq_same q27 a19
  have a20 := dq_same q27 a20
  have a21 := dq_same q27 a21
  have a24 := dq_same q27 a24
  have a25 := dq_same q27 a25
  have a26 := dq_same q27 a26
  have x23 := q27 _ _ x23
  have dk := dk.same q27
  have sm := sm.trans q27
  clear q27 n27
  generalize upd H26 p27 (.tup [.str "triple", .ref p26]) = H27 at x27 dk sm a27 a1 a2 a3 a4 a5 a7 a8 a9 a10 a11 a12 a13 a14 a15 a16 a17 a18 a19 a20 a21 a24 a25 a26 x23 ⊢
  refine ⟨(by show 0 ≤ sizeLine; decide), fun p28 n28 => ?_⟩
  have q28 := same_new n28 (.lst [])
  have a28 := dq_newL (xs := []) (ds := []) dk n28 .nil
  have x28 := upd_same (H := H27) (a := p28) (o := .lst [])
  have f28 := dk.new n28
  have a1 := dq_same q28 a1
  have a2 := dq_same q28 a2
  have a3 := dq_same q28 a3
  have a4 := dq_same q28 a4
  have a5 := dq_same q28 a5
  have a7 := dq_same q28 a7
  have a8 := dq_same q28 a8
  have a9 := dq_same q28 a9
  have a10 := dq_same q28 a10
  have a11 := dq_same q28 a11
  have a12 := dq_same q28 a12
  have a13 := dq_same q28 a13
  have a14 := dq_same q28 a14
  have a15 := dq_same q28 a15
  have a16 := dq_same q28 a16
  have a17 := dq_same q28 a17
  have a18 := dq_same q28 a18
  have a19 := dq_same q28 a19
  have a20 := dq_same q28 a20
  have a21 := dq_same q28 a21
  have a24 := dq_same q28 a24
  have a25 := dq_same q28 a25
  have a26 := dq_same q28 a26
  have a27 := dq_same q28 a27
  have x23 := q28 _ _ x23
  have dk := dk.same q28
  have sm := sm.trans q28
  clear q28 n28
  generalize upd H27 p28 (.lst []) = H28 at x28 dk sm a28 a1 a2 a3 a4 a5 a7 a8 a9 a10 a11 a12 a13 a14 a15 a16 a17 a18 a19 a20 a21 a24 a25 a26 a27 x23 ⊢
  refine ⟨(by show 4 ≤ sizeLine; decide), fun p29 n29 => ?_⟩
  have q29 := same_new n29 (.tup [.ref p28, .str "a", .str "b", .str "c"])
  have a29 := dq_newT (xs := [.ref p28, .str "a", .str "b", .str "c"]) (ds := [.list [], .str "a", .str "b", .str "c"]) dk n29 (.cons a28 (.cons (.str _) (.cons (.str _) (.cons (.str _) .nil))))
  have x29 := upd_same (H := H28) (a := p29) (o := .tup [.ref p28, .str "a", .str "b", .str "c"])
  have f29 := dk.new n29
  have a1 := dq_same q29 a1
  have a2 := dq_same q29 a2
  have a3 := dq_same q29 a3
  have a4 := dq_same q29 a4
  have a5 := dq_same q29 a5
  have a7 := dq_same q29 a7
  have a8 := dq_same q29 a8
  have a9 := dq_same q29 a9
  have a10 := dq_same q29 a10
  have a11 := dq_same q29 a11
  have a12 := dq_same q29 a12
  have a13 := dq_same q29 a13
  have a14 := dq_same q29 a14
  have a15 := dq_same q29 a15
  have a16 := dq_same q29 a16
  have a17 := dq_same q29 a17
  have a18 := dq_same q29 a18
  have a19 := dq_same q29 a19
  have a20 := dq_same q29 a20
  have a21 := dq_same q29 a21
  have a24 := dq_same q29 a24
  have a25 := dq_same q29 a25
  have a26 := dq_same q29 a26
  have a27 := dq_same q29 a27
  have a28 := dq_same q29 a28
  have x23 := q29 _ _ x23
  have dk := dk.same q29
  have sm := sm.trans q29
  clear q29 n29
  generalize upd H28 p29 (.tup [.ref p28, .str "a", .str "b", .str "c"]) = H29 at x29 dk sm a29 a1 a2 a3 a4 a5 a7 a8 a9 a10 a11 a12 a13 a14 a15 a16 a17 a18 a19 a20 a21 a24 a25 a26 a27 a28 x23 ⊢
  refine ⟨(by show 2 ≤ sizeLine; decide), fun p30 n30 => ?_⟩
  have q30 := same_new n30 (.tup [.str "crowd", .ref p29])
  have a30 := dq_newT (xs := [.str "crowd", .ref p29]) (ds := [.str "crowd", .tuple [.list [], .str "a", .str "b", .str "c"]]) dk n30 (.cons (.str _) (.cons a29 .nil))
  have x30 := upd_same (H := H29) (a := p30) (o := .tup [.str "crowd", .ref p29])
  have f30 := dk.new n30
  have a1 := dq_same q30 a1
  have a2 := dq_same q30 a2
  have a3 := dq_same q30 a3
  have a4 := dq_same q30 a4
  have a5 := dq_same q30 a5
  have a7 := dq_same q30 a7
  have a8 := dq_same q30 a8
  have a9 := dq_same q30 a9
  have a10 := dq_same q30 a10
  have a11 := dq_same q30 a11
  have a12 := dq_same q30 a12
  have a13 := dq_same q30 a13
  have a14 := dq_same q30 a14
  have a15 := dq_same q30 a15
  have a16 := dq_same q30 a16
  have a17 := dq_same q30 a17
  have a18 := dq_same q30 a18
  have a19 := dq_same q30 a19
  have a20 := dq_same q30 a20
  have a21 := dq_same q30 a21
  have a24 := dq_same q30 a24
  have a25 := dq_same q30 a25
  have a26 := dq_same q30 a26
  have a27 := dq_same q30 a27
  have a28 := dq_same q30 a28
  have a29 := dq_same q30 a29
  have x23 := q30 _ _ x23
  have dk := dk.same q30
  have sm := sm.trans q30
  clear q30 n30
  generalize upd H29 p30 (.tup [.str "crowd", .ref p29]) = H30 at x30 dk sm a30 a1 a2 a3 a4 a5 a7 a8 a9 a10 a11 a12 a13 a14 a15 a16 a17 a18 a19 a20 a21 a24 a25 a26 a27 a28 a29 x23 ⊢
  refine ⟨(by show 4 ≤ sizeLine; decide), fun p31 n31 => ?_⟩
  have q31 := same_new n31 (.lst [.ref p24, .ref p25, .ref p27, .ref p30])
  have x31 := upd_same (H := H30) (a := p31) (o := .lst [.ref p24, .ref p25, .ref p27, .ref p30])
  have f31 := dk.new n31
  have a1 := dq_same q31 a1
  have a2 := dq_same q31 a2
  have a3 := dq_same q31 a3
  have a4 := dq_same q31 a4
  have a5 := dq_same q31 a5
  have a7 := dq_same q31 a7
  have a8 := dq_same q31 a8
  have a9 := dq_same q31 a9
  have a10 := dq_same q31 a10
  have a11 := dq_same q31 a11
  have a12 := dq_same q31 a12
  have a13 := dq_same q31 a13
  have a14 := dq_same q31 a14
  have a15 := dq_same q31 a15
  have a16 := dq_same q31 a16
  have a17 := dq_same q31 a17
  have a18 := dq_same q31 a18
  have a19 := dq_same q31 a19
  have a20 := dq_same q31 a20
  have a21 := dq_same q31 a21
  have a24 := dq_same q31 a24
  have a25 := dq_same q31 a25
  have a26 := dq_same q31 a26
  have a27 := dq_same q31 a27
  have a28 := dq_same q31 a28
  have a29 := dq_same q31 a29
  have a30 := dq_same q31 a30
  have x23 := q31 _ _ x23
  have dk := dk.same q31
  have sm := sm.trans q31
  clear q31 n31
  generalize upd H30 p31 (.lst [.ref p24, .ref p25, .ref p27, .ref p30]) = H31 at x31 dk sm a1 a2 a3 a4 a5 a7 a8 a9 a10 a11 a12 a13 a14 a15 a16 a17 a18 a19 a20 a21 a24 a25 a26 a27 a28 a29 a30 x23 ⊢
  refine ⟨p23, p31, _, _, rfl, rfl, x23, x31, (by show 30 ≤ 16777216; decide), fun p32 n32 => ?_⟩
  have q32 := same_new n32 (.lst (([.non, .bl true, .bl false, .int 0, .int 1, .int (-1), .int ((10 : Int) ^ Int.toNat 29), .str "", .str "a", .str "ab", .str "A", .str "?", .ref p1, .ref p2, .ref p3, .ref p4, .ref p5] ++ [.ref p7, .ref p8, .ref p10, .ref p13, .ref p14, .ref p16, .ref p17, .ref p19, .ref p21]) ++ [.ref p24, .ref p25, .ref p27, .ref p30]))
  have x32 := upd_same (H := H31) (a := p32) (o := .lst (([.non, .bl true, .bl false, .int 0, .int 1, .int (-1), .int ((10 : Int) ^ Int.toNat 29), .str "", .str "a", .str "ab", .str "A", .str "?", .ref p1, .ref p2, .ref p3, .ref p4, .ref p5] ++ [.ref p7, .ref p8, .ref p10, .ref p13, .ref p14, .ref p16, .ref p17, .ref p19, .ref p21]) ++ [.ref p24, .ref p25, .ref p27, .ref p30]))
  have f32 := dk.new n32
  have a1 := dq_same q32 a1
  have a2 := dq_same q32 a2
  have a3 := dq_same q32 a3
  have a4 := dq_same q32 a4
  have a5 := dq_same q32 a5
  have a7 := dq_same q32 a7
  have a8 := dq_same q32 a8
  have a9 := dq_same q32 a9
  have a10 := dq_same q32 a10
  have a11 := dq_same q32 a11
  have a12 := dq_same q32 a12
  have a13 := dq_same q32 a13
  have a14 := dq_same q32 a14
  have a15 := dq_same q32 a15
  have a16 := dq_same q32 a16
  have a17 := dq_same q32 a17
  have a18 := dq_same q32 a18
  have a19 := dq_same q32 a19
  have a20 := dq_same q32 a20
  have a21 := dq_same q32 a21
  have a24 := dq_same q32 a24
  have a25 := dq_same q32 a25
  have a26 := dq_same q32 a26
  have a27 := dq_same q32 a27
  have a28 := dq_same q32 a28
  have a29 := dq_same q32 a29
  have a30 := dq_same q32 a30
  have x23 := q32 _ _ x23
  have dk := dk.same q32
  have sm := sm.trans q32
  clear q32 n32
  generalize upd H31 p32 (.lst (([.non, .bl true, .bl false, .int 0, .int 1, .int (-1), .int ((10 : Int) ^ Int.toNat 29), .str "", .str "a", .str "ab", .str "A", .str "?", .ref p1, .ref p2, .ref p3, .ref p4, .ref p5] ++ [.ref p7, .ref p8, .ref p10, .ref p13, .ref p14, .ref p16, .ref p17, .ref p19, .ref p21]) ++ [.ref p24, .ref p25, .ref p27, .ref p30])) = H32 at x32 dk sm a1 a2 a3 a4 a5 a7 a8 a9 a10 a11 a12 a13 a14 a15 a16 a17 a18 a19 a20 a21 a24 a25 a26 a27 a28 a29 a30 x23 ⊢
  have al : DQAll D H32 ([.non, .bl true, .bl false, .int 0, .int 1, .int (-1), .int ((10 : Int) ^ Int.toNat 29), .str "", .str "a", .str "ab", .str "A", .str "?", .ref p1, .ref p2, .ref p3, .ref p4, .ref p5] ++ [.ref p7, .ref p8, .ref p10, .ref p13, .ref p14, .ref p16, .ref p17, .ref p19, .ref p21] ++ [.ref p24, .ref p25, .ref p27, .ref p30]) odds := (.cons .non (.cons (.bl _) (.cons (.bl _) (.cons (.int _) (.cons (.int _) (.cons (.int _) (.cons (.int _) (.cons (.str _) (.cons (.str _) (.cons (.str _) (.cons (.str _) (.cons (.str _) (.cons a1 (.cons a2 (.cons a3 (.cons a4 (.cons a5 (.cons a7 (.cons a8 (.cons a10 (.cons a13 (.cons a14 (.cons a16 (.cons a17 (.cons a19 (.cons a21 (.cons a24 (.cons a25 (.cons a27 (.cons a30 .nil))))))))))))))))))))))))))))))
  refine ⟨D, n, p32, _, rfl, dk, hn, x32, f32, (by show 0 < 30; decide), (by show 30 ≤ 1000; decide), fun i v H' hv d' s' => ?_⟩
  obtain ⟨d, hd, hq⟩ := dqAll_get al hv
  have ho := List.all_eq_true.mp odds_ok d (List.mem_of_getElem? hd)
  rw [Bool.and_eq_true, Bool.and_eq_true, Bool.and_eq_true, decide_eq_true_eq, decide_eq_true_eq] at ho
  exact q v H' d' ((SameD.of sm).trans s') ⟨d, dq_sameD s' hq, ho.1.1.1, ho.1.1.2, ho.1.2, ho.2⟩
end
/-! ### _law_bent: the def -/
theorem Gm.sameD {D : Deck} {H H' : Hp} {W B m : Nat} {v : V} (s : SameD D H H') (h : Gm D H W B m v) : Gm D H' W B m v := by
  obtain ⟨d, h1, h2⟩ := h
  exact ⟨d, dq_sameD s h1, h2⟩
theorem Gm.mono {D : Deck} {H : Hp} {W B m W' B' m' : Nat} {v : V} (h : Gm D H W B m v) (hw : W ≤ W') (hb : B ≤ B') (hm : m ≤ m') : Gm D H W' B' m' v := by
  obtain ⟨d, h1, h2, h3, h4, h5⟩ := h
  exact ⟨d, h1, h2, tm_mono hm h3, Nat.le_trans h4 hw, Nat.le_trans h5 hb⟩
theorem at_at {xs : List V} {i : Int} {v : V} (h0 : 0 ≤ i) (h : xs[i.toNat]? = some v) : atI xs i = some v := by
  have e : i = ((i.toNat : Nat) : Int) := by omega
  rw [e]
  exact atI_nat h
theorem pick_good {D : Deck} {H : Hp} {xs : List V} {ds : List PyData} {i : Nat} {v : V} {W B m : Nat} (al : DQAll D H xs ds) (h : ∀ d ∈ ds, gd d = true ∧ tm m d = true ∧ wt d ≤ W ∧ d.depth ≤ B) (hv : xs[i]? = some v) : Gm D H W B m v := by
  obtain ⟨d, hd, hq⟩ := dqAll_get al hv
  exact ⟨d, hq, h d (List.mem_of_getElem? hd)⟩
theorem cut_tx (l : List Nat) (lo hi : Option Int) : ∃ i j, cutS (tx l) lo hi = tx ((l.drop i).take j) := ⟨_, _, rfl⟩
theorem asc_good {m : Nat} {x : Str} (h : Asc m x) (hm : m ≤ 90) {W B : Nat} (hW : 902 ≤ W) : gd (.str x) = true ∧ tm m (.str x) = true ∧ wt (.str x) ≤ W ∧ (PyData.str x).depth ≤ B := by
  obtain ⟨h1, h2⟩ := h.gd hm
  exact ⟨h1, h2, by simp only [wt]; exact hW, by simp only [PyData.depth]; exact Nat.zero_le _⟩
theorem str_a : Str.ofString "a" = tx [97] := by decide +kernel
theorem str_z : Str.ofString "z" = tx [122] := by decide +kernel
section
variable {P : Program} {w : World} {K : PySem.W.Frag} {mg : Str → Option Value} {base : Heap} {f : Addr} {fd : FuncData}
theorem ok_bent (F : Fun K "_law_bent" "_law_bent" s__law_bent f fd) (b : Binds K fd ["_law_spring_here", "_law_value"] []) (g0 : mg "_law_bent" = some (.ref f)) (M : Mgs mg) (D_law_draw : Df P w K mg base 1 "_law_draw" ["_law_spring_here", "_law_bound"] spDraw)
    (D_law_one : Df P w K mg base 2 "_law_one" ["_law_spring_here", "_law_items"] spOne) (D_law_odd : Df P w K mg base 3 "_law_odd" ["_law_spring_here"] spOdd) : ∀ n : Nat, FnOk P w K mg base CX0 (n + 4) f fd ["_law_spring_here", "_law_value"] (spBent n)
  | 0 => by
    have no : ∀ vs H Q E, ¬ spBent 0 vs H Q E := fun vs H Q E h => by
      obtain ⟨D, n, m, v, d, _, _, _, _, _, _, _, _, _, h1, _⟩ := h
      exact absurd h1 (Nat.not_lt_zero _)
    exact ⟨fun vs H Q E h => absurd h (no vs H Q E), fun A outer s H args us vs Q E _ _ _ _ h => absurd h (no vs H Q E)⟩
  | N + 1 => by
    have Dself : Df P w K mg base (N + 4) "_law_bent" ["_law_spring_here", "_law_value"] (spBent N) := ⟨f, fd, ok_bent F b g0 M D_law_draw D_law_one D_law_odd N, b, F.kp, g0⟩
    refine F.ok (k := N + 4) sc__law_bent (fun vs H Q E h => ?_) (fun cdv A outer s H vs Q E hr h => ?_)
    · obtain ⟨D, n, m, v, d, rfl, _⟩ := h
      rfl
    obtain ⟨D, n, m, v, d, rfl, dk, hn, hd, g, ht, m6, m80, hw, hN, q⟩ := h
    have big : (400000 : Nat) ≤ sizeLine := by decide
    refine ⟨_, (pss_cons (ps_if (PW.pt (pw_and (pt_val (pe_callB call_isi rfl M.isinstance (by decide +kernel) (pa_cons (pv 1) (pa_cons (pe_bltn (v := .ty "tuple") rfl M.tuple (by decide +kernel) rfl) pa_nil)))) (pw_and (pt_cmpR (op_neE hr.units0) (pv 1) (pe_tup pa_nil) (nomark _)) (pw_and1 (pt_cmpR op_gt (pe_call D_law_draw.ok (hr.mono (by omega)) rfl D_law_draw.g D_law_draw.kp D_law_draw.b .nil pass0 (pa_cons (pv 0) (pa_cons pe_int pa_nil))) pe_int (nomark _))))))
      (pss_cons (ps_set (i := 2) sc__law_bent.nd rfl (.inl rfl) (pe_call D_law_draw.ok (hr.mono (by omega)) rfl D_law_draw.g D_law_draw.kp D_law_draw.b .nil pass0 (pa_cons (pv 0) (pa_cons (pe_callB call_len_seq rfl M.len PySem.boot_len (pa_cons (pv 1) pa_nil)) pa_nil))))
    (pss_one (ps_ret (pe_op op_catA (pe_op op_catA (pe_slice sl_tupA (pv 1) po_none (po_some (pv 2))) (pe_tup (pa_cons (pe_call Dself.ok (hr.mono (by omega)) rfl Dself.g Dself.kp Dself.b .nil pass0 (pa_cons (pv 0) (pa_cons (pe_ix ix_tup (pv 1) (pv 2) (fun _ _ => rfl)) pa_nil))) pa_nil))) (pe_slice sl_tupA (pv 1) (po_some (pe_op op_add (pv 2) pe_int)) po_none))))) pss_nil)
    (pss_cons (ps_if (pt_val (pe_callB call_isi rfl M.isinstance (by decide +kernel) (pa_cons (pv 1) (pa_cons (pe_bltn (v := .ty "tuple") rfl M.tuple (by decide +kernel) rfl) pa_nil))))
      (pss_one (ps_ret (pe_call D_law_one.ok (hr.mono (by omega)) rfl D_law_one.g D_law_one.kp D_law_one.b .nil pass0 (pa_cons (pv 0) (pa_cons (pe_lst (pa_cons (pe_slice sl_tupA (pv 1) (po_some pe_int) po_none) (pa_cons (pe_op op_catA (pv 1) (pe_slice sl_tupA (pv 1) po_none (po_some pe_int))) (pa_cons (pe_revT (pv 1)) (pa_cons (pe_callTy call_list_of rfl M.list (by decide +kernel) (pa_cons (pv 1) pa_nil)) (pa_cons (pe_slice sl_tupA (pv 1) po_none (po_some (pe_un un_neg pe_int))) (pa_cons (pe_call D_law_odd.ok (hr.mono (by omega)) rfl D_law_odd.g D_law_odd.kp D_law_odd.b .nil pass0 (pa_cons (pv 0) pa_nil)) pa_nil))))))) pa_nil))))) pss_nil)
    (pss_cons (ps_if (pt_val (pe_callB call_isi rfl M.isinstance (by decide +kernel) (pa_cons (pv 1) (pa_cons (pe_bltn (v := .ty "str") rfl M.str (by decide +kernel) rfl) pa_nil))))
      (pss_cons (ps_set (i := 3) sc__law_bent.nd rfl (.inl rfl) (pe_lst (pa_cons (pe_slice sl_str (pv 1) (po_some pe_int) po_none) (pa_cons (pe_op op_add_str (pv 1) (pe_slice sl_str (pv 1) po_none (po_some pe_int))) (pa_cons (pe_revS (pv 1)) (pa_cons (pe_op op_add_str (pv 1) pe_str) (pa_cons (pe_bm0 PySem.F.plainAttrs_str PySem.F.slot_str_upper PySem.F.type_str_upper mt_upper (pv 1)) (pa_cons (pe_lst (pa_cons (pv 1) pa_nil)) (pa_cons (pe_call D_law_odd.ok (hr.mono (by omega)) rfl D_law_odd.g D_law_odd.kp D_law_odd.b .nil pass0 (pa_cons (pv 0) pa_nil)) pa_nil)))))))))
    (pss_one (ps_ret (pe_call D_law_one.ok (hr.mono (by omega)) rfl D_law_one.g D_law_one.kp D_law_one.b .nil pass0 (pa_cons (pv 0) (pa_cons (pe_op op_cat (pv 3) (pe_lst (pa_cons (pe_slice sl_str (pv 1) po_none (po_some (pe_un un_neg pe_int))) (pa_cons pe_str (pa_cons (pe_op op_add_str (pv 1) pe_str) pa_nil))))) pa_nil)))))) pss_nil)
    (pss_one (ps_ret (pe_call D_law_odd.ok (hr.mono (by omega)) rfl D_law_odd.g D_law_odd.kp D_law_odd.b .nil pass0 (pa_cons (pv 0) pa_nil))))))), ?_⟩
    refine seq_cut (fun σ H' => σ = [some (.ref D.dk), some v, none, none] ∧ ∃ n1, DeckOk H' D n1 ∧ n1 ≤ n + 1 ∧ SameD D H H') (fun σ H' hq => ?_) (fun rest => ?_)
    rotate_left
    · -- one part of it
      refine ⟨_, rfl, _, _, _, _, isTupD d, rfl, .ty _, dq_ty hd, kit_ty (kit_tup d), _, rfl, ?_⟩
      cases hd with
      | @tup a xs ds o e al =>
        refine iteT ?_
        have hl := dqAll_len al
        have hwl := wts_len ds
        simp only [wt] at hw
        simp only [gd] at g
        simp only [tm] at ht
        refine ⟨_, rfl, (by show 0 ≤ sizeLine; decide), fun e0 ne0 => ?_⟩
        have qe := same_new ne0 (.tup [])
        have de := dk.same qe
        have ee := qe _ _ e
        refine ⟨a, e0, xs, rfl, rfl, SqT.of ee, SqT.of upd_same, _, rfl, ?_⟩
        generalize upd H e0 (.tup []) = H0 at qe de ee ⊢
        by_cases hxs : xs = []
        · have he : xs.isEmpty = true := by rw [hxs]; rfl
          rw [he]
          exact iteF (rest _ _ ⟨rfl, n, de, Nat.le_succ _, SameD.of qe⟩)
        · have he : xs.isEmpty = false := by cases xs <;> first | rfl | exact absurd rfl hxs
          have x1 : 1 ≤ xs.length := by
            cases xs with
            | nil => exact absurd rfl hxs
            | cons _ _ => exact Nat.succ_pos _
          rw [he]
          refine iteT ?_
          refine ⟨_, rfl, D, n, 4, rfl, de, by omega, by decide, by decide, fun i H1 i0 i1 d1 s1' => ?_⟩
          have s1 := (SameD.of qe).trans s1'
          have e1 := s1.at o e
          refine ⟨_, _, rfl, rfl, _, rfl, ?_⟩
          by_cases hc : (0 : Int) < i
          · rw [decide_eq_true hc]
            refine iteT ?_
            refine ⟨_, rfl, _, rfl, a, xs, rfl, .inr (SqT.of e1), D, n + 1, _, rfl, d1, by omega, by omega, by omega, fun j H2 j0 j1 d2 s2 => ?_⟩
            have e2 := s2.at o e1
            have hj : j.toNat < xs.length := by omega
            have ej : j = ((j.toNat : Nat) : Int) := by omega
            obtain ⟨dj, edj, hdj⟩ := dqAll_get al (List.getElem?_eq_getElem hj)
            have wj := wt_get edj
            have gj := gd_get edj g
            have tj := tm_get edj ht
            have pj := depth_get edj
            simp only [PyData.depth] at hN hn q
            refine ⟨_, rfl, _, rfl, j, rfl, slA_of d2 e2 o fun p1 H3 t3 x1' o1 => ?_⟩
            rw [ej, cut_to] at x1'
            have d3 := d2.same t3
            refine ⟨_, rfl, _, rfl, _, rfl, a, xs, j, xs[j.toNat], rfl, rfl, SqT.of (t3 _ _ e2), at_at j0 (List.getElem?_eq_getElem hj), ?_⟩
            have s3 := s1.trans (s2.trans (SameD.of t3))
            refine ⟨D, n + 1 + 1, m, xs[j.toNat], dj, rfl, d3, by omega, dq_sameD s3 hdj, gj, tj, m6, m80, by omega, by omega, fun v' n' H4 d4 hn' s4 gv => ?_⟩
            obtain ⟨d', hd', gd', td', wd', pd'⟩ := gv
            refine ⟨(by show 1 ≤ sizeLine; decide), fun p2 np2 => ?_⟩
            have q2 := same_new np2 (.tup [v'])
            have d5 := d4.same q2
            have o2 := d4.new np2
            have k1 : (xs.take j.toNat).length ≤ xs.length := by rw [List.length_take]; omega
            refine catA_of d5 (q2 _ _ (s4.at o1 x1')) o1 upd_same o2 (by show (xs.take j.toNat).length + 1 ≤ sizeLine; omega) fun p3 H6 t6 x3 o3 => ?_
            have d6 := d5.same t6
            have s6 := s3.trans (s4.trans (SameD.of (q2.trans t6)))
            have e6 := s6.at o e
            refine ⟨_, rfl, _, rfl, _, _, rfl, rfl, _, rfl, ?_⟩
            dsimp only [tNoPart]
            refine slA_of d6 e6 o fun p4 H7 t7 x4 o4 => ?_
            rw [show cutV xs (some (j + 1)) none = xs.drop (j.toNat + 1) by rw [show j + 1 = ((j.toNat + 1 : Nat) : Int) by omega, cut_from]] at x4
            have d7 := d6.same t7
            have k2 : (xs.drop (j.toNat + 1)).length ≤ xs.length := by rw [List.length_drop]; omega
            refine catA_of d7 (t7 _ _ x3) o3 x4 o4 (by rw [List.length_append]; show (xs.take j.toNat).length + 1 + _ ≤ sizeLine; omega) fun p5 H8 t8 x5 o5 => ?_
            have s8 := s6.trans (SameD.of (t7.trans t8))
            have al8 := dqAll_sameD s8 al
            have parts := dqAll_take j.toNat al8
            have parts2 := dqAll_take (j.toNat + 1) al8
            have hv8 : DQ D H8 v' d' := dq_same ((q2.trans t6).trans (t7.trans t8)) hd'
            have f5 : DQ D H8 (.ref p5) (.tuple ((ds.take j.toNat ++ [d']) ++ ds.drop (j.toNat + 1))) := .tup o5 x5 (dqAll_app (dqAll_app parts.1 (.cons hv8 .nil)) parts2.2)
            have u1 := depthAll_parts ds j.toNat
            have u2 := depthAll_parts ds (j.toNat + 1)
            have u3 := gds_parts j.toNat g
            have u4 := gds_parts (j.toNat + 1) g
            have u5 := tms_parts j.toNat (tms_mono (Nat.le_succ m) ht)
            have u6 := tms_parts (j.toNat + 1) (tms_mono (Nat.le_succ m) ht)
            refine q _ n' H8 (d7.same t8) (by omega) s8 ⟨_, f5, ?_, ?_, ?_, ?_⟩
            · simp only [Tw.gd]
              rw [gds_app, gds_app, u3.1, u4.2]
              simp only [gds, gd', Bool.and_self]
            · simp only [tm]
              rw [tms_app, tms_app, u5.1, u6.2]
              simp only [tms, td', Bool.and_self]
            · simp only [wt]
              rw [wts_app, wts_app]
              simp only [wts]
              omega
            · simp only [PyData.depth]
              rw [depthAll_app, depthAll_app]
              simp only [PyData.depthAll]
              omega
          · rw [decide_eq_false hc]
            exact iteF (rest _ _ ⟨rfl, n + 1, d1, Nat.le_refl _, s1⟩)
      | _ => exact iteF (rest _ _ ⟨rfl, n, dk, Nat.le_succ _, SameD.refl _ _⟩)
    · -- the whole
      obtain ⟨rfl, n1, d1, hn1, s1⟩ := hq
      have hd1 := dq_sameD s1 hd
      refine ⟨_, rfl, _, _, _, _, isTupD d, rfl, .ty _, dq_ty hd1, kit_ty (kit_tup d), _, rfl, ?_⟩
      cases hd1 with
      | @tup a xs ds o e al =>
        refine iteT ?_
        have hl := dqAll_len al
        have hwl := wts_len ds
        simp only [wt] at hw q
        simp only [Tw.gd] at g
        simp only [tm] at ht
        simp only [PyData.depth] at hN hn q
        refine ⟨_, rfl, _, rfl, 1, rfl, ?_⟩
        dsimp only [tNoPart]
        refine slA_of d1 e o fun p1 H3 t3 x1 o1 => ?_
        have d3 := d1.same t3
        have e3 := t3 _ _ e
        rw [show cutV xs (some 1) none = xs.drop 1 from cut_from xs 1] at x1
        refine ⟨_, rfl, _, rfl, 1, rfl, slA_of d3 e3 o fun p2 H4 t4 x2 o2 => ?_⟩
        have d4 := d3.same t4
        have e4 := t4 _ _ e3
        rw [show cutV xs none (some 1) = xs.take 1 from cut_to xs 1] at x2
        refine catA_of d4 e4 o x2 o2 (by rw [List.length_take]; omega) fun p3 H5 t5 x3 o3 => ?_
        have d5 := d4.same t5
        have e5 := t5 _ _ e4
        refine ⟨_, rfl, a, xs, rfl, SqT.of e5, fun p4 np4 => ?_⟩
        have t6 := same_new np4 (.tup xs.reverse)
        have x4 := upd_same (H := H5) (a := p4) (o := .tup xs.reverse)
        have o4 := d5.new np4
        generalize upd H5 p4 (.tup xs.reverse) = H6 at t6 x4 ⊢
        have d6 := d5.same t6
        have e6 := t6 _ _ e5
        refine ⟨_, rfl, a, xs, rfl, .inr (SqT.of e6), fun p5 np5 => ?_⟩
        have t7 := same_new np5 (.lst xs)
        have x5 := upd_same (H := H6) (a := p5) (o := .lst xs)
        have o5 := d6.new np5
        generalize upd H6 p5 (.lst xs) = H7 at t7 x5 ⊢
        have d7 := d6.same t7
        have e7 := t7 _ _ e6
        refine ⟨_, rfl, 1, rfl, -1, rfl, slA_of d7 e7 o fun p6 H8 t8 x6 o6 => ?_⟩
        have d8 := d7.same t8
        refine ⟨_, rfl, D, n1, rfl, d8, by omega, fun vo H9 d9 s9 gvo => ?_⟩
        refine ⟨(by show 6 ≤ sizeLine; decide), fun L nL => ?_⟩
        have tL := same_new nL (.lst [.ref p1, .ref p3, .ref p4, .ref p5, .ref p6, vo])
        have eL := upd_same (H := H9) (a := L) (o := .lst [.ref p1, .ref p3, .ref p4, .ref p5, .ref p6, vo])
        have oL := d9.new nL
        generalize upd H9 L (.lst [.ref p1, .ref p3, .ref p4, .ref p5, .ref p6, vo]) = H10 at tL eL ⊢
        have z9 := s9.trans (SameD.of (D := D) tL)
        have z8 := (SameD.of (D := D) t8).trans z9
        have z7 := (SameD.of (D := D) t7).trans z8
        have z6 := (SameD.of (D := D) t6).trans z7
        have z5 := (SameD.of (D := D) t5).trans z6
        have z4 := (SameD.of (D := D) t4).trans z5
        have z3 := (SameD.of (D := D) t3).trans z4
        have alx := dqAll_sameD z3 al
        obtain ⟨do', ho, go, to', wo, po⟩ := gvo
        have A : DQAll D H10 [.ref p1, .ref p3, .ref p4, .ref p5, .ref p6, vo] [.tuple (ds.drop 1), .tuple (ds ++ ds.take 1), .tuple ds.reverse, .list ds, .tuple ((ds.drop (HT.sIx xs.length 0 none)).take (HT.sIx xs.length xs.length (some (-1)) - HT.sIx xs.length 0 none)), do'] :=
          .cons (.tup o1 (z4.at o1 x1) (dqAll_take 1 alx).2) (.cons (.tup o3 (z6.at o3 x3) (dqAll_app alx (dqAll_take 1 alx).1)) (.cons (.tup o4 (z7.at o4 x4) (dqAll_rev alx)) (.cons (.lst o5 (z8.at o5 x5) alx)
            (.cons (.tup o6 (z9.at o6 x6) (dqAll_take _ (dqAll_take _ alx).2).1) (.cons (dq_same tL ho) .nil)))))
        refine ⟨D, n1 + 1, L, _, rfl, d9.same tL, by omega, eL, oL, (by show 0 < 6; decide), (by show 6 ≤ 1000; decide), fun i v' H' hv d' s' => ?_⟩
        refine q v' (n1 + 1 + 1) H' d' (by omega) (s1.trans (z3.trans s')) ((pick_good A (fun d hd => ?_) hv).sameD s')
        obtain ⟨r1, r2, r3⟩ := rev_ok ds
        have ht' := tms_mono (Nat.le_succ m) ht
        have part : ∀ (i j : Nat), gds ((ds.drop i).take j) = true ∧ tms (m + 1) ((ds.drop i).take j) = true ∧ wts ((ds.drop i).take j) ≤ wts ds ∧ PyData.depthAll ((ds.drop i).take j) ≤ PyData.depthAll ds := fun i j => by
          have a1 := gds_parts i g
          have a2 := gds_parts j a1.2
          have b1 := tms_parts i ht'
          have b2 := tms_parts j b1.2
          have c1 := wts_take ds i
          have c2 := wts_take (ds.drop i) j
          have e1 := depthAll_parts ds i
          have e2 := depthAll_parts (ds.drop i) j
          exact ⟨a2.1, b2.1, by omega, by omega⟩
        have t1 := wts_take ds 1
        have t2 := depthAll_parts ds 1
        have t3 := gds_parts 1 g
        have t4 := tms_parts 1 ht'
        simp only [List.mem_cons, List.not_mem_nil, or_false] at hd
        rcases hd with rfl | rfl | rfl | rfl | rfl | rfl
        · simp only [Tw.gd, tm, wt, PyData.depth]
          exact ⟨t3.2, t4.2, by omega, by omega⟩
        · simp only [Tw.gd, tm, wt, PyData.depth]
          rw [gds_app, tms_app, wts_app, depthAll_app, g, t3.1, ht', t4.1]
          exact ⟨rfl, rfl, by omega, by omega⟩
        · simp only [Tw.gd, tm, wt, PyData.depth]
          rw [r1, r2, r3, tms_rev]
          exact ⟨g, ht', by omega, by omega⟩
        · simp only [Tw.gd, tm, wt, PyData.depth]
          exact ⟨g, ht', by omega, by omega⟩
        · simp only [Tw.gd, tm, wt, PyData.depth]
          obtain ⟨a1, a2, a3, a4⟩ := part (HT.sIx xs.length 0 none) (HT.sIx xs.length xs.length (some (-1)) - HT.sIx xs.length 0 none)
          exact ⟨a1, a2, by omega, by omega⟩
        · exact ⟨go, tm_mono (by omega) to', by omega, by omega⟩
      | @str x =>
        refine iteF ?_
        refine ⟨_, rfl, _, _, _, _, true, rfl, .ty _, .base (.str _), kit_ty (by decide +kernel), _, rfl, iteT ?_⟩
        have ga := (gd_str g).2
        simp only [tm, decide_eq_true_eq] at ht
        obtain ⟨l, rfl⟩ : ∃ l, x = tx l := ⟨x.cps.toList, rfl⟩
        have hl : l.length ≤ m := ht
        have ha : ∀ c ∈ l, c < 128 := ga
        have lz : (tx l).length ≤ sizeLine := by rw [tx_len]; exact small (by omega)
        have lz1 : l.length ≤ 1000 := by omega
        -- some
        refine ⟨_, rfl, 1, rfl, tx l, rfl, lz, ?_⟩
        rw [show cutS (tx l) (some 1) none = tx (l.drop 1) from tx_from l 1]
        refine ⟨_, rfl, _, rfl, 1, rfl, tx l, rfl, lz, ?_⟩
        rw [show cutS (tx l) none (some 1) = tx (l.take 1) from tx_to l 1]
        have lt1 : (l.take 1).length ≤ 1 := by rw [List.length_take]; omega
        refine ⟨_, _, rfl, rfl, small (by rw [tx_len, tx_len]; omega), ?_⟩
        rw [tx_app]
        refine ⟨_, rfl, tx l, rfl, by rw [tx_len]; exact lz1, ?_⟩
        rw [show (⟨(tx l).cps.toList.reverse.toArray⟩ : Str) = tx l.reverse from rfl]
        refine ⟨_, rfl, _, _, rfl, rfl, small (by rw [str_z, tx_len, tx_len]; show l.length + 1 ≤ 1000; omega), ?_⟩
        rw [str_z, tx_app]
        refine ⟨_, rfl, rfl, tx l, rfl, rfl, by rw [tx_len]; omega, ?_⟩
        refine ⟨_, rfl, (by show 1 ≤ sizeLine; decide), fun p1 np1 => ?_⟩
        have t1 := same_new np1 (.lst [.str (tx l)])
        have x1 := upd_same (H := H') (a := p1) (o := .lst [.str (tx l)])
        have o1 := d1.new np1
        generalize upd H' p1 (.lst [.str (tx l)]) = H5 at t1 x1 ⊢
        have d5 := d1.same t1
        refine ⟨_, rfl, D, n1, rfl, d5, by omega, fun vo H6 d6 s6 gvo => ?_⟩
        refine ⟨(by show 7 ≤ sizeLine; decide), fun L nL => ?_⟩
        have tL := same_new nL (.lst [.str (tx (l.drop 1)), .str (tx (l ++ l.take 1)), .str (tx l.reverse), .str (tx (l ++ [122])), .str (Txt.upper (tx l)), .ref p1, vo])
        have eL := upd_same (H := H6) (a := L) (o := .lst [.str (tx (l.drop 1)), .str (tx (l ++ l.take 1)), .str (tx l.reverse), .str (tx (l ++ [122])), .str (Txt.upper (tx l)), .ref p1, vo])
        generalize upd H6 L (.lst [.str (tx (l.drop 1)), .str (tx (l ++ l.take 1)), .str (tx l.reverse), .str (tx (l ++ [122])), .str (Txt.upper (tx l)), .ref p1, vo]) = H7 at tL eL ⊢
        have d7 := d6.same tL
        obtain ⟨i, j, ec⟩ := cut_tx l none (some (-1))
        -- and three more
        refine ⟨_, rfl, _, rfl, _, rfl, 1, rfl, -1, rfl, tx l, rfl, lz, ?_⟩
        rw [ec]
        refine ⟨_, rfl, _, _, rfl, rfl, small (by rw [str_a, tx_len, tx_len]; show l.length + 1 ≤ 1000; omega), ?_⟩
        rw [str_a, tx_app]
        refine ⟨(by show 3 ≤ sizeLine; decide), fun M2 nM2 => ?_⟩
        have tM := same_new nM2 (.lst [.str (tx ((l.drop i).take j)), .str (tx [97]), .str (tx (l ++ [97]))])
        have eM := upd_same (H := H7) (a := M2) (o := .lst [.str (tx ((l.drop i).take j)), .str (tx [97]), .str (tx (l ++ [97]))])
        generalize upd H7 M2 (.lst [.str (tx ((l.drop i).take j)), .str (tx [97]), .str (tx (l ++ [97]))]) = H8 at tM eM ⊢
        have d8 := d7.same tM
        refine ⟨L, M2, _, _, rfl, rfl, tM _ _ eL, eM, (by show 10 ≤ 16777216; decide), fun C nC => ?_⟩
        have tC := same_new nC (.lst ([.str (tx (l.drop 1)), .str (tx (l ++ l.take 1)), .str (tx l.reverse), .str (tx (l ++ [122])), .str (Txt.upper (tx l)), .ref p1, vo] ++ [.str (tx ((l.drop i).take j)), .str (tx [97]), .str (tx (l ++ [97]))]))
        have eC := upd_same (H := H8) (a := C) (o := .lst ([.str (tx (l.drop 1)), .str (tx (l ++ l.take 1)), .str (tx l.reverse), .str (tx (l ++ [122])), .str (Txt.upper (tx l)), .ref p1, vo] ++ [.str (tx ((l.drop i).take j)), .str (tx [97]), .str (tx (l ++ [97]))]))
        have oC := d8.new nC
        generalize upd H8 C (.lst ([.str (tx (l.drop 1)), .str (tx (l ++ l.take 1)), .str (tx l.reverse), .str (tx (l ++ [122])), .str (Txt.upper (tx l)), .ref p1, vo] ++ [.str (tx ((l.drop i).take j)), .str (tx [97]), .str (tx (l ++ [97]))])) = H9 at tC eC ⊢
        have d9 := d8.same tC
        have z6 := SameD.of (D := D) ((tL.trans tM).trans tC)
        have z5 := s6.trans z6
        obtain ⟨do', ho, go, to', wo, po⟩ := gvo
        have A : DQAll D H9 ([.str (tx (l.drop 1)), .str (tx (l ++ l.take 1)), .str (tx l.reverse), .str (tx (l ++ [122])), .str (Txt.upper (tx l)), .ref p1, vo] ++ [.str (tx ((l.drop i).take j)), .str (tx [97]), .str (tx (l ++ [97]))])
            [.str (tx (l.drop 1)), .str (tx (l ++ l.take 1)), .str (tx l.reverse), .str (tx (l ++ [122])), .str (Txt.upper (tx l)), .list [.str (tx l)], do', .str (tx ((l.drop i).take j)), .str (tx [97]), .str (tx (l ++ [97]))] :=
          .cons (.str _) (.cons (.str _) (.cons (.str _) (.cons (.str _) (.cons (.str _) (.cons (.lst o1 (z5.at o1 x1) (.cons (.str _) .nil)) (.cons (dq_sameD z6 ho) (.cons (.str _) (.cons (.str _) (.cons (.str _) .nil)))))))))
        refine ⟨D, n1 + 1, C, _, rfl, d9, by omega, eC, oC, (by show 0 < 10; decide), (by show 10 ≤ 1000; decide), fun iv v' Hz hv dz sz => ?_⟩
        have wl : wt (.str (tx l)) = 902 := by simp only [wt]
        have dl : (PyData.str (tx l)).depth = 0 := by simp only [PyData.depth]
        rw [wl, dl] at q
        rw [dl] at hn
        refine q v' (n1 + 1 + 1) Hz dz (by omega) (s1.trans ((SameD.of t1).trans (z5.trans sz))) ((pick_good A (fun d hd => ?_) hv).sameD sz)
        have mem : ∀ {k : List Nat}, (∀ c ∈ k, c ∈ l) → ∀ c ∈ k, c < 128 := fun h c hc => ha c (h c hc)
        have G : ∀ {k : List Nat}, k.length ≤ m + 1 → (∀ c ∈ k, c < 128) → gd (.str (tx k)) = true ∧ tm (m + 1) (.str (tx k)) = true ∧ wt (.str (tx k)) ≤ 2 * 902 + 20000 ∧ (PyData.str (tx k)).depth ≤ 0 + 3 := fun h1 h2 => asc_good (asc_tx h1 h2) (by omega) (by decide)
        have plus : ∀ (c : Nat), c < 128 → gd (.str (tx (l ++ [c]))) = true ∧ tm (m + 1) (.str (tx (l ++ [c]))) = true ∧ wt (.str (tx (l ++ [c]))) ≤ 2 * 902 + 20000 ∧ (PyData.str (tx (l ++ [c]))).depth ≤ 0 + 3 := fun c hc => G (by rw [List.length_append]; show _ + 1 ≤ _; omega) fun e he => by
          rcases List.mem_append.mp he with h | h
          · exact ha e h
          · rw [List.mem_singleton.mp h]; exact hc
        simp only [List.mem_cons, List.not_mem_nil, or_false] at hd
        rcases hd with rfl | rfl | rfl | rfl | rfl | rfl | rfl | rfl | rfl | rfl
        · exact G (by rw [List.length_drop]; omega) (mem fun c hc => List.mem_of_mem_drop hc)
        · exact G (by rw [List.length_append]; omega) fun c hc => by
            rcases List.mem_append.mp hc with h | h
            · exact ha c h
            · exact ha c (List.mem_of_mem_take h)
        · exact G (by rw [List.length_reverse]; omega) (mem fun c hc => List.mem_reverse.mp hc)
        · exact plus 122 (by decide)
        · exact asc_good (up_asc (by omega) ha) (by omega) (by decide)
        · obtain ⟨a1, a2, a3, a4⟩ := G (k := l) (by omega) ha
          simp only [Tw.gd, gds, tm, tms, wt, wts, PyData.depth, PyData.depthAll] at a1 a2 ⊢
          simp only [a1, a2, Bool.and_true]
          exact ⟨trivial, trivial, by decide, by decide⟩
        · exact ⟨go, tm_mono (by omega) to', by omega, by omega⟩
        · exact G (by rw [List.length_take, List.length_drop]; omega) (mem fun c hc => List.mem_of_mem_drop (List.mem_of_mem_take hc))
        · exact G (by show 1 ≤ _; omega) fun c hc => by rw [List.mem_singleton.mp hc]; decide
        · exact plus 97 (by decide)
      | _ =>
        refine iteF ?_
        refine ⟨_, rfl, _, _, _, _, false, rfl, .ty _, dq_ty (dq_sameD s1 hd), kit_ty (by simp only [tyD]; decide +kernel), _, rfl, iteF ?_⟩
        exact ⟨_, rfl, D, n1, rfl, d1, by omega, fun vo H5 d5 s5 gvo => q vo (n1 + 1) H5 d5 (by omega) (s1.trans s5) (gvo.mono (by omega) (by omega) (by omega))⟩
end
/-! ### sorted(set(text)) -/
section
open PySem.Froz
/-- the set of texts at a: its members are l; its table rises and can be walked -/
def SetX (P : Program) (w : World) (h : Heap) (a : Addr) (l : List Str) : Prop :=
  ∃ D : SD, h.get? a = some (sObj "set" D) ∧ TxOk P w D l ∧ Ris D.2.2.place.toList ∧ (w.params.followText "set-order" = true ∨ D.2.2.led = true)
theorem SetX.at {P : Program} {w : World} {h h' : Heap} {a : Addr} {l : List Str} (R : SetX P w h a l) (k : ∀ o, h.get? a = some o → h'.get? a = some o) : SetX P w h' a l := by
  obtain ⟨D, ho, r⟩ := R
  exact ⟨D, k _ ho, r⟩
theorem add_tab {w : World} {h : Int} {v : Value} {D : SD} (r : Ris D.2.2.place.toList) (l : w.params.followText "set-order" = true ∨ D.2.2.led = true) :
    Ris (addTx h v D).2.2.place.toList ∧ (w.params.followText "set-order" = true ∨ (addTx h v D).2.2.led = true) := by
  obtain ⟨es, ep, t⟩ := D
  have r1 := layNew_ris t es h v r
  have l1 := layNew_led t es h v
  unfold addTx
  dsimp only at l ⊢
  generalize layNew t es h v = L at r1 l1 ⊢
  obtain ⟨es1, t1, wd, gv⟩ := L
  dsimp only at r1 l1 ⊢
  generalize ht2 : (if t1.plain = true then ({ t1 with plain := false } : SetTable) else t1) = t2
  have r2 : Ris t2.place.toList ∧ t2.led = t1.led := by
    rw [← ht2]
    split
    · exact ⟨r1, rfl⟩
    · exact ⟨r1, rfl⟩
  unfold tailTx
  split
  · exact ⟨relayAll_ris t2 es1 _, l.imp id fun z => by show (relayAll t2 es1 _).2.1.led = true; rw [relayAll_led, r2.2, l1]; exact z⟩
  · exact ⟨r2.1, l.imp id fun z => by show t2.led = true; rw [r2.2, l1]; exact z⟩
section
variable {P : Program} {w : World} {A : Around} {E : Value → Shared → Prop} {s : Shared}
theorem setX_add {a : Addr} {l : List Str} {k : Str} {u : Tok} {Q : Bool → Shared → Prop} (R : SetX P w s.heap a l) (hb : l.length + 1 < scanBound)
    (h : ∀ (h' : Heap) (b : Bool), Heap.SameBut a s.heap h' → SetX P w h' a (if k ∈ l then l else k :: l) → Q b { s with heap := h' }) : wpAny (model P w) A (setAddHashed a (.str k u) (hashStr w k)) Q E s := by
  obtain ⟨D, ho, F, ris, led⟩ := R
  by_cases hk : k ∈ l
  · rw [if_pos hk] at h
    have h1 : ∀ b, Q b s := fun b => h s.heap b (Heap.SameBut.refl a s.heap) ⟨D, ho, F, ris, led⟩
    obtain ⟨es, ep, t⟩ := D
    have hd : (sObj "set" (es, ep, t)).data = .set es ep t := rfl
    have hf : t.fits es.size = true := F.fit
    have hel : ElemsOf (PySem.strKind P w) es.toList := F.el
    have hsz : es.size = l.length := F.sz
    obtain ⟨e, he, ke⟩ := (F.mem k).mp hk
    unfold setAddHashed setAddHashedIn
    refine wpAny_holding (wpAny_bind (wpAny_setState_of ho hd hf ?_))
    dsimp only
    rw [byScan_of (x := Value.str k u) rfl (by omega) hel]
    simp only [↓reduceIte]
    unfold setAddByScan
    refine wpAny_bind ?_
    refine wpAny_bind (wpAny_rule ?_)
    refine wpAny_bind (wpAny_setScan_of (knd := PySem.strKind P w) (k := k) (is_str k u) ho hd hf hel ?_)
    cases hfi : List.findIdx? (fun e => (PySem.strKind P w).is k e.2) es.toList with
    | none =>
      have c := List.findIdx?_eq_none_iff.mp hfi e he
      rw [ke] at c
      cases c
    | some j =>
      dsimp only
      exact wpAny_pure (wpAny_pure (h1 _))
  · rw [if_neg hk] at h
    obtain ⟨t1, t2⟩ := add_tab (w := w) (h := hashStr w k) (v := .str k u) ris led
    exact add_x ho F hk hb (h _ true (Heap.SameBut.update s.heap a _) ⟨_, get_upd _ ho rfl, add_ok u F, t1, t2⟩)
theorem setX_loop {I : Addr} {fp wr : List Addr} {G : Array GenState → Array GenState → Prop} {n : Nat} {Pv : Nat → Value → Prop} {St : Nat → Shared → Prop} {R : Result → Shared → Prop}
    (W : WalksS P w A.in1 I fp wr G n Pv St) (S : Addr) (hSf : S ∉ fp) (cs : List Nat) (hn : n = cs.length) (hb : cs.length + 1 < scanBound) (hval : ∀ i v, Pv i v → ∃ c t, cs[i]? = some c ∧ v = .str (ch c) t) :
    ∀ (k i : Nat) (s : Shared), n - i = k → i ≤ n → St i s → (∃ l, SetX P w s.heap S l ∧ l.length ≤ i ∧ l.Nodup ∧ ∀ x, x ∈ l ↔ x ∈ (cs.take i).map ch) →
      (∀ s' l, Moved (S :: wr) G s s' → SetX P w s'.heap S l → l.length ≤ n → l.Nodup → (∀ x, x ∈ l ↔ x ∈ cs.map ch) → R (.ok (.ret .none)) s') →
      codeAny (model P w) A (.builtin "set.update.loop" ⟨[.ref S, .ref I], []⟩) R s := by
  have hSw : S ∉ wr := fun h => hSf (W.sub _ h)
  have up : ∀ b ∈ wr, b ∈ S :: wr := fun b hb => List.mem_cons_of_mem _ hb
  intro k
  induction k with
  | zero =>
    intro i s hk' hi hst ⟨l, hS, hl, nd, mem⟩ hR
    have hin : i = n := by omega
    subst hin
    refine codeAny_builtin PyProof.Rows.F.entry_set_update_loop ?_
    rw [Around.under_plainId PyProof.Rows.F.plain_set_update_loop _]
    show wpAny _ A.in1 (pyNext (.ref I) >>= _) _ _ s
    refine wpAny_bind (W.done s _ _ hst fun s' hm => ?_)
    show wpAny _ A.in1 (ret Value.none) _ _ s'
    rw [List.take_of_length_le (by omega)] at mem
    exact wpAny_pure (hR s' l (hm.mono up) (hS.at fun o e => hm.heap S o hSw e) hl nd mem)
  | succ k ih =>
    intro i s hk' hi hst ⟨l, hS, hl, nd, mem⟩ hR
    have hlt : i < n := by omega
    refine codeAny_builtin PyProof.Rows.F.entry_set_update_loop ?_
    rw [Around.under_plainId PyProof.Rows.F.plain_set_update_loop _]
    show wpAny _ A.in1 (pyNext (.ref I) >>= _) _ _ s
    refine wpAny_bind (W.item i s _ _ hlt hst fun v s' hP hst' hm => ?_)
    obtain ⟨c, t, hc, rfl⟩ := hval i v hP
    have hS' : SetX P w s'.heap S l := hS.at fun o e => hm.heap S o hSw e
    show wpAny _ A.in1 (holding [Value.str (ch c) t] (setAdd S (.str (ch c) t)) >>= _) _ _ s'
    refine wpAny_bind (wpAny_holding ?_)
    unfold setAdd
    refine wpAny_holding ?_
    refine wpAny_bind ((PySem.strKind P w).pyHash (k := ch c) (is_str _ _) ?_)
    refine setX_add (s := { s' with toks := s'.toks + 1 }) hS' (by omega) fun h' b hsb hS2 => ?_
    have tk : (cs.take (i + 1)).map ch = (cs.take i).map ch ++ [ch c] := by
      rw [List.take_succ, hc, List.map_append]
      rfl
    refine wpAny_pure ⟨plainId_quiet PyProof.Rows.F.plain_set_update_loop _, ih (i + 1) _ (by omega) hlt (W.frame _ s' _ _ hst' (Nat.le_succ _) fun b hb o e => ?_) ⟨_, hS2, ?_, ?_, ?_⟩ fun s'' l2 hm'' hS'' hl'' nd'' mem'' => ?_⟩
    · rw [hsb.2 b (fun h : b = S => hSf (by rw [← h]; exact hb))]; exact e
    · split
      · omega
      · rw [List.length_cons]; omega
    · split
      · exact nd
      · exact List.nodup_cons.mpr ⟨by assumption, nd⟩
    · intro x
      rw [tk, List.mem_append, List.mem_singleton, ← mem x]
      split
      · rename_i hm
        constructor
        · exact .inl
        · rintro (h | rfl)
          · exact h
          · exact hm
      · rw [List.mem_cons]
        exact Or.comm
    · refine hR s'' l2 (Moved.trans W.gtrans ((hm.mono up).then_heap (Nat.le_succ _) fun b o hb e => ?_) hm'') hS'' hl'' nd'' mem''
      rw [hsb.2 b (fun h : b = S => hb (by rw [h]; exact List.mem_cons_self))]; exact e
end
end
/-! ### set(text), sorted of it -/
section
open PySem.Froz
abbrev freshS (w : World) : Obj := { cls := .type "set", dict := none, data := .set #[] 0 (.fresh 0 0 (!w.params.followText "set-order")) }
theorem setX_fresh {P : Program} {w : World} {h : Heap} {a : Addr} (ho : h.get? a = some (freshS w)) : SetX P w h a [] := by
  refine ⟨(#[], 0, .fresh 0 0 (!w.params.followText "set-order")), ho, .nil (by rfl), List.Pairwise.nil, ?_⟩
  show _ ∨ (!w.params.followText "set-order") = true
  cases w.params.followText "set-order"
  · exact .inr rfl
  · exact .inl rfl
section
variable {P : Program} {w : World} {A : Around} {E : Value → Shared → Prop} {s : Shared}
set_option maxHeartbeats 4000000 in
theorem call_setX {x : Str} {t : Tok} {Q : Value → Shared → Prop} (hh : A.handled = none) (hb : x.cps.size + 1 < scanBound)
    (h : ∀ (h' : Heap) (tk : Nat) (l : List Str), SetX P w h' s.heap.objs.size l → l.length ≤ x.cps.size → l.Nodup → (∀ y, y ∈ l ↔ y ∈ x.cps.toList.map ch) → (∀ b o, s.heap.get? b = some o → h'.get? b = some o) → Q (.ref s.heap.objs.size) { s with heap := h', toks := tk }) :
    wpAny (model P w) A (call (.type "set") [.str x t]) Q E s := by
  obtain ⟨c, tl, hmro⟩ := F.called_set.mro
  have hmade := F.called_set.made
  have hsub := F.called_set.sub
  refine wpAny_call (codeAny_of_tree ?_)
  show wpAny _ _ (callAny (.type "set") _) _ _ _
  refine wpAny_pure ⟨Code.quiet_builtin _ (by decide +kernel), codeAny_builtin F.entry_type_call ?_⟩
  rw [Around.under_plain (weight_type_call_type "set" [.str x t] []) rfl]
  have h1 := F.called_set.notType
  have h2 := F.called_set.canCreate
  have hct := F.typeCall_set_1 (.str x t)
  repeat (any_goals (first | assumption | wp_step))
  refine codeAny_mono (code_set_led1 (.str x t) (E := E) (Q₁ := fun obj s₁ => obj = .ref s.heap.objs.size ∧ s₁ = { s with heap := s.heap.push (freshS w) }) ⟨rfl, rfl⟩) fun r s₁ hr => ?_
  match r, hr with
  | .error e, hr => exact hr
  | .ok .next, hr => exact hr.elim
  | .ok .brk, hr => exact hr.elim
  | .ok .cont, hr => exact hr.elim
  | .ok (.ret obj), hr =>
    obtain ⟨rfl, rfl⟩ := hr
    have hS : (s.heap.push (freshS w)).get? s.heap.objs.size = some (freshS w) := Heap.get?_push_size _ rfl
    have hT : Shared.TypeIs { s with heap := s.heap.push (freshS w) } (.ref s.heap.objs.size) "set" := ⟨_, hS, rfl⟩
    have hli := F.called_set.init.lookup
    have hbi := F.called_set.init.bind (.ref s.heap.objs.size)
    repeat (any_goals (first | assumption | wp_step))
    refine codeAny_mono (codeAny_call_builtin (R := wants (fun r s₂ => r = .none ∧ ∃ h' tk l, s₂ = { s with heap := h', toks := tk } ∧ SetX P w h' s.heap.objs.size l ∧ l.length ≤ x.cps.size ∧ l.Nodup ∧ (∀ y, y ∈ l ↔ y ∈ x.cps.toList.map ch) ∧
        (∀ b o, s.heap.get? b = some o → h'.get? b = some o)) E) F.called_set.init.plain F.entry_set_init (check_set_init_1 hT ?_)) fun r₂ s₂ hr₂ => ?_
    · have hsls : isSubtype (.type "str") (.type "set") = pure false := by rw [isSubtype_type]; kernel_rfl
      have hslf : isSubtype (.type "str") (.type "frozenset") = pure false := by rw [isSubtype_type]; kernel_rfl
      have hne : (Value.type "str" == Value.type "dict") = false := by decide
      unfold Builtin.«set.__init__» noKeywords Builtin.Frozenset.updateFrom
      generalize hPI : pyIter = PI
      wp_walk
      subst hPI
      refine wpAny_pyIter_str fun o St W hst => ?_
      refine wpAny_bind (wpAny_runValue ?_)
      have hh3 : A.in1.in1.in1.handled = none := by simp [hh]
      have hSf : s.heap.objs.size ∉ [(s.heap.push (freshS w)).objs.size] := by
        rw [Heap.size_push]; simp only [List.mem_singleton]
        exact Nat.ne_of_lt (Nat.lt_succ_self _)
      have hval : ∀ (i : Nat) (v : Value), SignAt x i v → ∃ c t, x.cps.toList[i]? = some c ∧ v = .str (ch c) t := fun i v ⟨c, u, hc, e⟩ => ⟨c, u, by rw [Array.getElem?_toList]; exact hc, e⟩
      refine setX_loop ((W _ hh3).toS) s.heap.objs.size hSf x.cps.toList (Array.length_toList).symm (by rw [Array.length_toList]; exact hb) hval (x.cps.size - 0) 0 _ rfl (Nat.zero_le _) hst
        ⟨[], setX_fresh (Heap.get?_push_of_some _ hS), Nat.le_refl 0, List.nodup_nil, fun y => by simp⟩ fun s' l hm hS' hl nd mem => ?_
      obtain ⟨h', g2, d', tk', os'⟩ := s'
      have eg : g2 = s.gens := hm.gens
      have ed : d' = s.drawn := hm.drawn
      have eo : os' = s.os := hm.os
      subst eg; subst ed; subst eo
      show wpAny _ _ _ _ _ _
      refine wpAny_pure ?_
      show wpAny _ _ (ret Value.none) _ _ _
      refine wpAny_pure ⟨rfl, h', tk', l, rfl, hS', hl, nd, mem, fun b o e => ?_⟩
      have hb0 : b < s.heap.objs.size := Heap.lt_size e
      have hb1 : b ≠ s.heap.objs.size := Nat.ne_of_lt hb0
      have hb2 : b ≠ (s.heap.push (freshS w)).objs.size := by
        rw [Heap.size_push]; exact Nat.ne_of_lt (Nat.lt_succ_of_lt hb0)
      exact hm.heap b o (by simp only [List.mem_cons, List.mem_singleton, List.not_mem_nil, or_false, not_or]; exact ⟨hb1, hb2⟩) (Heap.get?_push_of_some _ (Heap.get?_push_of_some _ e))
    · match r₂, hr₂ with
      | .error e, hr₂ => exact hr₂
      | .ok .next, hr₂ => exact hr₂.elim
      | .ok .brk, hr₂ => exact hr₂.elim
      | .ok .cont, hr₂ => exact hr₂.elim
      | .ok (.ret r), hr₂ =>
        obtain ⟨rfl, h', tk, l, rfl, hS', hl, nd, mem, hk'⟩ := hr₂
        repeat (any_goals (first | assumption | wp_step))
        exact h _ _ _ hS' hl nd mem hk'
end
end
theorem perm_of_sub {α : Type} [DecidableEq α] : ∀ (l ss : List α), l.Nodup → (∀ x ∈ l, x ∈ ss) → ss.length ≤ l.length → ss.Perm l
  | [], ss, _, _, h => by
    have : ss = [] := List.eq_nil_of_length_eq_zero (Nat.le_zero.mp h)
    rw [this]
  | x :: l, ss, nd, sub, h => by
    obtain ⟨n1, n2⟩ := List.nodup_cons.mp nd
    have hx := sub x List.mem_cons_self
    have p := List.perm_cons_erase hx
    refine p.trans (List.Perm.cons x (perm_of_sub l (ss.erase x) n2 (fun y hy => ?_) ?_))
    · exact (List.mem_erase_of_ne (fun z : y = x => n1 (z ▸ hy))).mpr (sub y (List.mem_cons_of_mem _ hy))
    · rw [List.length_erase_of_mem hx]
      rw [List.length_cons] at h
      omega
section
open PySem.Froz
section
variable {P : Program} {w : World} {A : Around} {E : Value → Shared → Prop} {s : Shared}
theorem sorted_setX {a : Addr} {l : List Str} {Q : Value → Shared → Prop} (R : SetX P w s.heap a l) (nd : l.Nodup) (hh : A.handled = none) (h64 : l.length < 64)
    (hQ : ∀ s' p (out : Array Value) (c : Nat) (ys : List Str), (∀ b o, s.heap.get? b = some o → s'.heap.get? b = some o) → s'.gens = s.gens → s'.os = s.os → s.heap.objs.size ≤ p →
      s'.heap.get? p = some (seqObj "list" out c) → StrsAre out.toList ys → ys.Perm l → sortedS ys = true → Q (.ref p) s') :
    wpAny (model P w) A (call (.builtin "sorted") [.ref a]) Q E s := by
  obtain ⟨⟨es, ep, t⟩, ho, F, ris, led⟩ := R
  have hsz : es.size = l.length := F.sz
  have hsb : es.size < scanBound := by unfold scanBound; omega
  refine Calls.call_function_entry kind_sorted plain_sorted entry_sorted (args_sorted1 _) ?_
  unfold Builtin.«sorted»
  refine wpAny_bind (m := checkCount "sorted" 1 1 _) (wpAny_pure ?_)
  refine wpAny_bind (collect_set (A := A.in1) hh ⟨_, ho, rfl, rfl⟩ F.fit hsb ris led fun s1 vs k1 hz g1 o1 pm => ?_)
  have str : ∀ v ∈ vs, ∃ x t, v = Value.str x t := fun v hv => by
    obtain ⟨e, he, rfl⟩ := List.mem_map.mp (pm.mem_iff.mp hv)
    obtain ⟨⟨k, hk, _⟩, _⟩ := F.el e he
    have hk : Value.isStrOf k e.2 = true := hk
    cases h : e.2 <;> rw [h] at hk <;> first | exact ⟨_, _, rfl⟩ | exact absurd hk (by simp [Value.isStrOf])
  have hS : StrsAre vs (vs.map strOf) := strsAre_map vs str
  have hvl : vs.length = l.length := by rw [pm.length_eq, List.length_map, Array.length_toList]; exact hsz
  have pl : (vs.map strOf).Perm l := by
    refine perm_of_sub l _ nd (fun k hk => ?_) (by rw [List.length_map, hvl]; exact Nat.le_refl _)
    obtain ⟨e, he, q⟩ := (F.mem k).mp hk
    have q : Value.isStrOf k e.2 = true := q
    have hm : e.2 ∈ vs := pm.mem_iff.mpr (List.mem_map.mpr ⟨e, he, rfl⟩)
    refine List.mem_map.mpr ⟨e.2, hm, ?_⟩
    obtain ⟨x, u, hx⟩ := str _ hm
    rw [hx] at q ⊢
    have : x = k := by simpa [Value.isStrOf] using q
    exact this
  refine wpAny_bind (wpAny_newList ?_ (by rw [hvl, sizeLine_eq]; omega))
  have hoL : (s1.heap.push (seqObj "list" vs.toArray 0)).get? s1.heap.objs.size = some (seqObj "list" vs.toArray 0) := Heap.get?_push_size _ rfl
  refine wpAny_bind (wpAny_holding (wpAny_call_entry slot_list_sort ⟨_, hoL, rfl⟩ entry_list_sort (list_sort_treeK strKind_oneLt hoL hS.keysOf (fun v₁ v₂ rest e => keyKind_strs (by rw [← e]; exact hS)) (by rw [hvl]; exact h64) fun st' a1 a2 => ⟨_, rfl, ?_⟩) (args_list_sort _)))
  obtain ⟨ys, b1, b2, b3⟩ := sorted_out_str hS a1 a2
  generalize (arrOf st').map (·.2) = out at b1 ⊢
  obtain ⟨c, hc⟩ := sortedHeap_at (vs := vs) (out := out) hoL
  refine wpAny_pure ⟨_, rfl, hQ _ s1.heap.objs.size out c ys (fun b u e => ?_) g1 o1 hz hc b1 (b2.trans pl) b3⟩
  have q := k1 b u e
  have hlt := Heap.lt_size q
  show (sortedHeap (s1.heap.push (seqObj "list" vs.toArray 0)) s1.heap.objs.size vs out).get? b = some u
  rw [sortedHeap_old (Nat.ne_of_lt hlt) (by rw [size_push']; exact Nat.lt_succ_of_lt hlt)]
  exact Heap.get?_push_of_some _ q
end
def SetXO (P : Program) (w : World) (a : Addr) (l : List Str) : HO := .ext fun h => SetX P w h a l
section
variable {X : Cx}
theorem setXO_new {w : World} {P : Program} {H : Hp} {h : Heap} {a : Addr} {l : List Str} (R : SetX P w h a l) : ObjOk P w H h a (SetXO P w a l) := by
  have ⟨D, ho, _⟩ := R
  exact ⟨R, ⟨_, ho⟩, fun h1 h2 p k => SetX.at p k⟩
def rSetX (P : Program) (w : World) : List V → Hp → VK → Prop := fun xs H Q => ∃ cs : List Nat, xs = [.str (tx cs)] ∧ cs.length < 64 ∧
  ∀ (a : Addr) (l : List Str), H a = none → l.Nodup → (∀ y, y ∈ l ↔ y ∈ cs.map ch) → l.length < 64 → Q (.ref a) (upd H a (SetXO P w a l))
theorem cr_setX (hc : X.calm = true) : CallR X (.type "set") (rSetX X.prog X.w) := by
  intro pins s σ H xs us Q I r h
  obtain ⟨cs, rfl, hz, q⟩ := h
  obtain ⟨u, rfl, t, rfl⟩ := vals1 r
  have hz' : (tx cs).cps.size = cs.length := rfl
  refine call_setX (P := X.prog) (w := X.w) (I.ok.hd hc) (by rw [hz']; unfold scanBound; omega) fun h' tk l R hl nd mem k => ?_
  exact ⟨.ref s.heap.objs.size, upd H s.heap.objs.size (SetXO X.prog X.w s.heap.objs.size l), I.laid (t' := tk) k (Nat.le_refl _) (setXO_new R), rfl, q _ l (I.hok.fresh (Nat.le_refl _)) nd mem (by omega)⟩
def rSortX (P : Program) (w : World) : List V → Hp → VK → Prop := fun vs H Q => ∃ (a : Addr) (l : List Str), vs = [V.ref a] ∧ H a = some (SetXO P w a l) ∧ l.Nodup ∧ l.length < 64 ∧
  ∀ (ys : List Str) (p : Addr), ys.Perm l → sortedS ys = true → H p = none → Q (.ref p) (upd H p (.lst (ys.map V.str)))
theorem cr_sortX (hc : X.calm = true) : CallR X (.builtin "sorted") (rSortX X.prog X.w) := by
  intro pins s σ H vs us Q I r h
  obtain ⟨a, l, rfl, ha, nd, h64, q⟩ := h
  have R : SetX X.prog X.w s.heap a l := (I.hok a _ ha).1
  rw [Vals.ref1 r]
  refine sorted_setX R nd (I.ok.hd hc) h64 fun s' p out c ys k g o hp hg hi hs hm => ?_
  have hlen : (ys.map V.str).length ≤ sizeLine := by rw [List.length_map, hs.length_eq, sizeLine_eq]; omega
  have hn : H p = none := I.hok.fresh hp
  have J : Inv X pins σ (upd H p (.lst (ys.map V.str))) { s with heap := s'.heap, gens := s'.gens, drawn := s'.drawn, toks := s'.toks } :=
    I.call (ch := []) (Un.laid k hp hn) (I.hok.laid k hp ⟨hlen, out.toList, c, vals_of_strs hi, hg⟩) (by rw [g]; exact I.bare) (fun _ z => nomatch z)
  have e : s' = { s with heap := s'.heap, gens := s'.gens, drawn := s'.drawn, toks := s'.toks } := by
    cases s'
    cases s
    cases o
    rfl
  rw [e]
  exact ⟨.ref p, _, J, rfl, q ys p hs hm hn⟩
end
end
/-! ### sorted(text) -/
section
variable {X : Cx}
def rSortedTx : List V → Hp → VK → Prop := fun vs H Q => ∃ x : Str, vs = [.str x] ∧ x.length ≤ 1000 ∧
  ∀ (ys : List Str) (p : Addr), ys.Perm (x.cps.toList.map fun c => (⟨#[c]⟩ : Str)) → sortedS ys = true → H p = none → Q (.ref p) (upd H p (.lst (ys.map V.str)))
theorem cr_sortedTx (hc : X.calm = true) : CallR X (.builtin "sorted") rSortedTx := by
  intro pins s σ H vs us Q I r h
  obtain ⟨x, rfl, hx, q⟩ := h
  obtain ⟨u, rfl, t, rfl⟩ := vals1 r
  refine Calls.call_function_entry kind_sorted plain_sorted entry_sorted (args_sorted1 _) ?_
  unfold Builtin.«sorted»
  refine wpAny_bind (m := checkCount "sorted" 1 1 _) (wpAny_pure ?_)
  refine wpAny_bind (wpAny_collect_str (show X.A.in1.handled = none from I.ok.hd hc) x t (fun s' acc hk hg hd ho hacc => ?_) (show x.cps.size ≤ sizeLine from Nat.le_trans hx (by decide)))
  have e0 : s' = { s with heap := s'.heap, toks := s'.toks } := by
    cases s'
    cases s
    simp_all
  have I2 : Inv X pins σ H s' := by
    rw [e0]
    exact I.kept hk
  have hl : acc.toList.length = x.cps.toList.length := by rw [Array.length_toList, Array.length_toList]; exact hacc.1
  have hz : acc.toList.length ≤ sizeLine := by rw [hl]; exact Nat.le_trans (by rw [Array.length_toList]; exact hx) (by decide : 1000 ≤ sizeLine)
  have rv : Vals (x.cps.toList.map fun c => V.str ⟨#[c]⟩) acc.toList := vals_signs _ _ hl fun j v e => by
    obtain ⟨c, u, e1, e2⟩ := hacc.2 j v (by simpa using e)
    exact ⟨c, u, by simpa using e1, e2⟩
  have rv2 : Vals ((x.cps.toList.map fun c => (⟨#[c]⟩ : Str)).map V.str) acc.toList := by rw [List.map_map]; exact rv
  have hS := rv2.strs
  refine wpAny_bind (wpAny_newList ?_ hz)
  have hoL : (s'.heap.push (seqObj "list" acc.toList.toArray 0)).get? s'.heap.objs.size = some (seqObj "list" acc.toList.toArray 0) := Heap.get?_push_size _ rfl
  refine wpAny_bind (wpAny_holding (wpAny_call_entry slot_list_sort ⟨_, hoL, rfl⟩ entry_list_sort (list_sort_treeKAny (κ := strKind) strKind_oneLt hoL hS.keysOf (fun v₁ v₂ rest e => keyKind_strs (by rw [← e]; exact hS)) hz fun st' hp hs => ⟨_, rfl, ?_⟩) (args_list_sort _)))
  obtain ⟨ys, h1, h2, h3⟩ := sorted_out_str hS hp hs
  refine wpAny_pure ⟨_, rfl, ?_⟩
  obtain ⟨ep, he'⟩ := sortedHeap_at (out := (arrOf st').map (·.2)) hoL
  have hlen : (ys.map V.str).length ≤ sizeLine := by rw [List.length_map, h2.length_eq, List.length_map, ← hl]; exact hz
  refine ⟨.ref _, upd H s'.heap.objs.size (.lst (ys.map V.str)), I2.laid (t' := s'.toks) (fun b o e' => ?_) (Nat.le_refl _) ⟨hlen, _, ep, vals_of_strs h1, he'⟩, rfl, q ys _ h2 h3 (I2.hok.fresh (Nat.le_refl _))⟩
  have lt := Heap.lt_size e'
  rw [sortedHeap_old (Nat.ne_of_lt lt) (by rw [size_push']; exact Nat.lt_succ_of_lt lt)]
  exact Heap.get?_push_of_some _ e'
end
/-! ### len(set(text)) -/
def rLenSetX (P : Program) (w : World) : List V → Hp → VK → Prop := fun xs H Q => ∃ (a : Addr) (l : List Str), xs = [.ref a] ∧ H a = some (SetXO P w a l) ∧ l.length < 64 ∧ Q (.int (l.length : Int)) H
theorem call_lenSetX {X : Cx} : CallR X (.builtin "len") (rLenSetX X.prog X.w) := by
  intro pins s σ H xs us Q I r h
  obtain ⟨a, l, rfl, ha, hl, q⟩ := h
  obtain ⟨u, rfl, ru⟩ := vals1 r
  cases ru
  obtain ⟨⟨D, ho, F, _⟩, _⟩ := (show ObjOk X.prog X.w H s.heap a (SetXO X.prog X.w a l) from I.hok a _ ha)
  have hz := F.sz
  refine PySem.call_len_set (es := D.1) (ep := D.2.1) (t := D.2.2) ho ⟨rfl, rfl, rfl⟩ rfl F.fit (by omega) ⟨.int (l.length : Int), H, I.kept (fun _ _ e => e), ⟨_, by rw [hz]⟩, q⟩
theorem nodup_le {α : Type} [DecidableEq α] : ∀ {l m : List α}, l.Nodup → (∀ x ∈ l, x ∈ m) → l.length ≤ m.length
  | [], m, _, _ => Nat.zero_le _
  | x :: l, m, nd, h => by
    obtain ⟨n1, n2⟩ := List.nodup_cons.mp nd
    have hx := h x List.mem_cons_self
    have := nodup_le (l := l) (m := m.erase x) n2 fun y hy => (List.mem_erase_of_ne (fun z : y = x => n1 (z ▸ hy))).mpr (h y (List.mem_cons_of_mem _ hy))
    rw [List.length_erase_of_mem hx] at this
    have : 0 < m.length := List.length_pos_of_mem hx
    rw [List.length_cons]
    omega
theorem setx_len {cs : List Nat} {l : List Str} (nd : l.Nodup) (mem : ∀ y, y ∈ l ↔ y ∈ cs.map ch) : decide ((l.length : Int) = (cs.length : Int)) = decide cs.Nodup := by
  have inj : (cs.map ch).Nodup ↔ cs.Nodup := by
    unfold List.Nodup
    rw [List.pairwise_map]
    exact ⟨fun h => h.imp fun hne e => hne (by rw [e]), fun h => h.imp fun hne e => hne (ch_inj e)⟩
  by_cases h : cs.Nodup
  · have p : (cs.map ch).Perm l := by
      have hn := inj.mpr h
      exact (perm_of_sub (cs.map ch) l hn (fun y hy => (mem y).mpr hy) (nodup_le nd fun y hy => (mem y).mp hy)).symm
    have := p.length_eq
    rw [List.length_map] at this
    rw [decide_eq_true h, decide_eq_true (by omega)]
  · rw [decide_eq_false h, decide_eq_false]
    intro e
    have e : l.length = cs.length := by omega
    have p := perm_of_sub l (cs.map ch) nd (fun y hy => (mem y).mp hy) (by rw [List.length_map]; omega)
    exact h (inj.mp (p.nodup_iff.mpr nd))
/-! ### has_different_letters -/
def isL (c : Nat) : Bool := decide (97 ≤ c) && decide (c ≤ 122)
def hdl : PyData → Bool
  | .str x => (decide (1 ≤ x.length) && decide (x.length ≤ 12)) && (x.cps.toList.all isL && decide x.cps.toList.Nodup)
  | _ => false
def spHdl : Sp := fun vs H Q _ => ∃ (D : Deck) (v : V) (d : PyData), vs = [v] ∧ DQ D H v d ∧ gd d = true ∧ ∀ H', Same H H' → Q (.bl (hdl d)) H'
section
variable {P : Program} {w : World} {K : PySem.W.Frag} {mg : Str → Option Value} {base : Heap} {f : Addr} {fd : FuncData}
theorem ok_hdl {tM : Tok} (F : Fun K "has_different_letters" "has_different_letters" s_has_different_letters f fd) (M : Mgs mg) (hset : mg "set" = none) (mMAX : mg "MAX_NODES" = some (.int 12 tM)) (Dis_letter : Df P w K mg base 1 "is_letter" ["value"] spLetter) : FnOk P w K mg base CX0 2 f fd ["value"] spHdl := by
  refine F.ok (k := 1) sc_has_different_letters (fun vs H Q E h => ?_) (fun cdv A outer s H vs Q E hr h => ?_)
  · obtain ⟨D, v, d, rfl, _⟩ := h
    rfl
  obtain ⟨D, v, d, rfl, hd, g, q⟩ := h
  refine ⟨_, (pss_cons (ps_if (PW.pt (pw_or (pt_not (pt_val (pe_callB call_isi rfl M.isinstance (by decide +kernel) (pa_cons (pv 0) (pa_cons (pe_bltn (v := .ty "str") rfl M.str (by decide +kernel) rfl) pa_nil))))) (pw_or1 (pt_not (pt_chain op_le op_le pe_int (pe_callB call_len_str rfl M.len PySem.boot_len (pa_cons (pv 0) pa_nil)) (pe_glob (v := .int _) rfl mMAX ⟨_, rfl⟩))))))
      (pss_one (ps_ret pe_bl)) pss_nil)
    (pss_one (ps_ret (pe_and (pe_callB (cr_all rfl) rfl M.all (by decide +kernel) (pa_cons (pe_lc (own := [("sign", 1)]) (g := gName 1) (tt := tYes) rfl sc_has_different_letters.nd (pi_str (pv 0)) (blkOk_by (N := ["value", "sign"]) (sc := defScope s_has_different_letters) (by decide +kernel)) (fun _ _ _ _ _ => (pg_name (i := 1) sc_has_different_letters.nd rfl (.inl rfl))) (fun _ _ _ _ _ => pts_nil) (fun _ _ _ _ _ => (pe_call Dis_letter.ok (hr.mono (by omega)) rfl Dis_letter.g Dis_letter.kp Dis_letter.b .nil pass0 (pa_cons (pv 1) pa_nil)))) pa_nil)) (pe_one (pe_cmpR op_eq (pe_callB call_lenSetX rfl M.len PySem.boot_len (pa_cons (pe_callTy (cr_setX rfl) rfl hset (by decide +kernel) (pa_cons (pv 0) pa_nil)) pa_nil)) (pe_callB call_len_str rfl M.len PySem.boot_len (pa_cons (pv 0) pa_nil)) (nomark _))))))), ?_⟩
  refine ⟨_, rfl, _, _, _, _, isStrD d, rfl, .ty _, dq_ty hd, kit_ty (kit_str d), _, rfl, ?_⟩
  cases hd with
  | @str x =>
    refine iteF ?_
    have gl := gd_str g
    obtain ⟨l, rfl⟩ : ∃ l, x = tx l := ⟨x.cps.toList, rfl⟩
    have hl : l.length ≤ 90 := gl.1
    have lz : (tx l).length ≤ sizeLine := by rw [tx_len]; exact small (by omega)
    have q : ∀ H', Same H H' → Q (.bl ((decide (1 ≤ l.length) && decide (l.length ≤ 12)) && (l.all isL && decide l.Nodup))) H' := q
    refine ⟨_, rfl, tx l, rfl, lz, _, _, rfl, rfl, _, rfl, ?_⟩
    rw [tx_len]
    by_cases h1 : 1 ≤ l.length
    · rw [decide_eq_true (show (1 : Int) ≤ (l.length : Int) by omega)]
      refine iteT ⟨_, _, rfl, rfl, _, rfl, ?_⟩
      by_cases h2 : l.length ≤ 12
      · rw [decide_eq_true (show (l.length : Int) ≤ 12 by omega)]
        refine iteF ?_
        rw [decide_eq_true h1, decide_eq_true h2] at q
        refine ⟨_, rfl, _, rfl, fun G nG => ?_⟩
        refine lc_text (x := tx l) (fun i H' => Same H H' ∧ H' G = some (.lst (((l.take i).map isL).map V.bl))) ⟨same_new nG _, upd_same⟩ (fun i c H1 hc hq => ?_) (fun H1 hq => ?_)
        · obtain ⟨s1, e1⟩ := hq
          rw [tx_cps] at hc
          refine ⟨rfl, kept ?_⟩
          refine ⟨_, rfl, c, rfl, _, e1, ?_, fun b u e => ?_, ?_⟩
          · rw [List.length_map, List.length_map, List.length_take]; exact small1000 (by omega)
          · rw [upd_ne (ne_of_none e nG)]; exact s1 _ _ e
          · rw [upd_same, take_nextG hc, List.map_append, List.map_append]; rfl
        · obtain ⟨s1, e1⟩ := hq
          rw [tx_cps, List.take_length] at e1
          refine ⟨G, _, rfl, SqL.of e1, ?_⟩
          have ea : (l.map isL).all id = l.all isL := by rw [List.all_map]; rfl
          rw [ea]
          refine ⟨_, rfl, ?_⟩
          cases hb : l.all isL with
          | false =>
            rw [hb] at q
            exact iteF (q _ s1)
          | true =>
            rw [hb] at q
            refine iteT ?_
            refine ⟨_, rfl, l, rfl, by omega, fun a ss na nd mem ml => ?_⟩
            have k2 := same_new na (SetXO P w a ss)
            refine ⟨a, ss, rfl, upd_same, ml, _, rfl, tx l, rfl, lz, rfl, ?_⟩
            have := q _ (s1.trans k2)
            rw [← setx_len nd mem] at this
            have ev : decide (V.int (ss.length : Int) = V.int ((tx l).length : Int)) = decide ((ss.length : Int) = (l.length : Int)) := by
              rw [tx_len]
              by_cases h : (ss.length : Int) = (l.length : Int)
              · rw [h, decide_eq_true rfl, decide_eq_true rfl]
              · rw [decide_eq_false h, decide_eq_false (fun z => h (V.int.inj z))]
            rw [ev]
            exact this
      · rw [decide_eq_false (show ¬ (l.length : Int) ≤ 12 by omega)]
        rw [decide_eq_false h2, Bool.and_false, Bool.false_and] at q
        exact iteT (q _ (Same.refl _))
    · rw [decide_eq_false (show ¬ (1 : Int) ≤ (l.length : Int) by omega)]
      rw [decide_eq_false h1, Bool.false_and, Bool.false_and] at q
      exact iteF ⟨_, rfl, iteT (q _ (Same.refl _))⟩
  | _ => exact iteT (q _ (Same.refl _))
end
/-! ### sorted texts; is_pair, _law_is_text, _law_due -/
theorem risingS_ch : ∀ (p : Nat) (l : List Nat), risingS (ch p) (l.map ch) = true → (p :: l).Pairwise (· ≤ ·)
  | p, [], _ => List.pairwise_singleton _ _
  | p, c :: l, h => by
    have h : (!ltCps (ch c).cps.toList (ch p).cps.toList && risingS (ch c) (l.map ch)) = true := h
    rw [Bool.and_eq_true] at h
    have h2 := risingS_ch c l h.2
    have h1 : p ≤ c := by
      have := h.1
      rw [ltCps_eq, ch_lt] at this
      have : ¬ c < p := by simpa using this
      omega
    refine List.pairwise_cons.mpr ⟨fun d hd => ?_, h2⟩
    rcases List.mem_cons.mp hd with rfl | hd
    · exact h1
    · exact Nat.le_trans h1 ((List.pairwise_cons.mp h2).1 d hd)
theorem sortedS_ch : ∀ {l : List Nat}, sortedS (l.map ch) = true → l.Pairwise (· ≤ ·)
  | [], _ => .nil
  | p :: l, h => risingS_ch p l h
theorem eq_of_perm : ∀ {l z : List Nat}, l.Pairwise (· ≤ ·) → z.Pairwise (· ≤ ·) → l.Perm z → l = z
  | [], _, _, _, p => (List.nil_perm.mp p).symm
  | _ :: _, [], _, _, p => absurd p.length_eq (by simp)
  | a :: l, b :: z, hl, hz, p => by
    obtain ⟨l1, l2⟩ := List.pairwise_cons.mp hl
    obtain ⟨z1, z2⟩ := List.pairwise_cons.mp hz
    have e : a = b := by
      rcases List.mem_cons.mp (p.mem_iff.mp List.mem_cons_self) with e | e
      · exact e
      · rcases List.mem_cons.mp (p.mem_iff.mpr (List.mem_cons_self (a := b) (l := z))) with e' | e'
        · exact e'.symm
        · have := l1 b e'
          have := z1 a e
          omega
    subst e
    rw [eq_of_perm l2 z2 ((List.perm_cons a).mp p)]
/-- the signs of a sorted text -/
theorem signs_of {cs : List Nat} {ys : List Str} (p : ys.Perm (cs.map ch)) (so : sortedS ys = true) : ∃ zs : List Nat, ys = zs.map ch ∧ zs.Perm cs ∧ zs.Pairwise (· ≤ ·) := by
  have hx : ∃ zs : List Nat, ys = zs.map ch := by
    have : ∀ y ∈ ys, ∃ c, y = ch c := fun y hy => by
      obtain ⟨c, _, e⟩ := List.mem_map.mp (p.mem_iff.mp hy)
      exact ⟨c, e.symm⟩
    clear p so
    induction ys with
    | nil => exact ⟨[], rfl⟩
    | cons y ys ih =>
      obtain ⟨c, rfl⟩ := this y List.mem_cons_self
      obtain ⟨zs, rfl⟩ := ih fun y hy => this y (List.mem_cons_of_mem _ hy)
      exact ⟨c :: zs, rfl⟩
  obtain ⟨zs, rfl⟩ := hx
  refine ⟨zs, rfl, ?_, sortedS_ch so⟩
  have h := p.map (fun y : Str => y.cps.toList.headD 0)
  rw [List.map_map, List.map_map] at h
  have e : ∀ l : List Nat, l.map ((fun y : Str => y.cps.toList.headD 0) ∘ ch) = l := fun l => by
    conv => rhs; rw [← List.map_id l]
    rfl
  rwa [e, e] at h
theorem sorted_same {a b : List Nat} {ys zs : List Str} (p1 : ys.Perm (a.map ch)) (s1 : sortedS ys = true) (p2 : zs.Perm (b.map ch)) (s2 : sortedS zs = true) : ys = zs ↔ a.Perm b := by
  obtain ⟨us, rfl, pu, su⟩ := signs_of p1 s1
  obtain ⟨vs, rfl, pv, sv⟩ := signs_of p2 s2
  constructor
  · intro e
    have e2 : us = vs := by
      have h := congrArg (List.map fun y : Str => y.cps.toList.headD 0) e
      rw [List.map_map, List.map_map] at h
      have e : ∀ l : List Nat, l.map ((fun y : Str => y.cps.toList.headD 0) ∘ ch) = l := fun l => by
        conv => rhs; rw [← List.map_id l]
        rfl
      rwa [e, e] at h
    exact pu.symm.trans (by rw [e2]; exact pv)
  · intro h
    rw [eq_of_perm su sv (pu.trans (h.trans pv.symm))]
/-! ### is_pair, _law_is_text, _law_due -/
def dS (l : List Nat) : PyData := .list (l.map fun c => .str (ch c))
theorem eqv_dS : ∀ a b : List Nat, PyData.eqvAll (a.map fun c => .str (ch c)) (b.map fun c => .str (ch c)) = decide (a = b)
  | [], [] => rfl
  | [], _ :: _ => rfl
  | _ :: _, [] => rfl
  | x :: a, y :: b => by
    have ih := eqv_dS a b
    show ((ch x == ch y) && PyData.eqvAll _ _) = _
    rw [ih]
    by_cases h : x = y
    · subst h
      rw [beq_self_eq_true, Bool.true_and]
      congr 1
      simp
    · rw [beq_eq_false_iff_ne.mpr (fun z => h (ch_inj z)), Bool.false_and, decide_eq_false]
      intro z
      exact h (List.cons.inj z).1
theorem ch_ok {c : Nat} (h : 97 ≤ c ∧ c ≤ 122) : (PyData.str (ch c)).canLay0 = true := by
  have : ∀ c : Nat, c < 123 → 97 ≤ c → (PyData.str (ch c)).canLay0 = true := by decide +kernel
  exact this c (by omega) h.1
theorem shaped_dS {l : List Nat} (h : ∀ c ∈ l, 97 ≤ c ∧ c ≤ 122) : SeqAt.shaped (dS l) = true := by
  have h1 : ∀ l : List Nat, (∀ c ∈ l, 97 ≤ c ∧ c ≤ 122) → PyData.canLayAll0 (l.map fun c => .str (ch c)) = true := by
    intro l
    induction l with
    | nil => intro _; rfl
    | cons x r ih =>
      intro h
      show ((PyData.str (ch x)).canLay0 && PyData.canLayAll0 _) = true
      rw [ch_ok (h x List.mem_cons_self), ih fun c hc => h c (List.mem_cons_of_mem _ hc)]
      rfl
  have h2 : ∀ l : List Nat, PyData.depthAll (l.map fun c => .str (ch c)) = 0 := by
    intro l
    induction l with
    | nil => rfl
    | cons x r ih =>
      show max 0 (PyData.depthAll _) = 0
      rw [ih]
      rfl
  unfold SeqAt.shaped
  rw [show (dS l).canLay0 = true from h1 l h, show (dS l).depth = 1 from congrArg (· + 1) (h2 l)]
  rfl

theorem dp_chs {K : PySem.W.Frag} {H : Hp} : ∀ l : List Nat, DpAll K H ((l.map ch).map V.str) (l.map fun c => .str (ch c))
  | [] => .nil
  | c :: l => .cons (.str _) (dp_chs l)
theorem hdl_str {d : PyData} (h : hdl d = true) : ∃ l : List Nat, d = .str (tx l) ∧ 1 ≤ l.length ∧ l.length ≤ 12 ∧ (∀ c ∈ l, 97 ≤ c ∧ c ≤ 122) ∧ l.Nodup := by
  cases d with
  | str x =>
    have h : ((decide (1 ≤ x.length) && decide (x.length ≤ 12)) && (x.cps.toList.all isL && decide x.cps.toList.Nodup)) = true := h
    rw [Bool.and_eq_true, Bool.and_eq_true, Bool.and_eq_true, decide_eq_true_eq, decide_eq_true_eq, decide_eq_true_eq, List.all_eq_true] at h
    refine ⟨x.cps.toList, rfl, h.1.1, h.1.2, fun c hc => ?_, h.2.2⟩
    have := h.2.1 c hc
    unfold isL at this
    rwa [Bool.and_eq_true, decide_eq_true_eq, decide_eq_true_eq] at this
  | _ => exact absurd h Bool.false_ne_true
def pm2 : PyData → PyData → Bool
  | .str x, .str y => x.cps.toList.isPerm y.cps.toList
  | _, _ => false
def pB : PyData → Bool
  | .tuple [a, b] => hdl a && (hdl b && pm2 a b)
  | _ => false
theorem dq_two {D : Deck} {H : Hp} {xs : List V} {ds : List PyData} (al : DQAll D H xs ds) (h : xs.length = 2) : ∃ u w a b, xs = [u, w] ∧ ds = [a, b] ∧ DQ D H u a ∧ DQ D H w b := by
  cases al with
  | nil => cases h
  | cons h1 al => cases al with
    | nil => cases h
    | cons h2 al => cases al with
      | nil => exact ⟨_, _, _, _, rfl, rfl, h1, h2⟩
      | cons _ _ => simp at h
theorem pB_not {ds : List PyData} (h : ds.length ≠ 2) : pB (.tuple ds) = false := by
  match ds, h with
  | [], _ => rfl
  | [_], _ => rfl
  | [_, _], h => exact absurd rfl h
  | _ :: _ :: _ :: _, _ => rfl
def spIsPair : Sp := fun vs H Q _ => ∃ (D : Deck) (v : V) (d : PyData), vs = [v] ∧ DQ D H v d ∧ gd d = true ∧ ∀ H', Same H H' → Q (.bl (pB d)) H'
section
variable {P : Program} {w : World} {K : PySem.W.Frag} {mg : Str → Option Value} {base : Heap} {f : Addr} {fd : FuncData}
theorem sorted_eq {H : Hp} {a b : List Nat} {ys zs : List Str} {p r : Addr} (la : ∀ c ∈ a, 97 ≤ c ∧ c ≤ 122) (lb : ∀ c ∈ b, 97 ≤ c ∧ c ≤ 122) (p1 : ys.Perm (a.map ch)) (s1 : sortedS ys = true) (p2 : zs.Perm (b.map ch)) (s2 : sortedS zs = true)
    (h1 : SqL K H p (ys.map V.str)) (h2 : SqL K H r (zs.map V.str)) {Q : VK} (q : Q (.bl (a.isPerm b)) H) : rEqD K (.ref p) (.ref r) H Q := by
  obtain ⟨us, e1, pu, su⟩ := signs_of p1 s1
  obtain ⟨vs, e2, pv, sv⟩ := signs_of p2 s2
  have hs := sorted_same p1 s1 p2 s2
  rw [e1] at h1 hs
  rw [e2] at h2 hs
  refine ⟨dS us, dS vs, .lst h1 (dp_chs us), .lst h2 (dp_chs vs), shaped_dS (fun c hc => la c (pu.mem_iff.mp hc)), shaped_dS (fun c hc => lb c (pv.mem_iff.mp hc)), ?_⟩
  have e : PyData.eqv (dS us) (dS vs) = a.isPerm b := by
    refine (eqv_dS us vs).trans ?_
    have inj : us.map ch = vs.map ch ↔ us = vs := by
      constructor
      · intro h
        have h := congrArg (List.map fun y : Str => y.cps.toList.headD 0) h
        rw [List.map_map, List.map_map] at h
        have e : ∀ l : List Nat, l.map ((fun y : Str => y.cps.toList.headD 0) ∘ ch) = l := fun l => by
          conv => rhs; rw [← List.map_id l]
          rfl
        rwa [e, e] at h
      · intro h; rw [h]
    rw [inj] at hs
    by_cases h : a.Perm b
    · rw [decide_eq_true (hs.mpr h), List.isPerm_iff.mpr h]
    · rw [decide_eq_false (fun z => h (hs.mp z))]
      cases e : a.isPerm b with
      | false => rfl
      | true => exact absurd (List.isPerm_iff.mp e) h
  rw [e]
  exact q
theorem ok_isPair (F : Fun K "is_pair" "is_pair" s_is_pair f fd) (M : Mgs mg) (Dhas_different_letters : Df P w K mg base 2 "has_different_letters" ["value"] spHdl) : FnOk P w K mg base CX0 3 f fd ["value"] spIsPair := by
  refine F.ok (k := 2) sc_is_pair (fun vs H Q E h => ?_) (fun cdv A outer s H vs Q E hr h => ?_)
  · obtain ⟨D, v, d, rfl, _⟩ := h
    rfl
  obtain ⟨D, v, d, rfl, hd, g, q⟩ := h
  refine ⟨_, (pss_cons (ps_if (PW.pt (pw_or (pt_not (pt_val (pe_callB call_isi rfl M.isinstance (by decide +kernel) (pa_cons (pv 0) (pa_cons (pe_bltn (v := .ty "tuple") rfl M.tuple (by decide +kernel) rfl) pa_nil))))) (pw_or1 (pt_cmpR op_ne (pe_callB call_len_seq rfl M.len PySem.boot_len (pa_cons (pv 0) pa_nil)) pe_int (nomark _)))))
      (pss_one (ps_ret pe_bl)) pss_nil)
    (pss_cons (ps_asg (pv 0) (pg_tup rfl (pgs_cons (pg_name (i := 1) sc_is_pair.nd rfl (.inl rfl)) (pgs_cons (pg_name (i := 2) sc_is_pair.nd rfl (.inl rfl)) pgs_nil))))
    (pss_one (ps_ret (pe_and (pe_call Dhas_different_letters.ok (hr.mono (by omega)) rfl Dhas_different_letters.g Dhas_different_letters.kp Dhas_different_letters.b .nil pass0 (pa_cons (pv 1) pa_nil)) (pe_and (pe_call Dhas_different_letters.ok (hr.mono (by omega)) rfl Dhas_different_letters.g Dhas_different_letters.kp Dhas_different_letters.b .nil pass0 (pa_cons (pv 2) pa_nil)) (pe_one (pe_cmpR (op_eqD hr.units) (pe_callB (cr_sortedTx rfl) rfl M.sorted (by decide +kernel) (pa_cons (pv 1) pa_nil)) (pe_callB (cr_sortedTx rfl) rfl M.sorted (by decide +kernel) (pa_cons (pv 2) pa_nil)) (nomark _))))))))), ?_⟩
  refine ⟨_, rfl, _, _, _, _, isTupD d, rfl, .ty _, dq_ty hd, kit_ty (kit_tup d), _, rfl, ?_⟩
  cases hd with
  | @tup a xs ds o e al =>
    refine iteF ?_
    have hl := dqAll_len al
    refine ⟨_, rfl, a, _, rfl, .inr (SqT.of e), rfl, _, rfl, ?_⟩
    by_cases h2 : xs.length = 2
    · refine iteNS (by rw [h2]; rfl) ?_
      obtain ⟨u, w', da, db, rfl, rfl, hu, hw⟩ := dq_two al h2
      simp only [Tw.gd, gds, Bool.and_eq_true] at g
      refine ⟨_, rfl, a, _, rfl, SqT.of e, rfl, _, _, rfl, _, _, rfl, rfl, ?_⟩
      have q : ∀ H', Same H H' → Q (.bl (hdl da && (hdl db && pm2 da db))) H' := q
      refine ⟨_, rfl, D, u, da, rfl, hu, g.1, fun H1 s1 => ⟨_, rfl, ?_⟩⟩
      cases h1 : hdl da with
      | false =>
        rw [h1] at q
        exact iteF (q _ s1)
      | true =>
        rw [h1] at q
        refine iteT ?_
        refine ⟨_, rfl, D, w', db, rfl, dq_same s1 hw, g.2.1, fun H2 s2 => ⟨_, rfl, ?_⟩⟩
        have s12 := s1.trans s2
        cases h3 : hdl db with
        | false =>
          rw [h3] at q
          exact iteF (q _ s12)
        | true =>
          rw [h3] at q
          refine iteT ?_
          obtain ⟨l1, rfl, a1, a2, a3, a4⟩ := hdl_str h1
          obtain ⟨l2, rfl, b1, b2, b3, b4⟩ := hdl_str h3
          cases hu
          cases hw
          refine ⟨_, rfl, tx l1, rfl, by rw [tx_len]; omega, fun ys p pe so np => ?_⟩
          have k3 := same_new np (.lst (ys.map V.str))
          refine ⟨_, rfl, tx l2, rfl, by rw [tx_len]; omega, fun zs r pe2 so2 nr => ?_⟩
          have k4 := same_new nr (.lst (zs.map V.str))
          exact sorted_eq a3 b3 pe so pe2 so2 (SqL.of (k4 _ _ upd_same)) (SqL.of upd_same) (q _ (s12.trans (k3.trans k4)))
    · rw [decide_eq_false (fun z => h2 (by have := V.int.inj z; omega))]
      have := q _ (Same.refl H)
      rw [pB_not (by omega)] at this
      exact iteT this
  | _ => exact iteT (q _ (Same.refl _))
end
/-! ### _law_is_text, _law_due, _law_renamed -/
theorem isL_mem (c : Nat) : decide (c ∈ (tx (List.range' 97 26)).cps.toList) = isL c := by
  rw [tx_cps]
  unfold isL
  by_cases h : 97 ≤ c ∧ c ≤ 122
  · rw [decide_eq_true h.1, decide_eq_true h.2, decide_eq_true]
    · rfl
    · rw [List.mem_range']
      exact ⟨c - 97, by omega, by omega⟩
  · rw [decide_eq_false]
    · by_cases h1 : 97 ≤ c
      · rw [decide_eq_true h1, decide_eq_false (fun h2 => h ⟨h1, h2⟩)]; rfl
      · rw [decide_eq_false h1]; rfl
    · intro z
      rw [List.mem_range'] at z
      obtain ⟨i, h1, h2⟩ := z
      exact h ⟨by omega, by omega⟩
theorem alph : Str.ofString "abcdefghijklmnopqrstuvwxyz" = tx (List.range' 97 26) := by decide +kernel
theorem nodup_cnt (l : List Nat) : l.Nodup ↔ ∀ c ∈ l, l.count c ≤ 1 := by
  constructor
  · intro h c _
    exact List.nodup_iff_count.mp h c
  · intro h
    refine List.nodup_iff_count.mpr fun c => ?_
    by_cases hc : c ∈ l
    · exact h c hc
    · rw [List.count_eq_zero.mpr hc]; exact Nat.zero_le _
theorem bool_eq' {p q : Bool} (h : p = true ↔ q = true) : p = q := by
  cases p <;> cases q <;> simp_all
def badL (l : List Nat) (c : Nat) : Bool := !isL c || decide (1 < l.count c)
theorem good_text (l : List Nat) : (l.filter (badL l)).isEmpty = (l.all isL && decide l.Nodup) := by
  have h : (l.filter (badL l)).isEmpty = true ↔ (l.all isL && decide l.Nodup) = true := by
    rw [List.isEmpty_iff, List.filter_eq_nil_iff, Bool.and_eq_true, List.all_eq_true, decide_eq_true_eq, nodup_cnt]
    constructor
    · intro h
      refine ⟨fun c hc => ?_, fun c hc => ?_⟩
      · have := h c hc
        unfold badL at this
        cases e : isL c with
        | true => rfl
        | false => rw [e] at this; exact absurd rfl this
      · have := h c hc
        unfold badL at this
        by_cases z : 1 < l.count c
        · rw [decide_eq_true z, Bool.or_true] at this; exact absurd rfl this
        · omega
    · rintro ⟨h1, h2⟩ c hc z
      unfold badL at z
      rw [h1 c hc, decide_eq_false (by have := h2 c hc; omega)] at z
      cases z
  exact bool_eq' h
/-! ### children_of, _law_children -/
theorem op_eqL {X : Cx} (hu : X.A.units < cLine) : OpR X (compareOp .Eq) (fun x y H Q => ∃ a b xs, x = .ref a ∧ y = .ref b ∧ SqL X.K H a xs ∧ SqL X.K H b [] ∧ Q (.bl xs.isEmpty) H) := by
  intro pins s σ H x y v u Q I rx ry h
  obtain ⟨a, b, xs, rfl, rfl, hx, hy, q⟩ := h
  cases rx
  cases ry
  obtain ⟨its, r1, t1, _⟩ := I.list hx
  obtain ⟨its2, r2, t2, _⟩ := I.list hy
  cases r2
  cases r1 with
  | nil =>
    have rc := SeqAt.RcAt.lists (A := X.A) (s := s) (items := ([] : List Value).toArray) (items2 := ([] : List Value).toArray) (e := fun _ => true) t1.isList t2.isList rfl hu (fun j h1 _ => absurd h1 (by simp))
    exact rc X.prog X.w X.xe _ ⟨.bl _, H, I, rfl, q⟩
  | cons _ _ =>
    have rc := SeqAt.RcAt.lists_lengths (A := X.A) (s := s) t1.isList t2.isList (by simp) hu
    exact rc X.prog X.w X.xe _ ⟨.bl _, H, I, rfl, q⟩
def rEqNil (K : PySem.W.Frag) : V → V → Hp → VK → Prop := fun x y H Q => ∃ a b xs, x = .ref a ∧ y = .ref b ∧ SqL K H a xs ∧ SqL K H b [] ∧ Q (.bl xs.isEmpty) H
theorem filt_next {α : Type} {l : List α} {i : Nat} {c : α} (p : α → Bool) (h : l[i]? = some c) : (l.take (i + 1)).filter p = (l.take i).filter p ++ (if p c = true then [c] else []) := by
  rw [take_nextG h, List.filter_append, List.filter_cons, List.filter_nil]
theorem cnt_count (c : Nat) : ∀ L : List Nat, PyProof.Rows.cnt c L = ((L.count c : Nat) : Int)
  | [] => PyProof.Rows.cnt_nil c
  | d :: L => by
    rw [PyProof.Rows.cnt_cons, cnt_count c L, List.count_cons]
    by_cases h : d = c
    · subst h
      rw [if_pos rfl, if_pos (beq_self_eq_true d)]; omega
    · rw [if_neg h, if_neg (by simpa using h)]; omega
section
variable {P : Program} {w : World} {K : PySem.W.Frag} {mg : Str → Option Value} {base : Heap} {f : Addr} {fd : FuncData}
theorem ok_isText {k : Nat} (F : Fun K "_law_is_text" "_law_is_text" s__law_is_text f fd) (M : Mgs mg) : FnOk P w K mg base CX0 (k + 1) f fd ["_law_value"] spHdl := by
  refine F.ok (k := k) sc__law_is_text (fun vs H Q E h => ?_) (fun cdv A outer s H vs Q E hr h => ?_)
  · obtain ⟨D, v, d, rfl, _⟩ := h
    rfl
  obtain ⟨D, v, d, rfl, hd, g, q⟩ := h
  refine ⟨_, (pss_cons (ps_if (PW.pt (pw_or (pt_not (pt_val (pe_callB call_isi rfl M.isinstance (by decide +kernel) (pa_cons (pv 0) (pa_cons (pe_bltn (v := .ty "str") rfl M.str (by decide +kernel) rfl) pa_nil))))) (pw_or1 (pt_not (pt_chain op_le op_le pe_int (pe_callB call_len_str rfl M.len PySem.boot_len (pa_cons (pv 0) pa_nil)) pe_int)))))
      (pss_one (ps_ret pe_bl)) pss_nil)
    (pss_one (ps_ret (pe_cmpR (show OpR _ (compareOp .Eq) (rEqNil K) from op_eqL hr.units0) (pe_lc (own := [("_law_sign", 1)]) (g := gName 1) rfl sc__law_is_text.nd (pi_str (pv 0)) (blkOk_by (N := ["_law_value", "_law_sign"]) (sc := defScope s__law_is_text) (by decide +kernel)) (fun _ _ _ _ _ => (pg_name (i := 1) sc__law_is_text.nd rfl (.inl rfl))) (fun _ _ _ _ _ => pts_one (PW.pt (pw_or (pt_cmpR op_notIn_str (pv 1) pe_str (by rfl)) (pw_or1 (pt_cmpR op_gt (show PE _ _ (tBM K _ _ _ _) from pe_bm PySem.F.plainAttrs_str PySem.F.slot_str_count PySem.F.type_str_count mt_count (pv 0) (pa_cons (pv 1) pa_nil)) pe_int (nomark _)))))) (fun _ _ _ _ _ => (pv 1))) (pe_lst pa_nil) (nomark _))))), ?_⟩
  refine ⟨_, rfl, _, _, _, _, isStrD d, rfl, .ty _, dq_ty hd, kit_ty (kit_str d), _, rfl, ?_⟩
  cases hd with
  | @str x =>
    refine iteF ?_
    have gl := gd_str g
    obtain ⟨l, rfl⟩ : ∃ l, x = tx l := ⟨x.cps.toList, rfl⟩
    have hl : l.length ≤ 90 := gl.1
    have lz : (tx l).length ≤ sizeLine := by rw [tx_len]; exact small (by omega)
    have q : ∀ H', Same H H' → Q (.bl ((decide (1 ≤ l.length) && decide (l.length ≤ 12)) && (l.all isL && decide l.Nodup))) H' := q
    refine ⟨_, rfl, tx l, rfl, lz, _, _, rfl, rfl, _, rfl, ?_⟩
    rw [tx_len]
    by_cases h1 : 1 ≤ l.length
    · rw [decide_eq_true (show (1 : Int) ≤ (l.length : Int) by omega)]
      refine iteT ⟨_, _, rfl, rfl, _, rfl, ?_⟩
      by_cases h2 : l.length ≤ 12
      · rw [decide_eq_true (show (l.length : Int) ≤ 12 by omega)]
        refine iteF ?_
        rw [decide_eq_true h1, decide_eq_true h2] at q
        refine ⟨_, rfl, _, rfl, fun G nG => ?_⟩
        refine lc_text (x := tx l) (fun i H' => Same H H' ∧ H' G = some (.lst (((l.take i).filter (badL l)).map vc))) ⟨same_new nG _, upd_same⟩ (fun i c H1 hc hq => ?_) (fun H1 hq => ?_)
        · obtain ⟨s1, e1⟩ := hq
          rw [tx_cps] at hc
          refine ⟨rfl, ?_⟩
          rw [filt_next _ hc]
          have put : badL l c = true → ∃ acc, H1 G = some (.lst acc) ∧ acc.length < sizeLine ∧ Same H (upd H1 G (.lst (acc ++ [vc c]))) ∧ (upd H1 G (.lst (acc ++ [vc c]))) G = some (.lst (((l.take i).filter (badL l) ++ if badL l c = true then [c] else []).map vc)) := fun hb => by
            refine ⟨_, e1, ?_, fun b u e => ?_, ?_⟩
            · rw [List.length_map]; exact small1000 (Nat.le_trans (List.length_filter_le _ _) (by rw [List.length_take]; omega))
            · rw [upd_ne (ne_of_none e nG)]; exact s1 _ _ e
            · rw [upd_same, if_pos hb, List.map_append]; rfl
          refine ⟨_, rfl, _, _, rfl, rfl, _, rfl, ?_⟩
          rw [alph, StrLaws.found_one, isL_mem]
          have eb : badL l c = (!isL c || decide (1 < l.count c)) := rfl
          cases hi : isL c with
          | false =>
            rw [hi] at eb
            exact iteT ⟨_, rfl, put eb⟩
          | true =>
            rw [hi] at eb
            refine iteF ?_
            refine ⟨_, rfl, rfl, _, rfl, tx l, ch c, rfl, rfl, _, _, rfl, rfl, _, rfl, ?_⟩
            have ec : Txt.count (tx l) (ch c) = ((l.count c : Nat) : Int) := by
              rw [show ch c = (⟨#[c]⟩ : Str) from rfl, PyProof.Rows.count_cnt, tx_cps, cnt_count]
            rw [ec]
            by_cases h3 : 1 < l.count c
            · rw [decide_eq_true h3] at eb
              rw [decide_eq_true (show (1 : Int) < ((l.count c : Nat) : Int) by omega)]
              exact iteT ⟨_, rfl, put eb⟩
            · rw [decide_eq_false h3] at eb
              rw [decide_eq_false (show ¬ (1 : Int) < ((l.count c : Nat) : Int) by omega)]
              refine iteF ⟨s1, ?_⟩
              rw [eb, e1]
              simp
        · obtain ⟨s1, e1⟩ := hq
          rw [tx_cps, List.take_length] at e1
          refine ⟨(by show 0 ≤ sizeLine; decide), fun z nz => ?_⟩
          have k2 := same_new nz (.lst [])
          refine ⟨G, z, _, rfl, rfl, SqL.of (k2 _ _ e1), SqL.of upd_same, ?_⟩
          have := q _ (s1.trans k2)
          rw [← good_text] at this
          have ee : ((l.filter (badL l)).map vc).isEmpty = (l.filter (badL l)).isEmpty := by cases l.filter (badL l) <;> rfl
          rw [ee]
          exact this
      · rw [decide_eq_false (show ¬ (l.length : Int) ≤ 12 by omega)]
        rw [decide_eq_false h2, Bool.and_false, Bool.false_and] at q
        exact iteT (q _ (Same.refl _))
    · rw [decide_eq_false (show ¬ (1 : Int) ≤ (l.length : Int) by omega)]
      rw [decide_eq_false h1, Bool.false_and, Bool.false_and] at q
      exact iteF ⟨_, rfl, iteT (q _ (Same.refl _))⟩
  | _ => exact iteT (q _ (Same.refl _))
theorem ok_due (F : Fun K "_law_due" "_law_due" s__law_due f fd) (M : Mgs mg) (D_law_is_text : Df P w K mg base 2 "_law_is_text" ["_law_value"] spHdl) : FnOk P w K mg base CX0 3 f fd ["_law_value"] spIsPair := by
  refine F.ok (k := 2) sc__law_due (fun vs H Q E h => ?_) (fun cdv A outer s H vs Q E hr h => ?_)
  · obtain ⟨D, v, d, rfl, _⟩ := h
    rfl
  obtain ⟨D, v, d, rfl, hd, g, q⟩ := h
  refine ⟨_, (pss_cons (ps_if (PW.pt (pw_or (pt_not (pt_val (pe_callB call_isi rfl M.isinstance (by decide +kernel) (pa_cons (pv 0) (pa_cons (pe_bltn (v := .ty "tuple") rfl M.tuple (by decide +kernel) rfl) pa_nil))))) (pw_or1 (pt_cmpR op_ne (pe_callB call_len_seq rfl M.len PySem.boot_len (pa_cons (pv 0) pa_nil)) pe_int (nomark _)))))
      (pss_one (ps_ret pe_bl)) pss_nil)
    (pss_one (ps_ret (pe_and (pe_call D_law_is_text.ok (hr.mono (by omega)) rfl D_law_is_text.g D_law_is_text.kp D_law_is_text.b .nil pass0 (pa_cons (pe_ix ix_tup (pv 0) pe_int (fun _ _ => rfl)) pa_nil)) (pe_and (pe_call D_law_is_text.ok (hr.mono (by omega)) rfl D_law_is_text.g D_law_is_text.kp D_law_is_text.b .nil pass0 (pa_cons (pe_ix ix_tup (pv 0) pe_int (fun _ _ => rfl)) pa_nil)) (pe_one (pe_cmpR (op_eqD hr.units) (pe_callB (cr_sortedTx rfl) rfl M.sorted (by decide +kernel) (pa_cons (pe_ix ix_tup (pv 0) pe_int (fun _ _ => rfl)) pa_nil)) (pe_callB (cr_sortedTx rfl) rfl M.sorted (by decide +kernel) (pa_cons (pe_ix ix_tup (pv 0) pe_int (fun _ _ => rfl)) pa_nil)) (nomark _)))))))), ?_⟩
  refine ⟨_, rfl, _, _, _, _, isTupD d, rfl, .ty _, dq_ty hd, kit_ty (kit_tup d), _, rfl, ?_⟩
  cases hd with
  | @tup a xs ds o e al =>
    refine iteF ?_
    have hl := dqAll_len al
    refine ⟨_, rfl, a, _, rfl, .inr (SqT.of e), rfl, _, rfl, ?_⟩
    by_cases h2 : xs.length = 2
    · refine iteNS (by rw [h2]; rfl) ?_
      obtain ⟨u, w', da, db, rfl, rfl, hu, hw⟩ := dq_two al h2
      simp only [Tw.gd, gds, Bool.and_eq_true] at g
      have q : ∀ H', Same H H' → Q (.bl (hdl da && (hdl db && pm2 da db))) H' := q
      refine ⟨_, rfl, a, _, _, _, rfl, rfl, SqT.of e, atI_nat (j := 0) rfl, D, u, da, rfl, hu, g.1, fun H1 s1 => ⟨_, rfl, ?_⟩⟩
      cases h1 : hdl da with
      | false =>
        rw [h1] at q
        exact iteF (q _ s1)
      | true =>
        rw [h1] at q
        refine iteT ?_
        refine ⟨_, rfl, a, _, _, _, rfl, rfl, SqT.of (s1 _ _ e), atI_nat (j := 1) rfl, D, w', db, rfl, dq_same s1 hw, g.2.1, fun H2 s2 => ⟨_, rfl, ?_⟩⟩
        have s12 := s1.trans s2
        cases h3 : hdl db with
        | false =>
          rw [h3] at q
          exact iteF (q _ s12)
        | true =>
          rw [h3] at q
          refine iteT ?_
          obtain ⟨l1, rfl, a1, a2, a3, a4⟩ := hdl_str h1
          obtain ⟨l2, rfl, b1, b2, b3, b4⟩ := hdl_str h3
          cases hu
          cases hw
          have e2 := s12 _ _ e
          refine ⟨_, rfl, a, _, _, _, rfl, rfl, SqT.of e2, atI_nat (j := 0) rfl, tx l1, rfl, by rw [tx_len]; omega, fun ys p pe so np => ?_⟩
          have k3 := same_new np (.lst (ys.map V.str))
          refine ⟨_, rfl, a, _, _, _, rfl, rfl, SqT.of (k3 _ _ e2), atI_nat (j := 1) rfl, tx l2, rfl, by rw [tx_len]; omega, fun zs r pe2 so2 nr => ?_⟩
          have k4 := same_new nr (.lst (zs.map V.str))
          exact sorted_eq a3 b3 pe so pe2 so2 (SqL.of (k4 _ _ upd_same)) (SqL.of upd_same) (q _ (s12.trans (k3.trans k4)))
    · rw [decide_eq_false (fun z => h2 (by have := V.int.inj z; omega))]
      have := q _ (Same.refl H)
      rw [pB_not (by omega)] at this
      exact iteT this
  | _ => exact iteT (q _ (Same.refl _))
end
/-! ### _law_renamed -/
def Ltt (t : B) : Prop := ∀ c ∈ t.pre, 97 ≤ c ∧ c ≤ 122
def spRen (N : Nat) : Sp := fun vs H Q _ => ∃ (D : Deck) (n : Nat) (v : V) (t : B), vs = [.ref D.dk, v] ∧ DeckOk H D n ∧ n + t.size ≤ 1000000 ∧ BAt H v t ∧ t.size < N ∧
  ∀ (v' : V) (t' : B) (H' : Hp), DeckOk H' D (n + t.size) → SameD D H H' → BAt H' v' t' → t'.size = t.size → Ltt t' → Q v' H'
theorem ch_x : Str.ofString "x" = ch 120 := by decide +kernel
theorem ch_y : Str.ofString "y" = ch 121 := by decide +kernel
section
variable {P : Program} {w : World} {K : PySem.W.Frag} {mg : Str → Option Value} {base : Heap} {f : Addr} {fd : FuncData}
theorem ok_ren (F : Fun K "_law_renamed" "_law_renamed" s__law_renamed f fd) (b : Binds K fd ["_law_spring_here", "_law_tree"] []) (g0 : mg "_law_renamed" = some (.ref f)) (M : Mgs mg) (D_law_one : Df P w K mg base 2 "_law_one" ["_law_spring_here", "_law_items"] spOne) :
    ∀ n : Nat, FnOk P w K mg base CX0 (n + 3) f fd ["_law_spring_here", "_law_tree"] (spRen n)
  | 0 => by
    have no : ∀ vs H Q E, ¬ spRen 0 vs H Q E := fun vs H Q E h => by
      obtain ⟨D, n, v, t, _, _, _, _, h1, _⟩ := h
      exact absurd h1 (Nat.not_lt_zero _)
    exact ⟨fun vs H Q E h => absurd h (no vs H Q E), fun A outer s H args us vs Q E _ _ _ _ h => absurd h (no vs H Q E)⟩
  | N + 1 => by
    have Dself : Df P w K mg base (N + 3) "_law_renamed" ["_law_spring_here", "_law_tree"] (spRen N) := ⟨f, fd, ok_ren F b g0 M D_law_one N, b, F.kp, g0⟩
    refine F.ok (k := N + 3) sc__law_renamed (fun vs H Q E h => ?_) (fun cdv A outer s H vs Q E hr h => ?_)
    · obtain ⟨D, n, v, t, rfl, _⟩ := h
      rfl
    obtain ⟨D, n, v, t, rfl, dk, hn, hv, hz, q⟩ := h
    refine ⟨_, (pss_cons (ps_if (pt_cmpR op_isN (pv 1) pe_non (nomark _))
      (pss_one (ps_ret pe_non)) pss_nil)
    (pss_one (ps_ret (pe_tup (pa_cons (pe_call Dself.ok (hr.mono (by omega)) rfl Dself.g Dself.kp Dself.b .nil pass0 (pa_cons (pv 0) (pa_cons (pe_ix ix_tup (pv 1) pe_int (fun _ _ => rfl)) pa_nil))) (pa_cons (pe_call D_law_one.ok (hr.mono (by omega)) rfl D_law_one.g D_law_one.kp D_law_one.b .nil pass0 (pa_cons (pv 0) (pa_cons (pe_lst (pa_cons pe_str (pa_cons pe_str pa_nil))) pa_nil))) (pa_cons (pe_call Dself.ok (hr.mono (by omega)) rfl Dself.g Dself.kp Dself.b .nil pass0 (pa_cons (pv 0) (pa_cons (pe_ix ix_tup (pv 1) pe_int (fun _ _ => rfl)) pa_nil))) pa_nil))))))), ?_⟩
    rcases hv.inv with ⟨rfl, rfl⟩ | ⟨a, l, r, x, tl, tr, rfl, rfl, ea, hl, hr'⟩
    · refine ⟨_, rfl, rfl, _, rfl, iteT ?_⟩
      exact q _ .nil H dk (SameD.refl _ _) .nil rfl (fun c h => by cases h)
    have sz : tl.size + 1 + tr.size < N + 1 := hz
    have sn : n + (tl.size + 1 + tr.size) ≤ 1000000 := hn
    refine ⟨_, rfl, rfl, _, rfl, iteF ?_⟩
    refine ⟨_, rfl, _, rfl, a, _, _, _, rfl, rfl, SqT.of ea, atI_nat (j := 0) rfl, D, n, l, tl, rfl, dk, by omega, hl, by omega, fun v1 t1 H1 d1 s1 h1 z1 l1 => ?_⟩
    refine ⟨_, rfl, (by show 2 ≤ sizeLine; decide), fun p np => ?_⟩
    have k2 := same_new np (.lst [.str "x", .str "y"])
    have d2 := d1.same k2
    refine ⟨D, _, p, _, rfl, d2, by omega, upd_same, d1.new np, (by show 0 < 2; decide), (by show 2 ≤ 1000; decide), fun i v2 H3 hv2 d3 s3 => ?_⟩
    obtain ⟨c, rfl, hc⟩ : ∃ c, v2 = .str (ch c) ∧ 97 ≤ c ∧ c ≤ 122 := by
      match i, hv2 with
      | 0, h => cases h; exact ⟨120, congrArg V.str ch_x, by decide, by decide⟩
      | 1, h => cases h; exact ⟨121, congrArg V.str ch_y, by decide, by decide⟩
    have s13 := (s1.trans (SameD.of k2)).trans s3
    have kT := s13.keepT dk
    refine ⟨_, rfl, _, rfl, a, _, _, _, rfl, rfl, SqT.of (kT _ _ ea), atI_nat (j := 2) rfl, D, _, r, tr, rfl, d3, by omega, hr'.keep kT, by omega, fun v3 t3 H4 d4 s4 h3 z3 l3 => ?_⟩
    refine ⟨(by show 3 ≤ sizeLine; decide), fun t nt => ?_⟩
    have k5 := same_new nt (.tup [v1, .str (ch c), v3])
    have kA := (h1.same k2).keep (s3.keepT d2)
    have kB := (kA.keep (s4.keepT d3)).same k5
    refine q (.ref t) (.node t1 c t3) _ ?_ (s13.trans (s4.trans (SameD.of k5))) (.node upd_same kB (h3.same k5)) ?_ ?_
    · have : n + tl.size + 1 + tr.size = n + (B.node tl x tr).size := by show _ = n + (tl.size + 1 + tr.size); omega
      rw [← this]
      exact d4.same k5
    · show t1.size + 1 + t3.size = tl.size + 1 + tr.size
      omega
    · intro e he
      rcases List.mem_cons.mp (show e ∈ c :: (t1.pre ++ t3.pre) from he) with rfl | he
      · exact hc
      · rcases List.mem_append.mp he with he | he
        · exact l1 e he
        · exact l3 e he
end
/-! ### law -/
theorem off_tup {D : Deck} {H : Hp} {n : Nat} (d : DeckOk H D n) {p : Addr} {xs : List V} (e : H p = some (.tup xs)) : Off D p := by
  obtain ⟨c, r, h1, h2, h3, _⟩ := d.ex
  exact ⟨ne_of e h1 (by intro z; cases z), ne_of e h2 (by intro z; cases z), ne_of e h3 (by intro z; cases z)⟩
theorem dq_pair {D : Deck} {H : Hp} {n : Nat} (d : DeckOk H D n) {p : Addr} {fr bk : List Nat} (e : H p = some (.tup [V.str (tx fr), V.str (tx bk)])) : DQ D H (.ref p) (.tuple [.str (tx fr), .str (tx bk)]) := .tup (off_tup d e) e (.cons (.str _) (.cons (.str _) .nil))
theorem dq_chs {D : Deck} {H : Hp} : ∀ l : List Nat, DQAll D H (l.map vc) (l.map fun c => .str (ch c))
  | [] => .nil
  | c :: l => .cons (.str _) (dq_chs l)
def AllG (D : Deck) (H : Hp) (xs : List V) : Prop := ∀ (i : Nat) (v : V), xs[i]? = some v → Gm D H 100000 7 17 v
theorem pick_all {D : Deck} {H : Hp} {xs : List V} {ds : List PyData} (al : DQAll D H xs ds) (h : ∀ d ∈ ds, gd d = true ∧ tm 17 d = true ∧ wt d ≤ 100000 ∧ d.depth ≤ 7) : AllG D H xs := fun i v hv => pick_good al h hv
theorem AllG.sameD {D : Deck} {H H' : Hp} {xs : List V} (h : AllG D H xs) (s : SameD D H H') : AllG D H' xs := fun i v e => (h i v e).sameD s
theorem AllG.app {D : Deck} {H : Hp} {xs ys : List V} (h : AllG D H xs) (g : AllG D H ys) : AllG D H (xs ++ ys) := fun i v e => by
  by_cases hi : i < xs.length
  · rw [List.getElem?_append_left hi] at e
    exact h i v e
  · rw [List.getElem?_append_right (by omega)] at e
    exact g _ v e
theorem AllG.two {D : Deck} {H : Hp} {u v : V} (h : Gm D H 100000 7 17 u) (g : Gm D H 100000 7 17 v) : AllG D H [u, v] := fun i x e => by
  match i, e with
  | 0, e => cases e; exact h
  | 1, e => cases e; exact g
theorem asc_l {l : List Nat} (h : Lts l) : ∀ c ∈ l, c < 128 := fun c hc => by have := h.2 c hc; omega
theorem chs_good : ∀ {l : List Nat}, (∀ c ∈ l, c < 128) → gds (l.map fun c => .str (ch c)) = true ∧ tms 17 (l.map fun c => .str (ch c)) = true ∧ wts (l.map fun c => .str (ch c)) = 904 * l.length ∧ PyData.depthAll (l.map fun c => .str (ch c)) = 0
  | [], _ => ⟨rfl, rfl, rfl, rfl⟩
  | c :: l, h => by
    obtain ⟨h1, h2, h3, h4⟩ := chs_good (l := l) fun d hd => h d (List.mem_cons_of_mem _ hd)
    have hc := (asc_tx (m := 17) (l := [c]) (by show 1 ≤ 17; decide) (fun d hd => by rw [List.mem_singleton.mp hd]; exact h c List.mem_cons_self)).gd (by decide)
    have hc : gd (.str (ch c)) = true ∧ tm 17 (.str (ch c)) = true := hc
    simp only [List.map_cons, gds, tms, wts, PyData.depthAll, hc.1, hc.2, h1, h2, h3, h4, wt, PyData.depth, List.length_cons, Bool.and_self, true_and]
    omega
theorem good14 {fr bk zs : List Nat} (lf : Lts fr) (lb : Lts bk) (lz : Lts zs) (hz : zs.length = 13) (f12 : fr.length ≤ 12) (bl : bk.length = fr.length) : ∀ d ∈ ([.tuple [.str (tx fr), .str (tx bk)], .tuple [.str (tx bk), .str (tx fr)], .tuple [.str (tx fr), .str (tx fr)], .tuple [.str (tx zs), .str (tx zs.reverse)], .list [.str (tx fr), .str (tx bk)], .tuple [.str (tx fr), .str (tx bk), .str (tx fr), .str (tx bk)], .tuple [.str (tx fr)], .str (tx fr), .tuple [.str (tx fr), .list (bk.map fun c => .str (ch c))], .tuple [.str (tx fr), .str (Txt.upper (tx bk))], .tuple [.str "", .str ""], .tuple [.str "aa", .str "aa"], .tuple [.str "a?", .str "?a"], .tuple [.str "ab", .str "bc"]] : List PyData), gd d = true ∧ tm 17 d = true ∧ wt d ≤ 100000 ∧ d.depth ≤ 7 := by
  have G : ∀ {k : List Nat}, k.length ≤ 17 → (∀ c ∈ k, c < 128) → gd (.str (tx k)) = true ∧ tm 17 (.str (tx k)) = true := fun h1 h2 => (asc_tx h1 h2).gd (by decide)
  have gf := G (k := fr) (by omega) (asc_l lf)
  have gb := G (k := bk) (by omega) (asc_l lb)
  have gz := G (k := zs) (by omega) (asc_l lz)
  have gr := G (k := zs.reverse) (by rw [List.length_reverse]; omega) (fun c hc => asc_l lz c (List.mem_reverse.mp hc))
  have gu := (up_asc (m := 17) (l := bk) (by omega) (asc_l lb)).gd (by decide)
  obtain ⟨k1, k2, k3, k4⟩ := chs_good (l := bk) (asc_l lb)
  intro d hd
  simp only [List.mem_cons, List.not_mem_nil, or_false] at hd
  rcases hd with rfl | rfl | rfl | rfl | rfl | rfl | rfl | rfl | rfl | rfl | rfl | rfl | rfl | rfl
  case inr.inr.inr.inr.inr.inr.inr.inl => exact ⟨gf.1, gf.2, by simp only [wt]; decide, by simp only [PyData.depth]; decide⟩
  all_goals (first
    | (refine ⟨by decide +kernel, by decide +kernel, by decide +kernel, by decide +kernel⟩; done)
    | (simp only [Tw.gd, gds, tm, tms, wt, wts, PyData.depth, PyData.depthAll, Bool.and_true] at gf gb gz gr gu ⊢
       simp only [gf.1, gf.2, gb.1, gb.2, gz.1, gz.2, gr.1, gr.2, gu.1, gu.2, k1, k2, k3, k4, Bool.and_self, true_and, and_true]
       omega)
    | (simp only [Tw.gd, gds, tm, tms, wt, wts, PyData.depth, PyData.depthAll, Bool.and_true] at gf gb gz gr gu ⊢
       simp only [gf.1, gf.2, gb.1, gb.2, gz.1, gz.2, gr.1, gr.2, gu.1, gu.2, k1, k2, k3, k4, Bool.and_self, true_and, and_true]
       decide))
theorem gd_tuple3 (a b c : PyData) : gd (.tuple [a, b, c]) = (gd a && (gd b && gd c)) := by simp only [Tw.gd, gds, Bool.and_true]
theorem tree_good : ∀ (t : B), (∀ c ∈ t.pre, 97 ≤ c ∧ c ≤ 122) → gd t.data = true ∧ wt t.data ≤ 1000 * t.size + 4 ∧ t.data.depth ≤ t.size
  | .nil, _ => ⟨rfl, by simp only [B.data, wt]; decide, Nat.le_refl _⟩
  | .node l x r, h => by
    obtain ⟨a1, a2, a3⟩ := tree_good l fun c hc => h c (List.mem_cons_of_mem _ (List.mem_append_left _ hc))
    obtain ⟨b1, b2, b3⟩ := tree_good r fun c hc => h c (List.mem_cons_of_mem _ (List.mem_append_right _ hc))
    have hx := h x List.mem_cons_self
    have gx := (asc_tx (m := 17) (l := [x]) (by show 1 ≤ 17; decide) (fun d hd => by rw [List.mem_singleton.mp hd]; omega)).gd (by decide)
    have gx : gd (.str (ch x)) = true ∧ tm 17 (.str (ch x)) = true := gx
    have sz : (B.node l x r).size = l.size + 1 + r.size := rfl
    simp only [B.data, gd_tuple3, wt, wts, PyData.depth, PyData.depthAll, a1, b1, gx.1, sz, Bool.and_self, true_and]
    omega
section
variable {P : Program} {w : World} {K : PySem.W.Frag} {mg : Str → Option Value} {base : Heap} {f : Addr} {fd : FuncData}
theorem run_law {s : Shared} {H : Hp} {a : Addr} {ns : List Int} (F : Fun K "law" "law" s_law f fd) (bd : BindsTo s fd ⟨[.ref a], []⟩ [("_law_script", .ref a)]) (en : Env0 P w K mg base callerA [] s H) (hS : SqL K H a (ns.map V.int))
    (M : Mgs mg) (D_law_spring : Df P w K mg base 1 "_law_spring" ["_law_script"] (spSpring K)) (D_law_letters : Df P w K mg base 19 "_law_letters" ["_law_spring_here", "_law_many"] spLetters) (D_law_pair : Df P w K mg base 21 "_law_pair" ["_law_spring_here", "_law_bound"] spPair)
    (D_law_drawn_tree : Df P w K mg base 20 "_law_drawn_tree" ["_law_spring_here", "_law_bound"] (spDrawnTree 18)) (D_law_front : Df P w K mg base 20 "_law_front" ["_law_tree"] (spFront 20)) (D_law_back : Df P w K mg base 20 "_law_back" ["_law_tree"] (spBack 20))
    (D_law_bent : Df P w K mg base 14 "_law_bent" ["_law_spring_here", "_law_value"] (spBent 10)) (D_law_odd : Df P w K mg base 3 "_law_odd" ["_law_spring_here"] spOdd) (D_law_renamed : Df P w K mg base 18 "_law_renamed" ["_law_spring_here", "_law_tree"] (spRen 15))
    (Dis_pair : Df P w K mg base 3 "is_pair" ["value"] spIsPair) (D_law_due : Df P w K mg base 3 "_law_due" ["_law_value"] spIsPair) (Dpair_of : Df P w K mg base 64 "pair_of" ["tree"] spPairOf) (D_law_same : Df P w K mg base 20 "_law_same" ["_law_found", "_law_due_here"] (spSame K 20)) :
    codeAny (model P w) callerA (.call (.ref f) ⟨[.ref a], []⟩) (CR CX0 [] P w H s (fun v _ => v = .bl true) fun _ _ _ => False) s := by
  refine enter_def (k := 66) (vs := [.ref a]) (us := [.ref a]) F sc_law ⟨rfl, by decide, by decide⟩ en bd (.cons rfl .nil) rfl fun cdv hr => ?_
  refine ⟨_, (pss_cons (ps_set (i := 1) sc_law.nd rfl (.inl rfl) (pe_call D_law_spring.ok (hr.mono (by omega)) rfl D_law_spring.g D_law_spring.kp D_law_spring.b .nil pass0 (pa_cons (pv 0) pa_nil)))
    (pss_cons (ps_for PassesOwn.never rfl (pi_range1 rfl M.range (pa_cons pe_int pa_nil)) (pg_name (i := 2) sc_law.nd rfl (.inl rfl))
      (pss_cons (ps_par (i := 3) (j := 4) (by rfl) sc_law.nd rfl rfl (by decide) rfl rfl (pa_cons (pe_call D_law_pair.ok (hr.mono (by omega)) rfl D_law_pair.g D_law_pair.kp D_law_pair.b .nil pass0 (pa_cons (pv 1) (pa_cons pe_int pa_nil))) (pa_cons (pe_call D_law_drawn_tree.ok (hr.mono (by omega)) rfl D_law_drawn_tree.g D_law_drawn_tree.kp D_law_drawn_tree.b .nil pass0 (pa_cons (pv 1) (pa_cons pe_int pa_nil))) pa_nil)) (by rfl))
    (pss_cons (ps_set (i := 5) sc_law.nd rfl (.inl rfl) (pe_call D_law_letters.ok (hr.mono (by omega)) rfl D_law_letters.g D_law_letters.kp D_law_letters.b .nil pass0 (pa_cons (pv 1) (pa_cons pe_int pa_nil))))
    (pss_cons (ps_set (i := 6) sc_law.nd rfl (.inl rfl) (pe_lst (pa_cons (pv 3) (pa_cons (pe_revT (pv 3)) (pa_cons (pe_tup (pa_cons (pe_ix ix_tup (pv 3) pe_int (fun _ _ => rfl)) (pa_cons (pe_ix ix_tup (pv 3) pe_int (fun _ _ => rfl)) pa_nil))) (pa_cons (pe_tup (pa_cons (pv 5) (pa_cons (pe_revS (pv 5)) pa_nil))) (pa_cons (pe_callTy call_list_of rfl M.list (by decide +kernel) (pa_cons (pv 3) pa_nil)) (pa_cons (pe_op op_catA (pv 3) (pv 3)) (pa_cons (pe_slice sl_tupA (pv 3) po_none (po_some pe_int)) pa_nil)))))))))
    (pss_cons (ps_set (i := 6) sc_law.nd rfl (.inl rfl) (pe_op op_cat (pv 6) (pe_lst (pa_cons (pe_ix ix_tup (pv 3) pe_int (fun _ _ => rfl)) (pa_cons (pe_tup (pa_cons (pe_ix ix_tup (pv 3) pe_int (fun _ _ => rfl)) (pa_cons (pe_callTy (call_signs rfl) rfl M.list (by decide +kernel) (pa_cons (pe_ix ix_tup (pv 3) pe_int (fun _ _ => rfl)) pa_nil)) pa_nil))) (pa_cons (pe_tup (pa_cons (pe_ix ix_tup (pv 3) pe_int (fun _ _ => rfl)) (pa_cons (pe_bm0 PySem.F.plainAttrs_str PySem.F.slot_str_upper PySem.F.type_str_upper mt_upper (pe_ix ix_tup (pv 3) pe_int (fun _ _ => rfl))) pa_nil))) pa_nil))))))
    (pss_cons (ps_set (i := 6) sc_law.nd rfl (.inl rfl) (pe_op op_cat (pv 6) (pe_lst (pa_cons (pe_tup (pa_cons pe_str (pa_cons pe_str pa_nil))) (pa_cons (pe_tup (pa_cons pe_str (pa_cons pe_str pa_nil))) (pa_cons (pe_tup (pa_cons pe_str (pa_cons pe_str pa_nil))) (pa_cons (pe_tup (pa_cons pe_str (pa_cons pe_str pa_nil))) pa_nil)))))))
    (pss_cons (ps_for PassesOwn.never rfl (pi_range1 rfl M.range (pa_cons pe_int pa_nil)) (pg_name (i := 7) sc_law.nd rfl (.inl rfl))
      (pss_cons (ps_set (i := 8) sc_law.nd rfl (.inl rfl) (pe_call D_law_bent.ok (hr.mono (by omega)) rfl D_law_bent.g D_law_bent.kp D_law_bent.b .nil pass0 (pa_cons (pv 1) (pa_cons (pv 3) pa_nil))))
    (pss_one (ps_set (i := 6) sc_law.nd rfl (.inl rfl) (pe_op op_cat (pv 6) (pe_lst (pa_cons (pv 8) (pa_cons (pe_call D_law_bent.ok (hr.mono (by omega)) rfl D_law_bent.g D_law_bent.kp D_law_bent.b .nil pass0 (pa_cons (pv 1) (pa_cons (pv 8) pa_nil))) pa_nil))))))))
    (pss_cons (ps_for PassesOwn.never rfl (pi_list (pe_op op_cat (pv 6) (pe_lst (pa_cons (pe_call D_law_odd.ok (hr.mono (by omega)) rfl D_law_odd.g D_law_odd.kp D_law_odd.b .nil pass0 (pa_cons (pv 1) pa_nil)) (pa_cons (pe_call D_law_odd.ok (hr.mono (by omega)) rfl D_law_odd.g D_law_odd.kp D_law_odd.b .nil pass0 (pa_cons (pv 1) pa_nil)) pa_nil))))) (pg_name (i := 9) sc_law.nd rfl (.inl rfl))
      (pss_cons (ps_set (i := 10) sc_law.nd rfl (.inl rfl) (pe_callB (call_reprQ rfl hr.units) rfl M.repr (by decide +kernel) (pa_cons (pv 9) pa_nil)))
    (pss_one (ps_if (PW.pt (pw_or (pt_not (pt_val (pe_call D_law_same.ok (hr.mono (by omega)) rfl D_law_same.g D_law_same.kp D_law_same.b .nil pass0 (pa_cons (pe_call Dis_pair.ok (hr.mono (by omega)) rfl Dis_pair.g Dis_pair.kp Dis_pair.b .nil pass0 (pa_cons (pv 9) pa_nil)) (pa_cons (pe_call D_law_due.ok (hr.mono (by omega)) rfl D_law_due.g D_law_due.kp D_law_due.b .nil pass0 (pa_cons (pv 9) pa_nil)) pa_nil))))) (pw_or1 (pt_cmpR op_ne (pe_callB (call_reprQ rfl hr.units) rfl M.repr (by decide +kernel) (pa_cons (pv 9) pa_nil)) (pv 10) (nomark _)))))
      (pss_one (ps_ret pe_bl)) pss_nil))))
    (pss_one (ps_for PassesOwn.never rfl (pi_list (pe_lst (pa_cons (pv 4) (pa_cons (pe_call D_law_renamed.ok (hr.mono (by omega)) rfl D_law_renamed.g D_law_renamed.kp D_law_renamed.b .nil pass0 (pa_cons (pv 1) (pa_cons (pv 4) pa_nil))) pa_nil)))) (pg_name (i := 11) sc_law.nd rfl (.inl rfl))
      (pss_cons (ps_set (i := 10) sc_law.nd rfl (.inl rfl) (pe_callB (call_reprQ rfl hr.units) rfl M.repr (by decide +kernel) (pa_cons (pv 11) pa_nil)))
    (pss_one (ps_if (PW.pt (pw_or (pt_not (pt_val (pe_call D_law_same.ok (hr.mono (by omega)) rfl D_law_same.g D_law_same.kp D_law_same.b .nil pass0 (pa_cons (pe_call Dpair_of.ok (hr.mono (by omega)) rfl Dpair_of.g Dpair_of.kp Dpair_of.b .nil pass0 (pa_cons (pv 11) pa_nil)) (pa_cons (pe_tup (pa_cons (pe_call D_law_front.ok (hr.mono (by omega)) rfl D_law_front.g D_law_front.kp D_law_front.b .nil pass0 (pa_cons (pv 11) pa_nil)) (pa_cons (pe_call D_law_back.ok (hr.mono (by omega)) rfl D_law_back.g D_law_back.kp D_law_back.b .nil pass0 (pa_cons (pv 11) pa_nil)) pa_nil))) pa_nil))))) (pw_or1 (pt_cmpR op_ne (pe_callB (call_reprQ rfl hr.units) rfl M.repr (by decide +kernel) (pa_cons (pv 11) pa_nil)) (pv 10) (nomark _)))))
      (pss_one (ps_ret pe_bl)) pss_nil)))))))))))))
    (pss_one (ps_ret pe_bl)))), ?_⟩
  refine ⟨_, rfl, a, ns, rfl, hS, fun D H1 d1 s1 => ?_⟩
  refine ⟨8, rfl, by decide, by decide, ?_⟩
  refine for_range (lo := 0) (n := 8) (fun i σ H' => ∃ n o2 o3 o4 o5 o6 o7 o8 o9 o10 o11, σ = [some (.ref a), some (.ref D.dk), o2, o3, o4, o5, o6, o7, o8, o9, o10, o11] ∧ DeckOk H' D n ∧ n ≤ 2000 * i) ⟨0, _, _, _, _, _, _, _, _, _, _, rfl, d1, Nat.zero_le _⟩ (fun i σ H2 hi hp => ?_) (fun σ H2 hp => rfl)
  · obtain ⟨n, o2, o3, o4, o5, o6, o7, o8, o9, o10, o11, rfl, d2, ln⟩ := hp
    refine ⟨_, rfl, D, n, rfl, d2, by omega, fun p fr bk H3 n3 l3 d3 s3 ep ltf pm f0 fl12 => ?_⟩
    refine ⟨_, rfl, D, n3, 12, rfl, d3, by omega, by decide, by decide, by decide, fun v t H4 n4 l4 d4 s4 hv lt t0 t12 => ?_⟩
    refine ⟨_, _, rfl, ?_⟩
    refine ⟨_, rfl, D, n4, 13, rfl, d4, by omega, by decide, fun zs H5 dk s5 ltz hz => ?_⟩
    have ep := s5.keepT d4 _ _ (s4.keepT d3 _ _ ep)
    have hv := hv.keep (s5.keepT d4)
    have op := off_tup dk ep
    have bl := pm.length_eq
    have bkl : Lts bk := ⟨pm.nodup_iff.mpr ltf.1, fun c hc => ltf.2 c (pm.mem_iff.mp hc)⟩
    have sm := Same.refl H5
    clear d2 d3 d4 s3 s4 s5 d1 s1
    refine ⟨_, rfl, _, rfl, p, _, rfl, SqT.of ep, fun p1 n1 => ?_⟩
    have q1 := same_new n1 (.tup [V.str (tx fr), V.str (tx bk)].reverse)
    have a1 := dq_newT (xs := [V.str (tx fr), V.str (tx bk)].reverse) (ds := [.str (tx bk), .str (tx fr)]) dk n1 (.cons (.str _) (.cons (.str _) .nil))
    have x1 := upd_same (H := H5) (a := p1) (o := .tup [V.str (tx fr), V.str (tx bk)].reverse)
    have f1 := dk.new n1
    have ep := q1 _ _ ep
    have dk := dk.same q1
    have sm := sm.trans q1
    clear q1 n1
    generalize upd H5 p1 (.tup [V.str (tx fr), V.str (tx bk)].reverse) = J1 at x1 dk sm ep a1 ⊢
    refine ⟨_, rfl, p, _, _, _, rfl, rfl, SqT.of ep, atI_nat (j := 0) rfl, _, rfl, p, _, _, _, rfl, rfl, SqT.of ep, atI_nat (j := 0) rfl, (by show 2 ≤ sizeLine; decide), fun p2 n2 => ?_⟩
    have q2 := same_new n2 (.tup [V.str (tx fr), V.str (tx fr)])
    have a2 := dq_newT (xs := [V.str (tx fr), V.str (tx fr)]) (ds := [.str (tx fr), .str (tx fr)]) dk n2 (.cons (.str _) (.cons (.str _) .nil))
    have x2 := upd_same (H := J1) (a := p2) (o := .tup [V.str (tx fr), V.str (tx fr)])
    have f2 := dk.new n2
    have a1 := dq_same q2 a1
    have ep := q2 _ _ ep
    have dk := dk.same q2
    have sm := sm.trans q2
    clear q2 n2
    generalize upd J1 p2 (.tup [V.str (tx fr), V.str (tx fr)]) = J2 at x2 dk sm ep a1 a2 ⊢
    refine ⟨_, rfl, _, rfl, tx zs, rfl, by rw [tx_len]; omega, ?_⟩
    rw [show (⟨(tx zs).cps.toList.reverse.toArray⟩ : Str) = tx zs.reverse from rfl]
    refine ⟨(by show 2 ≤ sizeLine; decide), fun p3 n3 => ?_⟩
    have q3 := same_new n3 (.tup [V.str (tx zs), V.str (tx zs.reverse)])
    have a3 := dq_newT (xs := [V.str (tx zs), V.str (tx zs.reverse)]) (ds := [.str (tx zs), .str (tx zs.reverse)]) dk n3 (.cons (.str _) (.cons (.str _) .nil))
    have x3 := upd_same (H := J2) (a := p3) (o := .tup [V.str (tx zs), V.str (tx zs.reverse)])
    have f3 := dk.new n3
    have a1 := dq_same q3 a1
    have a2 := dq_same q3 a2
    have ep := q3 _ _ ep
    have dk := dk.same q3
    have sm := sm.trans q3
    clear q3 n3
    generalize upd J2 p3 (.tup [V.str (tx zs), V.str (tx zs.reverse)]) = J3 at x3 dk sm ep a1 a2 a3 ⊢
    refine ⟨_, rfl, p, _, rfl, .inr (SqT.of ep), fun p4 n4 => ?_⟩
    have q4 := same_new n4 (.lst [V.str (tx fr), V.str (tx bk)])
    have a4 := dq_newL (xs := [V.str (tx fr), V.str (tx bk)]) (ds := [.str (tx fr), .str (tx bk)]) dk n4 (.cons (.str _) (.cons (.str _) .nil))
    have x4 := upd_same (H := J3) (a := p4) (o := .lst [V.str (tx fr), V.str (tx bk)])
    have f4 := dk.new n4
    have a1 := dq_same q4 a1
    have a2 := dq_same q4 a2
    have a3 := dq_same q4 a3
    have ep := q4 _ _ ep
    have dk := dk.same q4
    have sm := sm.trans q4
    clear q4 n4
    generalize upd J3 p4 (.lst [V.str (tx fr), V.str (tx bk)]) = J4 at x4 dk sm ep a1 a2 a3 a4 ⊢
    refine ⟨_, rfl, _, rfl, catA_of dk ep op ep op (by show 4 ≤ sizeLine; decide) fun p5 J5 q5 x5 f5 => ?_⟩
    have a1 := dq_same q5 a1
    have a2 := dq_same q5 a2
    have a3 := dq_same q5 a3
    have a4 := dq_same q5 a4
    have ep := q5 _ _ ep
    have dk := dk.same q5
    have sm := sm.trans q5
    have a5 : DQ D J5 (.ref p5) (.tuple [.str (tx fr), .str (tx bk), .str (tx fr), .str (tx bk)]) := .tup f5 x5 (.cons (.str _) (.cons (.str _) (.cons (.str _) (.cons (.str _) .nil))))
    clear q5
    refine ⟨_, rfl, 1, rfl, slA_of dk ep op fun p6 J6 q6 x6 f6 => ?_⟩
    have a1 := dq_same q6 a1
    have a2 := dq_same q6 a2
    have a3 := dq_same q6 a3
    have a4 := dq_same q6 a4
    have a5 := dq_same q6 a5
    have ep := q6 _ _ ep
    have dk := dk.same q6
    have sm := sm.trans q6
    have a6 : DQ D J6 (.ref p6) (.tuple [.str (tx fr)]) := .tup f6 (x6.trans (congrArg (fun z => some (HO.tup z)) (cut_to [V.str (tx fr), V.str (tx bk)] 1))) (.cons (.str _) .nil)
    clear q6
    refine ⟨(by show 7 ≤ sizeLine; decide), fun p7 n7 => ?_⟩
    have q7 := same_new n7 (.lst [.ref p, .ref p1, .ref p2, .ref p3, .ref p4, .ref p5, .ref p6])
    have x7 := upd_same (H := J6) (a := p7) (o := .lst [.ref p, .ref p1, .ref p2, .ref p3, .ref p4, .ref p5, .ref p6])
    have f7 := dk.new n7
    have a1 := dq_same q7 a1
    have a2 := dq_same q7 a2
    have a3 := dq_same q7 a3
    have a4 := dq_same q7 a4
    have a5 := dq_same q7 a5
    have a6 := dq_same q7 a6
    have ep := q7 _ _ ep
    have dk := dk.same q7
    have sm := sm.trans q7
    clear q7 n7
    generalize upd J6 p7 (.lst [.ref p, .ref p1, .ref p2, .ref p3, .ref p4, .ref p5, .ref p6]) = J7 at x7 dk sm ep a1 a2 a3 a4 a5 a6 ⊢
    refine ⟨_, rfl, _, rfl, p, _, _, _, rfl, rfl, SqT.of ep, atI_nat (j := 0) rfl, _, rfl, p, _, _, _, rfl, rfl, SqT.of ep, atI_nat (j := 0) rfl, _, rfl, p, _, _, _, rfl, rfl, SqT.of ep, atI_nat (j := 1) rfl, tx bk, rfl, by rw [tx_size]; omega, fun p8 n8 => ?_⟩
    have q8 := same_new n8 (.lst ((tx bk).cps.toList.map fun c => V.str ⟨#[c]⟩))
    have a8 := dq_newL (xs := (tx bk).cps.toList.map fun c => V.str ⟨#[c]⟩) (ds := bk.map fun c => .str (ch c)) dk n8 (dq_chs bk)
    have x8 := upd_same (H := J7) (a := p8) (o := .lst ((tx bk).cps.toList.map fun c => V.str ⟨#[c]⟩))
    have f8 := dk.new n8
    have a1 := dq_same q8 a1
    have a2 := dq_same q8 a2
    have a3 := dq_same q8 a3
    have a4 := dq_same q8 a4
    have a5 := dq_same q8 a5
    have a6 := dq_same q8 a6
    have x7 := q8 _ _ x7
    have ep := q8 _ _ ep
    have dk := dk.same q8
    have sm := sm.trans q8
    clear q8 n8
    generalize upd J7 p8 (.lst ((tx bk).cps.toList.map fun c => V.str ⟨#[c]⟩)) = J8 at x8 dk sm ep a1 a2 a3 a4 a5 a6 a8 x7 ⊢
    refine ⟨(by show 2 ≤ sizeLine; decide), fun p9 n9 => ?_⟩
    have q9 := same_new n9 (.tup [V.str (tx fr), .ref p8])
    have a9 := dq_newT (xs := [V.str (tx fr), .ref p8]) (ds := [.str (tx fr), .list (bk.map fun c => .str (ch c))]) dk n9 (.cons (.str _) (.cons a8 .nil))
    have x9 := upd_same (H := J8) (a := p9) (o := .tup [V.str (tx fr), .ref p8])
    have f9 := dk.new n9
    have a1 := dq_same q9 a1
    have a2 := dq_same q9 a2
    have a3 := dq_same q9 a3
    have a4 := dq_same q9 a4
    have a5 := dq_same q9 a5
    have a6 := dq_same q9 a6
    have a8 := dq_same q9 a8
    have x7 := q9 _ _ x7
    have ep := q9 _ _ ep
    have dk := dk.same q9
    have sm := sm.trans q9
    clear q9 n9
    generalize upd J8 p9 (.tup [V.str (tx fr), .ref p8]) = J9 at x9 dk sm ep a1 a2 a3 a4 a5 a6 a8 a9 x7 ⊢
    refine ⟨_, rfl, p, _, _, _, rfl, rfl, SqT.of ep, atI_nat (j := 0) rfl, _, rfl, p, _, _, _, rfl, rfl, SqT.of ep, atI_nat (j := 1) rfl, rfl, tx bk, rfl, rfl, by rw [tx_len]; omega, (by show 2 ≤ sizeLine; decide), fun p10 n10 => ?_⟩
    have q10 := same_new n10 (.tup [V.str (tx fr), .str (Txt.upper (tx bk))])
    have a10 := dq_newT (xs := [V.str (tx fr), .str (Txt.upper (tx bk))]) (ds := [.str (tx fr), .str (Txt.upper (tx bk))]) dk n10 (.cons (.str _) (.cons (.str _) .nil))
    have x10 := upd_same (H := J9) (a := p10) (o := .tup [V.str (tx fr), .str (Txt.upper (tx bk))])
    have f10 := dk.new n10
    have a1 := dq_same q10 a1
    have a2 := dq_same q10 a2
    have a3 := dq_same q10 a3
    have a4 := dq_same q10 a4
    have a5 := dq_same q10 a5
    have a6 := dq_same q10 a6
    have a8 := dq_same q10 a8
    have a9 := dq_same q10 a9
    have x7 := q10 _ _ x7
    have ep := q10 _ _ ep
    have dk := dk.same q10
    have sm := sm.trans q10
    clear q10 n10
    generalize upd J9 p10 (.tup [V.str (tx fr), .str (Txt.upper (tx bk))]) = J10 at x10 dk sm ep a1 a2 a3 a4 a5 a6 a8 a9 a10 x7 ⊢
    refine ⟨(by show 3 ≤ sizeLine; decide), fun p11 n11 => ?_⟩
    have q11 := same_new n11 (.lst [V.str (tx fr), .ref p9, .ref p10])
    have x11 := upd_same (H := J10) (a := p11) (o := .lst [V.str (tx fr), .ref p9, .ref p10])
    have f11 := dk.new n11
    have a1 := dq_same q11 a1
    have a2 := dq_same q11 a2
    have a3 := dq_same q11 a3
    have a4 := dq_same q11 a4
    have a5 := dq_same q11 a5
    have a6 := dq_same q11 a6
    have a8 := dq_same q11 a8
    have a9 := dq_same q11 a9
    have a10 := dq_same q11 a10
    have x7 := q11 _ _ x7
    have ep := q11 _ _ ep
    have dk := dk.same q11
    have sm := sm.trans q11
    clear q11 n11
    generalize upd J10 p11 (.lst [V.str (tx fr), .ref p9, .ref p10]) = J11 at x11 dk sm ep a1 a2 a3 a4 a5 a6 a8 a9 a10 x7 ⊢
    refine ⟨p7, p11, _, _, rfl, rfl, x7, x11, (by show 7 + 3 ≤ 16777216; decide), fun p12 n12 => ?_⟩
    have q12 := same_new n12 (.lst ([.ref p, .ref p1, .ref p2, .ref p3, .ref p4, .ref p5, .ref p6] ++ [V.str (tx fr), .ref p9, .ref p10]))
    have x12 := upd_same (H := J11) (a := p12) (o := .lst ([.ref p, .ref p1, .ref p2, .ref p3, .ref p4, .ref p5, .ref p6] ++ [V.str (tx fr), .ref p9, .ref p10]))
    have f12 := dk.new n12
    have a1 := dq_same q12 a1
    have a2 := dq_same q12 a2
    have a3 := dq_same q12 a3
    have a4 := dq_same q12 a4
    have a5 := dq_same q12 a5
    have a6 := dq_same q12 a6
    have a8 := dq_same q12 a8
    have a9 := dq_same q12 a9
    have a10 := dq_same q12 a10
    have x7 := q12 _ _ x7
    have ep := q12 _ _ ep
    have dk := dk.same q12
    have sm := sm.trans q12
    clear q12 n12
    generalize upd J11 p12 (.lst ([.ref p, .ref p1, .ref p2, .ref p3, .ref p4, .ref p5, .ref p6] ++ [V.str (tx fr), .ref p9, .ref p10])) = J12 at x12 dk sm ep a1 a2 a3 a4 a5 a6 a8 a9 a10 x7 ⊢
    refine ⟨_, rfl, (by show 2 ≤ sizeLine; decide), fun p13 n13 => ?_⟩
    have q13 := same_new n13 (.tup [V.str "", V.str ""])
    have a13 := dq_newT (xs := [V.str "", V.str ""]) (ds := [.str "", .str ""]) dk n13 (.cons (.str _) (.cons (.str _) .nil))
    have x13 := upd_same (H := J12) (a := p13) (o := .tup [V.str "", V.str ""])
    have f13 := dk.new n13
    have a1 := dq_same q13 a1
    have a2 := dq_same q13 a2
    have a3 := dq_same q13 a3
    have a4 := dq_same q13 a4
    have a5 := dq_same q13 a5
    have a6 := dq_same q13 a6
    have a8 := dq_same q13 a8
    have a9 := dq_same q13 a9
    have a10 := dq_same q13 a10
    have x12 := q13 _ _ x12
    have ep := q13 _ _ ep
    have dk := dk.same q13
    have sm := sm.trans q13
    clear q13 n13
    generalize upd J12 p13 (.tup [V.str "", V.str ""]) = J13 at x13 dk sm ep a1 a2 a3 a4 a5 a6 a8 a9 a10 a13 x12 ⊢
    refine ⟨(by show 2 ≤ sizeLine; decide), fun p14 n14 => ?_⟩
    have q14 := same_new n14 (.tup [V.str "aa", V.str "aa"])
    have a14 := dq_newT (xs := [V.str "aa", V.str "aa"]) (ds := [.str "aa", .str "aa"]) dk n14 (.cons (.str _) (.cons (.str _) .nil))
    have x14 := upd_same (H := J13) (a := p14) (o := .tup [V.str "aa", V.str "aa"])
    have f14 := dk.new n14
    have a1 := dq_same q14 a1
    have a2 := dq_same q14 a2
    have a3 := dq_same q14 a3
    have a4 := dq_same q14 a4
    have a5 := dq_same q14 a5
    have a6 := dq_same q14 a6
    have a8 := dq_same q14 a8
    have a9 := dq_same q14 a9
    have a10 := dq_same q14 a10
    have a13 := dq_same q14 a13
    have x12 := q14 _ _ x12
    have ep := q14 _ _ ep
    have dk := dk.same q14
    have sm := sm.trans q14
    clear q14 n14
    generalize upd J13 p14 (.tup [V.str "aa", V.str "aa"]) = J14 at x14 dk sm ep a1 a2 a3 a4 a5 a6 a8 a9 a10 a13 a14 x12 ⊢
    refine ⟨(by show 2 ≤ sizeLine; decide), fun p15 n15 => ?_⟩
    have q15 := same_new n15 (.tup [V.str "a?", V.str "?a"])
    have a15 := dq_newT (xs := [V.str "a?", V.str "?a"]) (ds := [.str "a?", .str "?a"]) dk n15 (.cons (.str _) (.cons (.str _) .nil))
    have x15 := upd_same (H := J14) (a := p15) (o := .tup [V.str "a?", V.str "?a"])
    have f15 := dk.new n15
    have a1 := dq_same q15 a1
    have a2 := dq_same q15 a2
    have a3 := dq_same q15 a3
    have a4 := dq_same q15 a4
    have a5 := dq_same q15 a5
    have a6 := dq_same q15 a6
    have a8 := dq_same q15 a8
    have a9 := dq_same q15 a9
    have a10 := dq_same q15 a10
    have a13 := dq_same q15 a13
    have a14 := dq_same q15 a14
    have x12 := q15 _ _ x12
    have ep := q15 _ _ ep
    have dk := dk.same q15
    have sm := sm.trans q15
    clear q15 n15
    generalize upd J14 p15 (.tup [V.str "a?", V.str "?a"]) = J15 at x15 dk sm ep a1 a2 a3 a4 a5 a6 a8 a9 a10 a13 a14 a15 x12 ⊢
    refine ⟨(by show 2 ≤ sizeLine; decide), fun p16 n16 => ?_⟩
    have q16 := same_new n16 (.tup [V.str "ab", V.str "bc"])
    have a16 := dq_newT (xs := [V.str "ab", V.str "bc"]) (ds := [.str "ab", .str "bc"]) dk n16 (.cons (.str _) (.cons (.str _) .nil))
    have x16 := upd_same (H := J15) (a := p16) (o := .tup [V.str "ab", V.str "bc"])
    have f16 := dk.new n16
    have a1 := dq_same q16 a1
    have a2 := dq_same q16 a2
    have a3 := dq_same q16 a3
    have a4 := dq_same q16 a4
    have a5 := dq_same q16 a5
    have a6 := dq_same q16 a6
    have a8 := dq_same q16 a8
    have a9 := dq_same q16 a9
    have a10 := dq_same q16 a10
    have a13 := dq_same q16 a13
    have a14 := dq_same q16 a14
    have a15 := dq_same q16 a15
    have x12 := q16 _ _ x12
    have ep := q16 _ _ ep
    have dk := dk.same q16
    have sm := sm.trans q16
    clear q16 n16
    generalize upd J15 p16 (.tup [V.str "ab", V.str "bc"]) = J16 at x16 dk sm ep a1 a2 a3 a4 a5 a6 a8 a9 a10 a13 a14 a15 a16 x12 ⊢
    refine ⟨(by show 4 ≤ sizeLine; decide), fun p17 n17 => ?_⟩
    have q17 := same_new n17 (.lst [.ref p13, .ref p14, .ref p15, .ref p16])
    have x17 := upd_same (H := J16) (a := p17) (o := .lst [.ref p13, .ref p14, .ref p15, .ref p16])
    have f17 := dk.new n17
    have a1 := dq_same q17 a1
    have a2 := dq_same q17 a2
    have a3 := dq_same q17 a3
    have a4 := dq_same q17 a4
    have a5 := dq_same q17 a5
    have a6 := dq_same q17 a6
    have a8 := dq_same q17 a8
    have a9 := dq_same q17 a9
    have a10 := dq_same q17 a10
    have a13 := dq_same q17 a13
    have a14 := dq_same q17 a14
    have a15 := dq_same q17 a15
    have a16 := dq_same q17 a16
    have x12 := q17 _ _ x12
    have ep := q17 _ _ ep
    have dk := dk.same q17
    have sm := sm.trans q17
    clear q17 n17
    generalize upd J16 p17 (.lst [.ref p13, .ref p14, .ref p15, .ref p16]) = J17 at x17 dk sm ep a1 a2 a3 a4 a5 a6 a8 a9 a10 a13 a14 a15 a16 x12 ⊢
    refine ⟨p12, p17, _, _, rfl, rfl, x12, x17, (by show 10 + 4 ≤ 16777216; decide), fun p18 n18 => ?_⟩
    have q18 := same_new n18 (.lst (([.ref p, .ref p1, .ref p2, .ref p3, .ref p4, .ref p5, .ref p6] ++ [V.str (tx fr), .ref p9, .ref p10]) ++ [.ref p13, .ref p14, .ref p15, .ref p16]))
    have x18 := upd_same (H := J17) (a := p18) (o := .lst (([.ref p, .ref p1, .ref p2, .ref p3, .ref p4, .ref p5, .ref p6] ++ [V.str (tx fr), .ref p9, .ref p10]) ++ [.ref p13, .ref p14, .ref p15, .ref p16]))
    have f18 := dk.new n18
    have a1 := dq_same q18 a1
    have a2 := dq_same q18 a2
    have a3 := dq_same q18 a3
    have a4 := dq_same q18 a4
    have a5 := dq_same q18 a5
    have a6 := dq_same q18 a6
    have a8 := dq_same q18 a8
    have a9 := dq_same q18 a9
    have a10 := dq_same q18 a10
    have a13 := dq_same q18 a13
    have a14 := dq_same q18 a14
    have a15 := dq_same q18 a15
    have a16 := dq_same q18 a16
    have x12 := q18 _ _ x12
    have ep := q18 _ _ ep
    have dk := dk.same q18
    have sm := sm.trans q18
    clear q18 n18
    generalize upd J17 p18 (.lst (([.ref p, .ref p1, .ref p2, .ref p3, .ref p4, .ref p5, .ref p6] ++ [V.str (tx fr), .ref p9, .ref p10]) ++ [.ref p13, .ref p14, .ref p15, .ref p16])) = J18 at x18 dk sm ep a1 a2 a3 a4 a5 a6 a8 a9 a10 a13 a14 a15 a16 x12 ⊢
    have A : DQAll D J18 (([.ref p, .ref p1, .ref p2, .ref p3, .ref p4, .ref p5, .ref p6] ++ [V.str (tx fr), .ref p9, .ref p10]) ++ [.ref p13, .ref p14, .ref p15, .ref p16]) [.tuple [.str (tx fr), .str (tx bk)], .tuple [.str (tx bk), .str (tx fr)], .tuple [.str (tx fr), .str (tx fr)], .tuple [.str (tx zs), .str (tx zs.reverse)], .list [.str (tx fr), .str (tx bk)], .tuple [.str (tx fr), .str (tx bk), .str (tx fr), .str (tx bk)], .tuple [.str (tx fr)], .str (tx fr), .tuple [.str (tx fr), .list (bk.map fun c => .str (ch c))], .tuple [.str (tx fr), .str (Txt.upper (tx bk))], .tuple [.str "", .str ""], .tuple [.str "aa", .str "aa"], .tuple [.str "a?", .str "?a"], .tuple [.str "ab", .str "bc"]] := (.cons (dq_pair dk ep) (.cons a1 (.cons a2 (.cons a3 (.cons a4 (.cons a5 (.cons a6 (.cons (.str _) (.cons a9 (.cons a10 (.cons a13 (.cons a14 (.cons a15 (.cons a16 .nil))))))))))))))
    have G := pick_all A (good14 ltf bkl ltz hz fl12 bl)
    have eL := x18
    have oL := f18
    have xl : ((([.ref p, .ref p1, .ref p2, .ref p3, .ref p4, .ref p5, .ref p6] ++ [V.str (tx fr), .ref p9, .ref p10]) ++ [.ref p13, .ref p14, .ref p15, .ref p16]) : List V).length = 14 := rfl
    generalize ((([.ref p, .ref p1, .ref p2, .ref p3, .ref p4, .ref p5, .ref p6] ++ [V.str (tx fr), .ref p9, .ref p10]) ++ [.ref p13, .ref p14, .ref p15, .ref p16]) : List V) = xs0 at eL G xl
    generalize p18 = L0 at eL oL ⊢
    generalize J18 = J at eL G dk sm ep ⊢
    have wp : gd (.tuple [.str (tx fr), .str (tx bk)]) = true ∧ tm 15 (.tuple [.str (tx fr), .str (tx bk)]) = true ∧ wt (.tuple [.str (tx fr), .str (tx bk)]) = 1811 ∧ (PyData.tuple [.str (tx fr), .str (tx bk)]).depth = 1 := by
      have gf := (asc_tx (m := 15) (l := fr) (by omega) (asc_l ltf)).gd (by decide)
      have gb := (asc_tx (m := 15) (l := bk) (by omega) (asc_l bkl)).gd (by decide)
      simp only [Tw.gd, gds, tm, tms, wt, wts, PyData.depth, PyData.depthAll, Bool.and_true] at gf gb ⊢
      simp only [gf.1, gf.2, gb.1, gb.2, Bool.and_self, true_and]
      decide
    refine ⟨10, rfl, by decide, by decide, ?_⟩
    refine for_range (lo := 0) (n := 10) (fun j σ H' => ∃ L xs n1 o7 o8, σ = [some (.ref a), some (.ref D.dk), some (.int (0 + (i : Int))), some (.ref p), some v, some (.str (tx zs)), some (.ref L), o7, o8, o9, o10, o11] ∧ DeckOk H' D n1 ∧ n1 ≤ n4 + 13 + 100 * j ∧ SameD D J H' ∧ H' L = some (.lst xs) ∧ Off D L ∧ xs.length = 14 + 2 * j ∧ AllG D H' xs)
      ⟨L0, xs0, _, _, _, rfl, dk, by omega, SameD.refl _ _, eL, oL, xl, G⟩ (fun j σ Hj hj hq => ?_) (fun σ Hj hq => ?_)
    · obtain ⟨L, xs, n1, o7, o8, rfl, dj, hn1, sj, ej, oj, xlj, Gj⟩ := hq
      have epj := sj.at op ep
      refine ⟨_, rfl, _, rfl, D, n1, 15, .ref p, _, rfl, dj, ?_, dq_pair dj epj, wp.1, wp.2.1, by decide, by decide, by rw [wp.2.2.1]; decide, by rw [wp.2.2.2]; decide, fun vb n2 H7 d7 ln7 s7 gb => ?_⟩
      · rw [wp.2.2.2]; omega
      rw [wp.2.2.1, wp.2.2.2] at gb
      rw [wp.2.2.2] at ln7
      have gb' := gb
      obtain ⟨db, hdb, gdb, tmb, wtb, dpb⟩ := gb'
      refine ⟨_, rfl, _, rfl, _, rfl, _, rfl, D, n2, 16, vb, db, rfl, d7, by omega, hdb, gdb, tmb, by decide, by decide, by omega, by omega, fun vc' n3' H8 d8 ln8 s8 gc => ?_⟩
      refine ⟨(by show 2 ≤ sizeLine; decide), fun M2 nM2 => ?_⟩
      have tM := same_new nM2 (.lst [vb, vc'])
      have eM := upd_same (H := H8) (a := M2) (o := .lst [vb, vc'])
      generalize upd H8 M2 (.lst [vb, vc']) = H9 at tM eM ⊢
      have d9 := d8.same tM
      have eL9 := tM _ _ (s8.at oj (s7.at oj ej))
      refine ⟨L, M2, _, _, rfl, rfl, eL9, eM, (by rw [xlj]; show 14 + 2 * j + 2 ≤ 16777216; omega), fun C nC => ?_⟩
      have tC := same_new nC (.lst (xs ++ [vb, vc']))
      have z8 := SameD.of (D := D) (tM.trans tC)
      refine ⟨C, xs ++ [vb, vc'], n3', _, _, rfl, d9.same tC, by omega, sj.trans (s7.trans (s8.trans z8)), upd_same, d9.new nC, by rw [List.length_append, xlj]; show _ + 2 = _; omega, ?_⟩
      exact (Gj.sameD (s7.trans (s8.trans z8))).app (AllG.two ((gb.sameD (s8.trans z8)).mono (by omega) (by omega) (by omega)) ((gc.sameD z8).mono (by omega) (by omega) (by omega)))
    obtain ⟨L, xs, n1, o7, o8, rfl, dj, hn1, sj, ej, oj, xlj, Gj⟩ := hq
    refine ⟨_, rfl, _, rfl, D, n1, rfl, dj, by omega, fun u1 K1 e1 t1 g1 => ?_⟩
    refine ⟨_, rfl, D, n1 + 1, rfl, e1, by omega, fun u2 K2 e2 t2 g2 => ?_⟩
    refine ⟨(by show 2 ≤ sizeLine; decide), fun M2 nM2 => ?_⟩
    have tM := same_new nM2 (.lst [u1, u2])
    have eM := upd_same (H := K2) (a := M2) (o := .lst [u1, u2])
    generalize upd K2 M2 (.lst [u1, u2]) = K3 at tM eM ⊢
    have eL3 := tM _ _ (t2.at oj (t1.at oj ej))
    refine ⟨L, M2, _, _, rfl, rfl, eL3, eM, (by rw [xlj]; show 14 + 2 * 10 + 2 ≤ 16777216; decide), fun C nC => ?_⟩
    have tC := same_new nC (.lst (xs ++ [u1, u2]))
    have eC := upd_same (H := K3) (a := C) (o := .lst (xs ++ [u1, u2]))
    have dC := (e2.same tM).same tC
    have z2 := SameD.of (D := D) (tM.trans tC)
    have GC : AllG D (upd K3 C (.lst (xs ++ [u1, u2]))) (xs ++ [u1, u2]) := (Gj.sameD (t1.trans (t2.trans z2))).app (AllG.two ((g1.sameD (t2.trans z2)).mono (by omega) (by omega) (by omega)) ((g2.sameD z2).mono (by omega) (by omega) (by omega)))
    have zJ := sj.trans (t1.trans (t2.trans z2))
    generalize upd K3 C (.lst (xs ++ [u1, u2])) = K4 at eC dC GC zJ ⊢
    have hvC := (hv.same sm).keep (zJ.keepT dk)
    refine ⟨C, rfl, ⟨_, SqL.of eC⟩, ?_⟩
    refine for_list (K := K) (a := C) (xs := xs ++ [u1, u2]) (fun jj σ Hx => ∃ o7 o8 o9 o10, σ = [some (.ref a), some (.ref D.dk), some (.int (0 + (i : Int))), some (.ref p), some v, some (.str (tx zs)), some (.ref L), o7, o8, o9, o10, o11] ∧ Same K4 Hx) ⟨_, _, _, _, rfl, Same.refl _⟩ (fun jj σ Hx _ hp => by obtain ⟨_, _, _, _, _, sx⟩ := hp; exact SqL.of (sx _ _ eC)) (fun jj x σ Hx hx hp => ?_) (fun σ Hx hp => ?_)
    · obtain ⟨o7, o8, o9, o10, rfl, sx⟩ := hp
      obtain ⟨d, hd, gg, tg, wg, dg⟩ := (GC jj x hx).sameD (SameD.of sx)
      refine ⟨_, rfl, x, D, d, rfl, hd, gg, by omega, by omega, ?_⟩
      refine ⟨_, rfl, D, x, d, rfl, hd, gg, fun Ha sa => ?_⟩
      refine ⟨_, rfl, D, x, d, rfl, dq_same sa hd, gg, fun Hb sb => ?_⟩
      refine ⟨_, _, .bool (pB d), rfl, .bl _, .bl _, by simp only [PyData.depth]; decide, rfl, fun Hc sc => ⟨_, rfl, iteF ?_⟩⟩
      have sabc := sa.trans (sb.trans sc)
      refine ⟨_, rfl, x, D, d, rfl, dq_same sabc hd, gg, by omega, by omega, _, rfl, rfl, _, rfl, iteNS rfl ?_⟩
      exact ⟨_, _, _, _, rfl, sx.trans sabc⟩
    obtain ⟨o7, o8, o9, o10, rfl, sx⟩ := hp
    have dX := dC.same sx
    have hvX := hvC.same sx
    refine ⟨_, rfl, _, rfl, _, rfl, D, _, v, t, rfl, dX, by omega, hvX, by omega, fun v' t' Y1 dY sY hv' tz lt' => ?_⟩
    refine ⟨(by show 2 ≤ sizeLine; decide), fun W2 nW => ?_⟩
    have tW := same_new nW (.lst [v, v'])
    have eW := upd_same (H := Y1) (a := W2) (o := .lst [v, v'])
    have dW := dY.same tW
    have hvW := (hvX.keep (sY.keepT dX)).same tW
    have hvW' := hv'.same tW
    generalize upd Y1 W2 (.lst [v, v']) = Y2 at eW dW hvW hvW' ⊢
    refine ⟨W2, rfl, ⟨_, SqL.of eW⟩, ?_⟩
    refine for_list (K := K) (a := W2) (xs := [v, v']) (fun jj σ Hx => ∃ o7 o8 o9 o10 o11, σ = [some (.ref a), some (.ref D.dk), some (.int (0 + (i : Int))), some (.ref p), some v, some (.str (tx zs)), some (.ref L), o7, o8, o9, o10, o11] ∧ Same Y2 Hx) ⟨_, _, _, _, _, rfl, Same.refl _⟩ (fun jj σ Hx _ hp => by obtain ⟨_, _, _, _, _, _, sx⟩ := hp; exact SqL.of (sx _ _ eW)) (fun jj x σ Hx hx hp => ?_) (fun σ Hx hp => ?_)
    · obtain ⟨o7, o8, o9, o10, o11, rfl, sy⟩ := hp
      obtain ⟨u, hu, lu, uz⟩ : ∃ u : B, BAt Y2 x u ∧ (∀ c ∈ u.pre, 97 ≤ c ∧ c ≤ 122) ∧ u.size ≤ 12 := by
        match jj, hx with
        | 0, h => cases h; exact ⟨t, hvW, lt.2, by omega⟩
        | 1, h => cases h; exact ⟨t', hvW', lt', by omega⟩
      have hux := hu.same sy
      have dx := dW.same sy
      obtain ⟨g1', g2', g3'⟩ := tree_good u lu
      refine ⟨_, rfl, x, D, u.data, rfl, hux.dq dx, g1', by omega, by omega, ?_⟩
      refine ⟨_, rfl, x, u, rfl, hux, by omega, fun q1 Ha sa ea => ?_⟩
      have hua := hux.same sa
      refine ⟨_, rfl, x, u, rfl, hua, by omega, by omega, _, rfl, x, u, rfl, hua, by omega, by omega, (by show 2 ≤ sizeLine; decide), fun q2 nq2 => ?_⟩
      have k2 := same_new nq2 (.tup [.str (tx u.pre), .str (tx u.post)])
      refine ⟨_, _, .tuple [.str (tx u.pre), .str (tx u.post)], rfl, .tup (SqT.of (k2 _ _ ea)) (.cons (.str _) (.cons (.str _) .nil)), .tup (SqT.of upd_same) (.cons (.str _) (.cons (.str _) .nil)), by simp only [PyData.depth, PyData.depthAll]; decide, rfl, fun Hc sc => ⟨_, rfl, iteF ?_⟩⟩
      have sac := sa.trans (k2.trans sc)
      refine ⟨_, rfl, x, D, u.data, rfl, (hux.same sac).dq (dx.same sac), g1', by omega, by omega, _, rfl, rfl, _, rfl, iteNS rfl ?_⟩
      exact ⟨_, _, _, _, _, rfl, sy.trans sac⟩
    obtain ⟨o7, o8, o9, o10, o11, rfl, sy⟩ := hp
    exact ⟨_, _, _, _, _, _, _, _, _, _, _, rfl, dW.same sy, by omega⟩
end
/-! ### what the top has left -/
theorem all_mk {l : PySem.W.OpenLaw} {w : World} {K : PySem.W.Frag} {h : Heap} {mg : Str → Option Value} {fa f1 f2 f3 f4 f5 f6 f7 f8 f9 f10 f11 f12 f13 f14 f15 f16 f17 f18 f19 f20 f21 f22 f23 f24 f25 f26  : Addr} (X : K.In h) (G : h.Ns mainGlobals mg) (hfa : mg "law" = some (.ref fa))
    {od1 an1 od2 an2 od3 an3 od4 an4 od5 an5 od6 an6 od7 an7 od8 an8 od9 an9 od10 an10 od11 an11 od12 an12 od13 an13 od14 an14 od15 an15 od16 an16 od17 an17 od18 an18 od19 an19 od20 an20 od21 an21 od22 an22 od23 an23 od24 an24 od25 an25 od26 an26 : Option Addr} {sl1 sl2 sl3 sl4 sl5 sl6 sl7 sl8 sl9 sl10 sl11 sl12 sl13 sl14 sl15 sl16 sl17 sl18 sl19 sl20 sl21 sl22 sl23 sl24 sl25 sl26 : Array (Option Value)}
    {oc1 kV1 dc1 pm1 cd1 ct1 oc2 kV2 dc2 pm2 cd2 ct2 oc3 kV3 dc3 pm3 cd3 ct3 oc4 kV4 dc4 pm4 cd4 ct4 oc5 kV5 dc5 pm5 cd5 ct5 oc6 kV6 dc6 pm6 cd6 ct6 oc7 kV7 dc7 pm7 cd7 ct7 oc8 kV8 dc8 pm8 cd8 ct8 oc9 kV9 dc9 pm9 cd9 ct9 oc10 kV10 dc10 pm10 cd10 ct10 oc11 kV11 dc11 pm11 cd11 ct11 oc12 kV12 dc12 pm12 cd12 ct12 oc13 kV13 dc13 pm13 cd13 ct13 oc14 kV14 dc14 pm14 cd14 ct14 oc15 kV15 dc15 pm15 cd15 ct15 oc16 kV16 dc16 pm16 cd16 ct16 oc17 kV17 dc17 pm17 cd17 ct17 oc18 kV18 dc18 pm18 cd18 ct18 oc19 kV19 dc19 pm19 cd19 ct19 oc20 kV20 dc20 pm20 cd20 ct20 oc21 kV21 dc21 pm21 cd21 ct21 oc22 kV22 dc22 pm22 cd22 ct22 oc23 kV23 dc23 pm23 cd23 ct23 oc24 kV24 dc24 pm24 cd24 ct24 oc25 kV25 dc25 pm25 cd25 ct25 oc26 kV26 dc26 pm26 cd26 ct26 : Value} {t1 : Tok}
    {aK : Addr} {oK : Option Addr} {tK1 tK2 tK3 tK4 : Tok} {nK : Nat} {sK : Array (Option Value)}
    (aKn : PySem.W.nsIn K mainGlobals "KINDS" = some (some (.ref aK)))
    (aKl : K.lookup aK = some ⟨.type "tuple", oK, .seq #[.str "first" tK1, .str "between" tK2, .str "last" tK3, .str "level" tK4] nK, sK⟩)
    (a1 : PySem.W.nsIn K mainGlobals "is_letter" = some (some (.ref f1)))
    (l1 : K.lookup f1 = some ⟨oc1, od1, .func (PySem.W.fnOf "is_letter" "is_letter" (defArgs s_is_letter) (defBody s_is_letter) (defScope s_is_letter) .none kV1 dc1 pm1 an1 cd1 ct1), sl1⟩)
    (c1 : PySem.W.codeIn K cd1 "is_letter" = true)
    (k1 : PySem.W.keepIn K (.ref f1) = true)
    (a2 : PySem.W.nsIn K mainGlobals "is_kind" = some (some (.ref f2)))
    (l2 : K.lookup f2 = some ⟨oc2, od2, .func (PySem.W.fnOf "is_kind" "is_kind" (defArgs s_is_kind) (defBody s_is_kind) (defScope s_is_kind) .none kV2 dc2 pm2 an2 cd2 ct2), sl2⟩)
    (c2 : PySem.W.codeIn K cd2 "is_kind" = true)
    (k2 : PySem.W.keepIn K (.ref f2) = true)
    (a3 : PySem.W.nsIn K mainGlobals "deep_steps" = some (some (.ref f3)))
    (l3 : K.lookup f3 = some ⟨oc3, od3, .func (PySem.W.fnOf "deep_steps" "deep_steps" (defArgs s_deep_steps) (defBody s_deep_steps) (defScope s_deep_steps) .none kV3 dc3 pm3 an3 cd3 ct3), sl3⟩)
    (c3 : PySem.W.codeIn K cd3 "deep_steps" = true)
    (k3 : PySem.W.keepIn K (.ref f3) = true)
    (a4 : PySem.W.nsIn K mainGlobals "ordered_steps" = some (some (.ref f4)))
    (l4 : K.lookup f4 = some ⟨oc4, od4, .func (PySem.W.fnOf "ordered_steps" "ordered_steps" (defArgs s_ordered_steps) (defBody s_ordered_steps) (defScope s_ordered_steps) .none kV4 dc4 pm4 an4 cd4 ct4), sl4⟩)
    (c4 : PySem.W.codeIn K cd4 "ordered_steps" = true)
    (k4 : PySem.W.keepIn K (.ref f4) = true)
    (a5 : PySem.W.nsIn K mainGlobals "walk" = some (some (.ref f5)))
    (l5 : K.lookup f5 = some ⟨oc5, od5, .func (PySem.W.fnOf "walk" "walk" (defArgs s_walk) (defBody s_walk) (defScope s_walk) .none kV5 dc5 pm5 an5 cd5 ct5), sl5⟩)
    (c5 : PySem.W.codeIn K cd5 "walk" = true)
    (k5 : PySem.W.keepIn K (.ref f5) = true)
    (a6 : PySem.W.nsIn K mainGlobals "walks" = some (some (.ref f6)))
    (l6 : K.lookup f6 = some ⟨oc6, od6, .func (PySem.W.fnOf "walks" "walks" (defArgs s_walks) (defBody s_walks) (defScope s_walks) .none kV6 dc6 pm6 an6 cd6 ct6), sl6⟩)
    (c6 : PySem.W.codeIn K cd6 "walks" = true)
    (k6 : PySem.W.keepIn K (.ref f6) = true)
    (a7 : PySem.W.nsIn K mainGlobals "has_different_letters" = some (some (.ref f7)))
    (l7 : K.lookup f7 = some ⟨oc7, od7, .func (PySem.W.fnOf "has_different_letters" "has_different_letters" (defArgs s_has_different_letters) (defBody s_has_different_letters) (defScope s_has_different_letters) .none kV7 dc7 pm7 an7 cd7 ct7), sl7⟩)
    (c7 : PySem.W.codeIn K cd7 "has_different_letters" = true)
    (k7 : PySem.W.keepIn K (.ref f7) = true)
    (a8 : PySem.W.nsIn K mainGlobals "is_pair" = some (some (.ref f8)))
    (l8 : K.lookup f8 = some ⟨oc8, od8, .func (PySem.W.fnOf "is_pair" "is_pair" (defArgs s_is_pair) (defBody s_is_pair) (defScope s_is_pair) .none kV8 dc8 pm8 an8 cd8 ct8), sl8⟩)
    (c8 : PySem.W.codeIn K cd8 "is_pair" = true)
    (k8 : PySem.W.keepIn K (.ref f8) = true)
    (a9 : PySem.W.nsIn K mainGlobals "pair_of" = some (some (.ref f9)))
    (l9 : K.lookup f9 = some ⟨oc9, od9, .func (PySem.W.fnOf "pair_of" "pair_of" (defArgs s_pair_of) (defBody s_pair_of) (defScope s_pair_of) .none kV9 dc9 pm9 an9 cd9 ct9), sl9⟩)
    (c9 : PySem.W.codeIn K cd9 "pair_of" = true)
    (k9 : PySem.W.keepIn K (.ref f9) = true)
    (a10 : PySem.W.nsIn K mainGlobals "_law_spring" = some (some (.ref f10)))
    (l10 : K.lookup f10 = some ⟨oc10, od10, .func (PySem.W.fnOf "_law_spring" "_law_spring" (defArgs s__law_spring) (defBody s__law_spring) (defScope s__law_spring) .none kV10 dc10 pm10 an10 cd10 ct10), sl10⟩)
    (c10 : PySem.W.codeIn K cd10 "_law_spring" = true)
    (k10 : PySem.W.keepIn K (.ref f10) = true)
    (a11 : PySem.W.nsIn K mainGlobals "_law_draw" = some (some (.ref f11)))
    (l11 : K.lookup f11 = some ⟨oc11, od11, .func (PySem.W.fnOf "_law_draw" "_law_draw" (defArgs s__law_draw) (defBody s__law_draw) (defScope s__law_draw) .none kV11 dc11 pm11 an11 cd11 ct11), sl11⟩)
    (c11 : PySem.W.codeIn K cd11 "_law_draw" = true)
    (k11 : PySem.W.keepIn K (.ref f11) = true)
    (a12 : PySem.W.nsIn K mainGlobals "_law_one" = some (some (.ref f12)))
    (l12 : K.lookup f12 = some ⟨oc12, od12, .func (PySem.W.fnOf "_law_one" "_law_one" (defArgs s__law_one) (defBody s__law_one) (defScope s__law_one) .none kV12 dc12 pm12 an12 cd12 ct12), sl12⟩)
    (c12 : PySem.W.codeIn K cd12 "_law_one" = true)
    (k12 : PySem.W.keepIn K (.ref f12) = true)
    (a13 : PySem.W.nsIn K mainGlobals "_law_same" = some (some (.ref f13)))
    (l13 : K.lookup f13 = some ⟨oc13, od13, .func (PySem.W.fnOf "_law_same" "_law_same" (defArgs s__law_same) (defBody s__law_same) (defScope s__law_same) .none kV13 dc13 pm13 an13 cd13 ct13), sl13⟩)
    (c13 : PySem.W.codeIn K cd13 "_law_same" = true)
    (k13 : PySem.W.keepIn K (.ref f13) = true)
    (a14 : PySem.W.nsIn K mainGlobals "_law_letters" = some (some (.ref f14)))
    (l14 : K.lookup f14 = some ⟨oc14, od14, .func (PySem.W.fnOf "_law_letters" "_law_letters" (defArgs s__law_letters) (defBody s__law_letters) (defScope s__law_letters) .none kV14 dc14 pm14 an14 cd14 ct14), sl14⟩)
    (c14 : PySem.W.codeIn K cd14 "_law_letters" = true)
    (k14 : PySem.W.keepIn K (.ref f14) = true)
    (a15 : PySem.W.nsIn K mainGlobals "_law_grown" = some (some (.ref f15)))
    (l15 : K.lookup f15 = some ⟨oc15, od15, .func (PySem.W.fnOf "_law_grown" "_law_grown" (defArgs s__law_grown) (defBody s__law_grown) (defScope s__law_grown) .none kV15 dc15 pm15 an15 cd15 ct15), sl15⟩)
    (c15 : PySem.W.codeIn K cd15 "_law_grown" = true)
    (k15 : PySem.W.keepIn K (.ref f15) = true)
    (a16 : PySem.W.nsIn K mainGlobals "_law_drawn_tree" = some (some (.ref f16)))
    (l16 : K.lookup f16 = some ⟨oc16, od16, .func (PySem.W.fnOf "_law_drawn_tree" "_law_drawn_tree" (defArgs s__law_drawn_tree) (defBody s__law_drawn_tree) (defScope s__law_drawn_tree) .none kV16 dc16 pm16 an16 cd16 ct16), sl16⟩)
    (c16 : PySem.W.codeIn K cd16 "_law_drawn_tree" = true)
    (k16 : PySem.W.keepIn K (.ref f16) = true)
    (a17 : PySem.W.nsIn K mainGlobals "_law_front" = some (some (.ref f17)))
    (l17 : K.lookup f17 = some ⟨oc17, od17, .func (PySem.W.fnOf "_law_front" "_law_front" (defArgs s__law_front) (defBody s__law_front) (defScope s__law_front) .none kV17 dc17 pm17 an17 cd17 ct17), sl17⟩)
    (c17 : PySem.W.codeIn K cd17 "_law_front" = true)
    (k17 : PySem.W.keepIn K (.ref f17) = true)
    (a18 : PySem.W.nsIn K mainGlobals "_law_back" = some (some (.ref f18)))
    (l18 : K.lookup f18 = some ⟨oc18, od18, .func (PySem.W.fnOf "_law_back" "_law_back" (defArgs s__law_back) (defBody s__law_back) (defScope s__law_back) .none kV18 dc18 pm18 an18 cd18 ct18), sl18⟩)
    (c18 : PySem.W.codeIn K cd18 "_law_back" = true)
    (k18 : PySem.W.keepIn K (.ref f18) = true)
    (a19 : PySem.W.nsIn K mainGlobals "_law_closed" = some (some (.ref f19)))
    (l19 : K.lookup f19 = some ⟨oc19, od19, .func (PySem.W.fnOf "_law_closed" "_law_closed" (defArgs s__law_closed) (defBody s__law_closed) (defScope s__law_closed) .none kV19 dc19 pm19 an19 cd19 ct19), sl19⟩)
    (c19 : PySem.W.codeIn K cd19 "_law_closed" = true)
    (k19 : PySem.W.keepIn K (.ref f19) = true)
    (a20 : PySem.W.nsIn K mainGlobals "_law_pair" = some (some (.ref f20)))
    (l20 : K.lookup f20 = some ⟨oc20, od20, .func (PySem.W.fnOf "_law_pair" "_law_pair" (defArgs s__law_pair) (defBody s__law_pair) (defScope s__law_pair) .none kV20 dc20 pm20 an20 cd20 ct20), sl20⟩)
    (c20 : PySem.W.codeIn K cd20 "_law_pair" = true)
    (k20 : PySem.W.keepIn K (.ref f20) = true)
    (a21 : PySem.W.nsIn K mainGlobals "_law_odd" = some (some (.ref f21)))
    (l21 : K.lookup f21 = some ⟨oc21, od21, .func (PySem.W.fnOf "_law_odd" "_law_odd" (defArgs s__law_odd) (defBody s__law_odd) (defScope s__law_odd) .none kV21 dc21 pm21 an21 cd21 ct21), sl21⟩)
    (c21 : PySem.W.codeIn K cd21 "_law_odd" = true)
    (k21 : PySem.W.keepIn K (.ref f21) = true)
    (a22 : PySem.W.nsIn K mainGlobals "_law_bent" = some (some (.ref f22)))
    (l22 : K.lookup f22 = some ⟨oc22, od22, .func (PySem.W.fnOf "_law_bent" "_law_bent" (defArgs s__law_bent) (defBody s__law_bent) (defScope s__law_bent) .none kV22 dc22 pm22 an22 cd22 ct22), sl22⟩)
    (c22 : PySem.W.codeIn K cd22 "_law_bent" = true)
    (k22 : PySem.W.keepIn K (.ref f22) = true)
    (a23 : PySem.W.nsIn K mainGlobals "_law_is_text" = some (some (.ref f23)))
    (l23 : K.lookup f23 = some ⟨oc23, od23, .func (PySem.W.fnOf "_law_is_text" "_law_is_text" (defArgs s__law_is_text) (defBody s__law_is_text) (defScope s__law_is_text) .none kV23 dc23 pm23 an23 cd23 ct23), sl23⟩)
    (c23 : PySem.W.codeIn K cd23 "_law_is_text" = true)
    (k23 : PySem.W.keepIn K (.ref f23) = true)
    (a24 : PySem.W.nsIn K mainGlobals "_law_due" = some (some (.ref f24)))
    (l24 : K.lookup f24 = some ⟨oc24, od24, .func (PySem.W.fnOf "_law_due" "_law_due" (defArgs s__law_due) (defBody s__law_due) (defScope s__law_due) .none kV24 dc24 pm24 an24 cd24 ct24), sl24⟩)
    (c24 : PySem.W.codeIn K cd24 "_law_due" = true)
    (k24 : PySem.W.keepIn K (.ref f24) = true)
    (a25 : PySem.W.nsIn K mainGlobals "_law_renamed" = some (some (.ref f25)))
    (l25 : K.lookup f25 = some ⟨oc25, od25, .func (PySem.W.fnOf "_law_renamed" "_law_renamed" (defArgs s__law_renamed) (defBody s__law_renamed) (defScope s__law_renamed) .none kV25 dc25 pm25 an25 cd25 ct25), sl25⟩)
    (c25 : PySem.W.codeIn K cd25 "_law_renamed" = true)
    (k25 : PySem.W.keepIn K (.ref f25) = true)
    (a26 : PySem.W.nsIn K mainGlobals "law" = some (some (.ref f26)))
    (l26 : K.lookup f26 = some ⟨oc26, od26, .func (PySem.W.fnOf "law" "law" (defArgs s_law) (defBody s_law) (defScope s_law) .none kV26 dc26 pm26 an26 cd26 ct26), sl26⟩)
    (c26 : PySem.W.codeIn K cd26 "law" = true)
    (k26 : PySem.W.keepIn K (.ref f26) = true)
    (z1 : PySem.W.nsIn K mainGlobals "zip" = some none)
    (z2 : PySem.W.nsIn K mainGlobals "all" = some none)
    (z3 : PySem.W.nsIn K mainGlobals "repr" = some none)
    (z4 : PySem.W.nsIn K mainGlobals "len" = some none)
    (z5 : PySem.W.nsIn K mainGlobals "isinstance" = some none)
    (z6 : PySem.W.nsIn K mainGlobals "list" = some none)
    (z7 : PySem.W.nsIn K mainGlobals "tuple" = some none)
    (z8 : PySem.W.nsIn K mainGlobals "str" = some none)
    (z9 : PySem.W.nsIn K mainGlobals "int" = some none)
    (z10 : PySem.W.nsIn K mainGlobals "bool" = some none)
    (z11 : PySem.W.nsIn K mainGlobals "dict" = some none)
    (z12 : PySem.W.nsIn K mainGlobals "range" = some none)
    (z13 : PySem.W.nsIn K mainGlobals "enumerate" = some none)
    (z14 : PySem.W.nsIn K mainGlobals "sum" = some none)
    (z15 : PySem.W.nsIn K mainGlobals "sorted" = some none)
    (z16 : PySem.W.nsIn K mainGlobals "abs" = some none)
    (z17 : PySem.W.nsIn K mainGlobals "min" = some none)
    (z18 : PySem.W.nsIn K mainGlobals "max" = some none)
    (z19 : PySem.W.nsIn K mainGlobals "set" = some none)
    (v1 : PySem.W.nsIn K mainGlobals "MAX_NODES" = some (some (.int 12 t1)))
    : ∀ (base : Heap) (H : Hp) (s : Shared) (a : Addr) (ns : List Int), K.In base → base.Ns mainGlobals mg → Env0 l.prog w K mg base callerA [] s H → SqL K H a (ns.map V.int) → ns.length ≤ 63 →
      codeAny (model l.prog w) callerA (.call (.ref fa) ⟨[.ref a], []⟩) (CR CX0 [] l.prog w H s (fun v _ => v = .bl true) fun _ _ _ => False) s := by
  intro base H s a ns _ _ en hS hn
  have e := hfa.symm.trans (PySem.W.mg_of X G a26)
  cases e
  have F1 := fun_mk (st := s_is_letter) l1 c1 k1
  have g1 := PySem.W.mg_of X G a1
  have F2 := fun_mk (st := s_is_kind) l2 c2 k2
  have g2 := PySem.W.mg_of X G a2
  have F3 := fun_mk (st := s_deep_steps) l3 c3 k3
  have g3 := PySem.W.mg_of X G a3
  have F4 := fun_mk (st := s_ordered_steps) l4 c4 k4
  have g4 := PySem.W.mg_of X G a4
  have F5 := fun_mk (st := s_walk) l5 c5 k5
  have g5 := PySem.W.mg_of X G a5
  have F6 := fun_mk (st := s_walks) l6 c6 k6
  have g6 := PySem.W.mg_of X G a6
  have F7 := fun_mk (st := s_has_different_letters) l7 c7 k7
  have g7 := PySem.W.mg_of X G a7
  have F8 := fun_mk (st := s_is_pair) l8 c8 k8
  have g8 := PySem.W.mg_of X G a8
  have F9 := fun_mk (st := s_pair_of) l9 c9 k9
  have g9 := PySem.W.mg_of X G a9
  have F10 := fun_mk (st := s__law_spring) l10 c10 k10
  have g10 := PySem.W.mg_of X G a10
  have F11 := fun_mk (st := s__law_draw) l11 c11 k11
  have g11 := PySem.W.mg_of X G a11
  have F12 := fun_mk (st := s__law_one) l12 c12 k12
  have g12 := PySem.W.mg_of X G a12
  have F13 := fun_mk (st := s__law_same) l13 c13 k13
  have g13 := PySem.W.mg_of X G a13
  have F14 := fun_mk (st := s__law_letters) l14 c14 k14
  have g14 := PySem.W.mg_of X G a14
  have F15 := fun_mk (st := s__law_grown) l15 c15 k15
  have g15 := PySem.W.mg_of X G a15
  have F16 := fun_mk (st := s__law_drawn_tree) l16 c16 k16
  have g16 := PySem.W.mg_of X G a16
  have F17 := fun_mk (st := s__law_front) l17 c17 k17
  have g17 := PySem.W.mg_of X G a17
  have F18 := fun_mk (st := s__law_back) l18 c18 k18
  have g18 := PySem.W.mg_of X G a18
  have F19 := fun_mk (st := s__law_closed) l19 c19 k19
  have g19 := PySem.W.mg_of X G a19
  have F20 := fun_mk (st := s__law_pair) l20 c20 k20
  have g20 := PySem.W.mg_of X G a20
  have F21 := fun_mk (st := s__law_odd) l21 c21 k21
  have g21 := PySem.W.mg_of X G a21
  have F22 := fun_mk (st := s__law_bent) l22 c22 k22
  have g22 := PySem.W.mg_of X G a22
  have F23 := fun_mk (st := s__law_is_text) l23 c23 k23
  have g23 := PySem.W.mg_of X G a23
  have F24 := fun_mk (st := s__law_due) l24 c24 k24
  have g24 := PySem.W.mg_of X G a24
  have F25 := fun_mk (st := s__law_renamed) l25 c25 k25
  have g25 := PySem.W.mg_of X G a25
  have F26 := fun_mk (st := s_law) l26 c26 k26
  have m_zip := PySem.W.mg_none_of X G z1
  have m_all := PySem.W.mg_none_of X G z2
  have m_repr := PySem.W.mg_none_of X G z3
  have m_len := PySem.W.mg_none_of X G z4
  have m_isinstance := PySem.W.mg_none_of X G z5
  have m_list := PySem.W.mg_none_of X G z6
  have m_tuple := PySem.W.mg_none_of X G z7
  have m_str := PySem.W.mg_none_of X G z8
  have m_int := PySem.W.mg_none_of X G z9
  have m_bool := PySem.W.mg_none_of X G z10
  have m_dict := PySem.W.mg_none_of X G z11
  have m_range := PySem.W.mg_none_of X G z12
  have m_enumerate := PySem.W.mg_none_of X G z13
  have m_sum := PySem.W.mg_none_of X G z14
  have m_sorted := PySem.W.mg_none_of X G z15
  have m_abs := PySem.W.mg_none_of X G z16
  have m_min := PySem.W.mg_none_of X G z17
  have m_max := PySem.W.mg_none_of X G z18
  have m_set := PySem.W.mg_none_of X G z19
  have m1 := PySem.W.mg_of X G v1
  have b1 := F1.binds (ps := ["value"]) fun _ _ _ _ _ _ us hl => match us, hl with | [_], _ => rfl
  have b2 := F2.binds (ps := ["value"]) fun _ _ _ _ _ _ us hl => match us, hl with | [_], _ => rfl
  have b3 := F3.binds (ps := ["tree", "kind", "path"]) fun _ _ _ _ _ _ us hl => match us, hl with | [_, _, _], _ => rfl
  have b4 := F4.binds (ps := ["tree", "kind"]) fun _ _ _ _ _ _ us hl => match us, hl with | [_, _], _ => rfl
  have b5 := F5.binds (ps := ["tree", "kind"]) fun _ _ _ _ _ _ us hl => match us, hl with | [_, _], _ => rfl
  have b7 := F7.binds (ps := ["value"]) fun _ _ _ _ _ _ us hl => match us, hl with | [_], _ => rfl
  have b8 := F8.binds (ps := ["value"]) fun _ _ _ _ _ _ us hl => match us, hl with | [_], _ => rfl
  have b9 := F9.binds (ps := ["tree"]) fun _ _ _ _ _ _ us hl => match us, hl with | [_], _ => rfl
  have b10 := F10.binds (ps := ["_law_script"]) fun _ _ _ _ _ _ us hl => match us, hl with | [_], _ => rfl
  have b11 := F11.binds (ps := ["_law_spring_here", "_law_bound"]) fun _ _ _ _ _ _ us hl => match us, hl with | [_, _], _ => rfl
  have b12 := F12.binds (ps := ["_law_spring_here", "_law_items"]) fun _ _ _ _ _ _ us hl => match us, hl with | [_, _], _ => rfl
  have b13 := F13.binds (ps := ["_law_found", "_law_due_here"]) fun _ _ _ _ _ _ us hl => match us, hl with | [_, _], _ => rfl
  have b14 := F14.binds (ps := ["_law_spring_here", "_law_many"]) fun _ _ _ _ _ _ us hl => match us, hl with | [_, _], _ => rfl
  have b15 := F15.binds (ps := ["_law_spring_here", "_law_letters_here", "_law_way"]) fun _ _ _ _ _ _ us hl => match us, hl with | [_, _, _], _ => rfl
  have b16 := F16.binds (ps := ["_law_spring_here", "_law_bound"]) fun _ _ _ _ _ _ us hl => match us, hl with | [_, _], _ => rfl
  have b17 := F17.binds (ps := ["_law_tree"]) fun _ _ _ _ _ _ us hl => match us, hl with | [_], _ => rfl
  have b18 := F18.binds (ps := ["_law_tree"]) fun _ _ _ _ _ _ us hl => match us, hl with | [_], _ => rfl
  have b19 := F19.binds (ps := ["_law_spring_here", "_law_letters_here"]) fun _ _ _ _ _ _ us hl => match us, hl with | [_, _], _ => rfl
  have b20 := F20.binds (ps := ["_law_spring_here", "_law_bound"]) fun _ _ _ _ _ _ us hl => match us, hl with | [_, _], _ => rfl
  have b21 := F21.binds (ps := ["_law_spring_here"]) fun _ _ _ _ _ _ us hl => match us, hl with | [_], _ => rfl
  have b22 := F22.binds (ps := ["_law_spring_here", "_law_value"]) fun _ _ _ _ _ _ us hl => match us, hl with | [_, _], _ => rfl
  have b23 := F23.binds (ps := ["_law_value"]) fun _ _ _ _ _ _ us hl => match us, hl with | [_], _ => rfl
  have b24 := F24.binds (ps := ["_law_value"]) fun _ _ _ _ _ _ us hl => match us, hl with | [_], _ => rfl
  have b25 := F25.binds (ps := ["_law_spring_here", "_law_tree"]) fun _ _ _ _ _ _ us hl => match us, hl with | [_, _], _ => rfl
  have M : Mgs mg := ⟨m_zip, m_all, m_repr, m_len, m_isinstance, m_list, m_tuple, m_str, m_int, m_bool, m_dict, m_range, m_enumerate, m_sum, m_sorted, m_abs, m_min, m_max⟩
  have Kk : KindsT K mg aK := ⟨PySem.W.mg_of X G aKn, fun H => .inr ⟨_, _, _, aKl, rfl, rfl, (by show 4 ≤ sizeLine; decide), .cons ⟨_, rfl⟩ (.cons ⟨_, rfl⟩ (.cons ⟨_, rfl⟩ (.cons ⟨_, rfl⟩ .nil)))⟩⟩
  have Dd1 : Df l.prog w K mg base 1 "_law_draw" ["_law_spring_here", "_law_bound"] spDraw := ⟨f11, _, ok_draw (k := 0) F11 M, b11, k11, g11⟩
  have Dd18 : Df l.prog w K mg base 18 "_law_draw" ["_law_spring_here", "_law_bound"] spDraw := ⟨f11, _, ok_draw (k := 17) F11 M, b11, k11, g11⟩
  have Dd19 : Df l.prog w K mg base 19 "_law_draw" ["_law_spring_here", "_law_bound"] spDraw := ⟨f11, _, ok_draw (k := 18) F11 M, b11, k11, g11⟩
  have Dd20 : Df l.prog w K mg base 20 "_law_draw" ["_law_spring_here", "_law_bound"] spDraw := ⟨f11, _, ok_draw (k := 19) F11 M, b11, k11, g11⟩
  have D_law_spring : Df l.prog w K mg base 1 "_law_spring" ["_law_script"] (spSpring K) := ⟨f10, _, ok_spring (k := 0) F10 M, b10, k10, g10⟩
  have D_law_letters : Df l.prog w K mg base 19 "_law_letters" ["_law_spring_here", "_law_many"] spLetters := ⟨f14, _, ok_letters (k := 17) F14 M Dd18, b14, k14, g14⟩
  have D_law_grown : Df l.prog w K mg base 19 "_law_grown" ["_law_spring_here", "_law_letters_here", "_law_way"] (spGrown 18) := ⟨f15, _, ok_grown F15 M b15 g15 Dd1 18, b15, k15, g15⟩
  have D_law_drawn_tree : Df l.prog w K mg base 20 "_law_drawn_tree" ["_law_spring_here", "_law_bound"] (spDrawnTree 18) := ⟨f16, _, ok_drawn (N := 18) F16 M Dd19 D_law_letters D_law_grown, b16, k16, g16⟩
  have D_law_front : Df l.prog w K mg base 20 "_law_front" ["_law_tree"] (spFront 20) := ⟨f17, _, ok_front F17 b17 g17 20, b17, k17, g17⟩
  have D_law_back : Df l.prog w K mg base 20 "_law_back" ["_law_tree"] (spBack 20) := ⟨f18, _, ok_back F18 b18 g18 20, b18, k18, g18⟩
  have D_law_closed : Df l.prog w K mg base 20 "_law_closed" ["_law_spring_here", "_law_letters_here"] spClosed := ⟨f19, _, ok_closed (k := 18) F19 M Dd19, b19, k19, g19⟩
  have D_law_pair : Df l.prog w K mg base 21 "_law_pair" ["_law_spring_here", "_law_bound"] spPair := ⟨f20, _, ok_pair (N := 18) (by decide) F20 M Dd20 D_law_drawn_tree D_law_front D_law_back D_law_closed, b20, k20, g20⟩
  have Dis_letter : Df l.prog w K mg base 1 "is_letter" ["value"] spLetter := ⟨f1, _, ok_letter (k := 0) F1 M, b1, k1, g1⟩
  have Dis_kind : Df l.prog w K mg base 1 "is_kind" ["value"] spKind := ⟨f2, _, ok_kind (k := 0) F2 M Kk, b2, k2, g2⟩
  have Ddeep_steps : Df l.prog w K mg base 60 "deep_steps" ["tree", "kind", "path"] (spDeep 60) := ⟨f3, _, ok_deep F3 b3 g3 60, b3, k3, g3⟩
  have Dordered_steps : Df l.prog w K mg base 61 "ordered_steps" ["tree", "kind"] spSteps := ⟨f4, _, ok_steps F4 Dis_kind Ddeep_steps, b4, k4, g4⟩
  have Dwalk : Df l.prog w K mg base 62 "walk" ["tree", "kind"] spWalk := ⟨f5, _, ok_walk F5 Dordered_steps, b5, k5, g5⟩
  have Dwalks : DfR l.prog w K mg base 63 "walks" spWalks := ⟨f6, ok_walks F6 M Dwalk, k6, g6⟩
  have Dpair_of : Df l.prog w K mg base 64 "pair_of" ["tree"] spPairOf := ⟨f9, _, ok_pairOf F9 Dwalks, b9, k9, g9⟩
  have Dhas_different_letters : Df l.prog w K mg base 2 "has_different_letters" ["value"] spHdl := ⟨f7, _, ok_hdl F7 M m_set m1 Dis_letter, b7, k7, g7⟩
  have Dis_pair : Df l.prog w K mg base 3 "is_pair" ["value"] spIsPair := ⟨f8, _, ok_isPair F8 M Dhas_different_letters, b8, k8, g8⟩
  have D_law_is_text : Df l.prog w K mg base 2 "_law_is_text" ["_law_value"] spHdl := ⟨f23, _, ok_isText (k := 1) F23 M, b23, k23, g23⟩
  have D_law_due : Df l.prog w K mg base 3 "_law_due" ["_law_value"] spIsPair := ⟨f24, _, ok_due F24 M D_law_is_text, b24, k24, g24⟩
  have D_law_one : Df l.prog w K mg base 2 "_law_one" ["_law_spring_here", "_law_items"] spOne := ⟨f12, _, ok_one (k := 0) F12 M Dd1, b12, k12, g12⟩
  have D_law_odd : Df l.prog w K mg base 3 "_law_odd" ["_law_spring_here"] spOdd := ⟨f21, _, ok_odd (k := 1) F21 D_law_one, b21, k21, g21⟩
  have D_law_bent : Df l.prog w K mg base 14 "_law_bent" ["_law_spring_here", "_law_value"] (spBent 10) := ⟨f22, _, ok_bent F22 b22 g22 M Dd1 D_law_one D_law_odd 10, b22, k22, g22⟩
  have D_law_renamed : Df l.prog w K mg base 18 "_law_renamed" ["_law_spring_here", "_law_tree"] (spRen 15) := ⟨f25, _, ok_ren F25 b25 g25 M D_law_one 15, b25, k25, g25⟩
  have D_law_same : Df l.prog w K mg base 20 "_law_same" ["_law_found", "_law_due_here"] (spSame K 20) := ⟨f13, _, ok_same F13 b13 g13 M 20, b13, k13, g13⟩
  exact run_law F26 (.of_eq rfl) en hS M D_law_spring D_law_letters D_law_pair D_law_drawn_tree D_law_front D_law_back D_law_bent D_law_odd D_law_renamed Dis_pair D_law_due Dpair_of D_law_same
theorem walk_at {l : PySem.W.OpenLaw} {q : Program} {loose : List Str} {XP : (Str → Option Value) → Heap → Prop} {YP : World → Heap → Prop} {d : DefRec} {K : Params → PySem.W.Frag} (most : l.most = some 63) (noDf : d.params.defaults = [])
    (inK : ∀ (w : World) (h : Heap), YP w h → (K w.params).In h)
    (F : ∀ (w : World) (mg : Str → Option Value) (fa : Addr) (h : Heap), (K w.params).In h → h.Ns mainGlobals mg → mg d.name = some (.ref fa) →
      ∀ (base : Heap) (H : Hp) (s : Shared) (a : Addr) (ns : List Int), (K w.params).In base → base.Ns mainGlobals mg → Env0 l.prog w (K w.params) mg base callerA [] s H → SqL (K w.params) H a (ns.map V.int) → ns.length ≤ 63 →
        codeAny (model l.prog w) callerA (.call (.ref fa) ⟨[.ref a], []⟩) (CR CX0 [] l.prog w H s (fun v _ => v = .bl true) fun _ _ _ => False) s) :
    PySem.W.WalkO q loose XP YP l.row.toRowW d [] (fun f vs => PySem.call f vs) := by
  refine Att.attach_call most noDf ?_
  intro w s₀ s₁ mg mb fa o pm cd doc a vs ns G Y ho hd hcd hmg hobj hints hlen hg
  exact law_at (inK w _ Y) G.T.g G.T.b G.T.builtins G.T.nolimit hg hobj hints (Nat.le_trans hlen (by decide)) fun base H h1 h2 en hS => F w mg fa _ (inK w _ Y) G.T.g hmg base H s₁ a ns h1 h2 en hS hlen
end Tw
open PySem PySem.W PyProof.Rows
set_option maxRecDepth 100000 in
set_option maxHeartbeats 0 in
theorem PySem.Challenge.cw_treewalks_k10_pairs_judged_holds : PySem.Challenge.rw_treewalks_k10_pairs_judged.Holds := by
  w_on; o_law; k_head; (case hw => w_witness2)
  k_fill
  refine Tw.walk_at (l := PySem.Challenge.rw_treewalks_k10_pairs_judged) rfl rfl (fun w h Y => by first | exact PySem.W.kIn_of Y | exact PySem.W.km_in_of Y) ?F
  case F =>
    intro w mg fa h KX G hmg
    refine' Tw.all_mk KX G hmg ?aKn ?aKl ?a1 ?l1 ?c1 ?k1 ?a2 ?l2 ?c2 ?k2 ?a3 ?l3 ?c3 ?k3 ?a4 ?l4 ?c4 ?k4 ?a5 ?l5 ?c5 ?k5 ?a6 ?l6 ?c6 ?k6 ?a7 ?l7 ?c7 ?k7 ?a8 ?l8 ?c8 ?k8 ?a9 ?l9 ?c9 ?k9 ?a10 ?l10 ?c10 ?k10 ?a11 ?l11 ?c11 ?k11 ?a12 ?l12 ?c12 ?k12 ?a13 ?l13 ?c13 ?k13 ?a14 ?l14 ?c14 ?k14 ?a15 ?l15 ?c15 ?k15 ?a16 ?l16 ?c16 ?k16 ?a17 ?l17 ?c17 ?k17 ?a18 ?l18 ?c18 ?k18 ?a19 ?l19 ?c19 ?k19 ?a20 ?l20 ?c20 ?k20 ?a21 ?l21 ?c21 ?k21 ?a22 ?l22 ?c22 ?k22 ?a23 ?l23 ?c23 ?k23 ?a24 ?l24 ?c24 ?k24 ?a25 ?l25 ?c25 ?k25 ?a26 ?l26 ?c26 ?k26 ?z1 ?z2 ?z3 ?z4 ?z5 ?z6 ?z7 ?z8 ?z9 ?z10 ?z11 ?z12 ?z13 ?z14 ?z15 ?z16 ?z17 ?z18 ?z19 ?v1
    (case aKn => first | k_is | rfl | decide +kernel)
    (case aKl => first | k_is | rfl | decide +kernel)
    (case a1 => k_is)
    (case l1 => k_is)
    (case c1 => k_is)
    (case k1 => k_is)
    (case a2 => k_is)
    (case l2 => k_is)
    (case c2 => k_is)
    (case k2 => k_is)
    (case a3 => k_is)
    (case l3 => k_is)
    (case c3 => k_is)
    (case k3 => k_is)
    (case a4 => k_is)
    (case l4 => k_is)
    (case c4 => k_is)
    (case k4 => k_is)
    (case a5 => k_is)
    (case l5 => k_is)
    (case c5 => k_is)
    (case k5 => k_is)
    (case a6 => k_is)
    (case l6 => k_is)
    (case c6 => k_is)
    (case k6 => k_is)
    (case a7 => k_is)
    (case l7 => k_is)
    (case c7 => k_is)
    (case k7 => k_is)
    (case a8 => k_is)
    (case l8 => k_is)
    (case c8 => k_is)
    (case k8 => k_is)
    (case a9 => k_is)
    (case l9 => k_is)
    (case c9 => k_is)
    (case k9 => k_is)
    (case a10 => k_is)
    (case l10 => k_is)
    (case c10 => k_is)
    (case k10 => k_is)
    (case a11 => k_is)
    (case l11 => k_is)
    (case c11 => k_is)
    (case k11 => k_is)
    (case a12 => k_is)
    (case l12 => k_is)
    (case c12 => k_is)
    (case k12 => k_is)
    (case a13 => k_is)
    (case l13 => k_is)
    (case c13 => k_is)
    (case k13 => k_is)
    (case a14 => k_is)
    (case l14 => k_is)
    (case c14 => k_is)
    (case k14 => k_is)
    (case a15 => k_is)
    (case l15 => k_is)
    (case c15 => k_is)
    (case k15 => k_is)
    (case a16 => k_is)
    (case l16 => k_is)
    (case c16 => k_is)
    (case k16 => k_is)
    (case a17 => k_is)
    (case l17 => k_is)
    (case c17 => k_is)
    (case k17 => k_is)
    (case a18 => k_is)
    (case l18 => k_is)
    (case c18 => k_is)
    (case k18 => k_is)
    (case a19 => k_is)
    (case l19 => k_is)
    (case c19 => k_is)
    (case k19 => k_is)
    (case a20 => k_is)
    (case l20 => k_is)
    (case c20 => k_is)
    (case k20 => k_is)
    (case a21 => k_is)
    (case l21 => k_is)
    (case c21 => k_is)
    (case k21 => k_is)
    (case a22 => k_is)
    (case l22 => k_is)
    (case c22 => k_is)
    (case k22 => k_is)
    (case a23 => k_is)
    (case l23 => k_is)
    (case c23 => k_is)
    (case k23 => k_is)
    (case a24 => k_is)
    (case l24 => k_is)
    (case c24 => k_is)
    (case k24 => k_is)
    (case a25 => k_is)
    (case l25 => k_is)
    (case c25 => k_is)
    (case k25 => k_is)
    (case a26 => k_is)
    (case l26 => k_is)
    (case c26 => k_is)
    (case k26 => k_is)
    (case z1 => k_is)
    (case z2 => k_is)
    (case z3 => k_is)
    (case z4 => k_is)
    (case z5 => k_is)
    (case z6 => k_is)
    (case z7 => k_is)
    (case z8 => k_is)
    (case z9 => k_is)
    (case z10 => k_is)
    (case z11 => k_is)
    (case z12 => k_is)
    (case z13 => k_is)
    (case z14 => k_is)
    (case z15 => k_is)
    (case z16 => k_is)
    (case z17 => k_is)
    (case z18 => k_is)
    (case z19 => k_is)
    (case v1 => k_is)
