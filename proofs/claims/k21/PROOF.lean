import PyProof.Rows.All
import Wide.All
import OpenK.AllK
import Wide.FinOn
import HandS.ForMost
import HandS.ForExc
import HandS.Wide
import HandS.WideBits
import HandS.IsInst
import HandS.Flow
import HandS.FStrTup
import HandS.NoneIn
import HandS.TupAny
import HandS.Style
import HandS.TryMany
import HandS.ExcIs
import HandS.ExcField
import HandS.ExcOwn
import KE.KExcInit
import KE.KExcIs
import HandS.Walk
import HandS.Zip
import KE.GoesZip
import KE.GoesMore
import HandS.Sort
import HandS.Set
import HandS.SetFor
import HandS.Strs
import HandS.SetTxt0
import HandS.TupSets
import HandS.DictComp
import KE.KSortTupG
import KE.KSortTupUse
import KE.SortData
import KE.DataCmp
import HandS.More
import HandS.Replace
import KE.KParD
import HandS.ReplaceLit
import HandS.ReplaceList
import HandS.ReplaceDef
import HandS.Star
import PyProof.CollectStr
import PySem.Challenge.RW_treewalks_k21_trees_counted_and_numbered
set_option Elab.async false
set_option maxRecDepth 100000
set_option maxHeartbeats 4000000
namespace Tw
open PySem PySem.Spec PyProof.Rows L2
/-! ### trees over signs -/
abbrev ch (c : Nat) : Str := ⟨#[c]⟩
def tx (l : List Nat) : Str := ⟨l.toArray⟩
theorem tx_cps (l : List Nat) : (tx l).cps.toList = l := rfl
theorem tx_size (l : List Nat) : (tx l).cps.size = l.length := rfl
theorem tx_len (l : List Nat) : (tx l).length = l.length := rfl
theorem tx_one (c : Nat) : tx [c] = ch c := rfl
theorem tx_app (a b : List Nat) : tx a ++ tx b = tx (a ++ b) := by
  show (⟨(tx a).cps ++ (tx b).cps⟩ : Str) = _
  simp [tx]
theorem ch_app (c : Nat) (b : List Nat) : ch c ++ tx b = tx (c :: b) := tx_app [c] b
theorem tx_inj {a b : List Nat} (h : tx a = tx b) : a = b := congrArg (fun z : Str => z.cps.toList) h
theorem ch_inj {a b : Nat} (h : ch a = ch b) : a = b := by have := tx_inj (a := [a]) (b := [b]) h; simpa using this
theorem ch_lt (a b : Nat) : decide ((ch a).cps.toList < (ch b).cps.toList) = decide (a < b) := by
  have : ((ch a).cps.toList < (ch b).cps.toList) ↔ a < b := by
    show [a] < [b] ↔ _
    simp [List.cons_lt_cons_iff]
  simp only [this]
theorem tx_to (l : List Nat) (k : Nat) : cutS (tx l) none (some (k : Int)) = tx (l.take k) := by
  unfold cutS tx
  show (⟨_⟩ : Str) = ⟨_⟩
  rw [HT.sIx_nat, HT.sIx_none]
  show (⟨((l.drop 0).take (min k l.length - 0)).toArray⟩ : Str) = ⟨(l.take k).toArray⟩
  rw [List.drop_zero, Nat.sub_zero, Nat.min_def]
  split
  · rfl
  · rw [List.take_of_length_le (Nat.le_refl _), List.take_of_length_le (by omega)]
theorem tx_from (l : List Nat) (k : Nat) : cutS (tx l) (some (k : Int)) none = tx (l.drop k) := by
  unfold cutS tx
  show (⟨_⟩ : Str) = ⟨_⟩
  rw [HT.sIx_nat, HT.sIx_none]
  show (⟨((l.drop (min k l.length)).take (l.length - min k l.length)).toArray⟩ : Str) = ⟨(l.drop k).toArray⟩
  by_cases h : k ≤ l.length
  · rw [Nat.min_eq_left h, List.take_of_length_le (by rw [List.length_drop]; omega)]
  · rw [Nat.min_eq_right (by omega), List.drop_eq_nil_of_le (Nat.le_refl _), List.drop_eq_nil_of_le (by omega), List.take_nil]
theorem joinL_ones : ∀ l : List Nat, TL.joinL [] (l.map fun c => [c]) = l
  | [] => rfl
  | [c] => rfl
  | c :: d :: r => by
    have := joinL_ones (d :: r)
    show [c] ++ ([] ++ TL.joinL [] ((d :: r).map fun c => [c])) = _
    rw [this]; rfl
theorem tx_join (l : List Nat) : Txt.join (Str.ofString "") (l.map ch) = tx l := by
  rw [TL.join_eq]
  have e := TL.tl_join (Str.ofString "") (l.map ch)
  refine TL.ext_tl (e.trans ?_)
  rw [List.map_map]
  exact joinL_ones l
theorem tx_joinOk (l : List Nat) (h : l.length ≤ 1000) : ((l.map ch).map (·.length)).sum + (l.map ch).length * (Str.ofString "").length ≤ 16777216 := by
  have e0 : (Str.ofString "").length = 0 := by decide +kernel
  have e1 : ∀ l : List Nat, ((l.map ch).map (·.length)).sum = l.length := by
    intro l
    induction l with
    | nil => rfl
    | cons c r ih =>
      rw [List.map_cons, List.map_cons, List.sum_cons, ih, List.length_cons]
      show 1 + r.length = _
      omega
  rw [e0, e1]
  omega
inductive B where
  | nil
  | node (l : B) (x : Nat) (r : B)
  deriving DecidableEq
def B.size : B → Nat
  | .nil => 0
  | .node l _ r => l.size + 1 + r.size
def B.deep : B → Nat
  | .nil => 0
  | .node l _ r => 1 + max l.deep r.deep
def B.data : B → PyData
  | .nil => .none
  | .node l x r => .tuple [l.data, .str (ch x), r.data]
def B.pre : B → List Nat
  | .nil => []
  | .node l x r => x :: (l.pre ++ r.pre)
def B.mid : B → List Nat
  | .nil => []
  | .node l x r => l.mid ++ x :: r.mid
theorem B.deep_le : ∀ t : B, t.deep ≤ t.size
  | .nil => Nat.le_refl _
  | .node l _ r => by
    have h1 := l.deep_le
    have h2 := r.deep_le
    show 1 + max l.deep r.deep ≤ l.size + 1 + r.size
    omega
theorem B.pre_len : ∀ t : B, t.pre.length = t.size
  | .nil => rfl
  | .node l x r => by
    have h1 := l.pre_len
    have h2 := r.pre_len
    show (x :: (l.pre ++ r.pre)).length = l.size + 1 + r.size
    rw [List.length_cons, List.length_append]
    omega
theorem B.mid_len : ∀ t : B, t.mid.length = t.size
  | .nil => rfl
  | .node l x r => by
    have h1 := l.mid_len
    have h2 := r.mid_len
    show (l.mid ++ x :: r.mid).length = l.size + 1 + r.size
    rw [List.length_append, List.length_cons]
    omega
theorem B.mid_mem (t : B) (c : Nat) : c ∈ t.mid ↔ c ∈ t.pre := by
  induction t with
  | nil => exact Iff.rfl
  | node l x r h1 h2 =>
    show c ∈ l.mid ++ x :: r.mid ↔ c ∈ x :: (l.pre ++ r.pre)
    rw [List.mem_append, List.mem_cons, List.mem_cons, List.mem_append, h1, h2]
    constructor
    · rintro (h | h | h)
      · exact .inr (.inl h)
      · exact .inl h
      · exact .inr (.inr h)
    · rintro (h | h | h)
      · exact .inr (.inl h)
      · exact .inl h
      · exact .inr (.inr h)
/-- the tree t lies at v -/
inductive BAt (H : Hp) : V → B → Prop
  | nil : BAt H .non .nil
  | node {a : Addr} {l r : V} {x : Nat} {tl tr : B} : H a = some (.tup [l, .str (ch x), r]) → BAt H l tl → BAt H r tr → BAt H (.ref a) (.node tl x tr)
/-- tuples stand still -/
def KeepT (H H' : Hp) : Prop := ∀ b xs, H b = some (.tup xs) → H' b = some (.tup xs)
theorem KeepT.refl (H : Hp) : KeepT H H := fun _ _ h => h
theorem KeepT.trans {H H1 H2 : Hp} (a : KeepT H H1) (b : KeepT H1 H2) : KeepT H H2 := fun c xs h => b c xs (a c xs h)
theorem Same.keepT {H H' : Hp} (h : Same H H') : KeepT H H' := fun b xs e => h b _ e
theorem BAt.keep {H H' : Hp} (k : KeepT H H') {v : V} {t : B} (h : BAt H v t) : BAt H' v t := by
  induction h with
  | nil => exact .nil
  | node e _ _ h1 h2 => exact .node (k _ _ e) h1 h2
theorem BAt.same {H H' : Hp} (k : Same H H') {v : V} {t : B} (h : BAt H v t) : BAt H' v t := h.keep (Tw.Same.keepT k)
theorem BAt.dp {K : PySem.W.Frag} {H : Hp} {v : V} {t : B} (h : BAt H v t) : Dp K H v t.data := by
  induction h with
  | nil => exact .non
  | node e _ _ h1 h2 => exact .tup (SqT.of e) (.cons h1 (.cons (.str _) (.cons h2 .nil)))
theorem BAt.inv {H : Hp} {v : V} {t : B} (h : BAt H v t) : (v = .non ∧ t = .nil) ∨ ∃ a l r x tl tr, v = .ref a ∧ t = .node tl x tr ∧ H a = some (.tup [l, .str (ch x), r]) ∧ BAt H l tl ∧ BAt H r tr := by
  cases h with
  | nil => exact .inl ⟨rfl, rfl⟩
  | node e h1 h2 => exact .inr ⟨_, _, _, _, _, _, rfl, rfl, e, h1, h2⟩
theorem same_new {H : Hp} {p : Addr} (h : H p = none) (o : HO) : Same H (upd H p o) := fun b u q => by rw [upd_ne (ne_of_none q h)]; exact q
theorem small {n : Nat} (h : n ≤ 1000) : n ≤ sizeLine := Nat.le_of_lt (small1000 h)
theorem at_map {α : Type} {f : α → V} {ns : List α} {i : Int} {v : α} (h0 : 0 ≤ i) (h : ns[i.toNat]? = some v) : atI (ns.map f) i = some (f v) := by
  have e : i = ((i.toNat : Nat) : Int) := by omega
  rw [e]
  exact atI_nat (by rw [List.getElem?_map, h]; rfl)
theorem ixN_nat {n : Nat} {i : Int} (h0 : 0 ≤ i) (h : i < n) : ixN n i = some i.toNat := by
  unfold ixN
  first
    | rw [if_pos h0, if_pos h]
    | (rw [if_pos h0]; rw [if_pos (by omega)])
    | simp [h0, h]
theorem cut_to (xs : List V) (k : Nat) : cutV xs none (some (k : Int)) = xs.take k := by
  unfold cutV
  rw [HT.sIx_nat, HT.sIx_none, List.drop_zero, Nat.sub_zero]
  rw [Nat.min_def]
  split
  · rfl
  · rw [List.take_of_length_le (Nat.le_refl _), List.take_of_length_le (by omega)]
theorem cut_from (xs : List V) (k : Nat) : cutV xs (some (k : Int)) none = xs.drop k := by
  unfold cutV
  rw [HT.sIx_nat, HT.sIx_none]
  by_cases h : k ≤ xs.length
  · rw [Nat.min_eq_left h, List.take_of_length_le (by rw [List.length_drop]; omega)]
  · rw [Nat.min_eq_right (by omega), List.drop_eq_nil_of_le (Nat.le_refl _), List.drop_eq_nil_of_le (by omega), List.take_nil]
theorem kept {σ : L2.St} {H : Hp} {A B : Hp → Prop} (h : A H) : tYes σ H (fun b H3 => if b = true then A H3 else B H3) := by
  show if true = true then A H else B H
  exact iteT h
theorem erase_map {α β : Type} (f : α → β) : ∀ (l : List α) (i : Nat), (l.map f).eraseIdx i = (l.eraseIdx i).map f
  | [], _ => rfl
  | _ :: _, 0 => rfl
  | x :: l, i + 1 => congrArg (f x :: ·) (erase_map f l i)
/-- a def that stands at a name, with its promise -/
structure Df (P : Program) (w : World) (K : PySem.W.Frag) (mg : Str → Option Value) (base : Heap) (k : Nat) (nm : Str) (ps : List Str) (sp : Sp) where
  f : Addr
  fd : FuncData
  ok : FnOk P w K mg base CX0 k f fd ps sp
  b : Binds K fd ps []
  kp : PySem.W.keepIn K (.ref f) = true
  g : mg nm = some (.ref f)
structure Mgs (mg : Str → Option Value) : Prop where
  zip : mg "zip" = none
  all : mg "all" = none
  repr : mg "repr" = none
  sum : mg "sum" = none
  len : mg "len" = none
  isinstance : mg "isinstance" = none
  list : mg "list" = none
  tuple : mg "tuple" = none
  str : mg "str" = none
  int : mg "int" = none
  bool : mg "bool" = none
  dict : mg "dict" = none
  range : mg "range" = none
  sorted : mg "sorted" = none
  abs : mg "abs" = none
  min : mg "min" = none
  max : mg "max" = none
theorem vals_signs : ∀ (l : List Nat) (vs : List Value), vs.length = l.length → (∀ (j : Nat) (v : Value), vs[j]? = some v → ∃ c u, l[j]? = some c ∧ v = .str ⟨#[c]⟩ u) → Vals (l.map fun c => V.str ⟨#[c]⟩) vs
  | [], [], _, _ => .nil
  | [], _ :: _, h, _ => by simp at h
  | _ :: _, [], h, _ => by simp at h
  | c :: l, v :: vs, h, k => by
    obtain ⟨c', u, e, rfl⟩ := k 0 v rfl
    cases e
    exact .cons ⟨u, rfl⟩ (vals_signs l vs (by simpa using h) fun j v e => k (j + 1) v e)
theorem call_signs {X : Cx} (hc : X.calm = true) : CallR X (.type "list") (fun xs H Q => ∃ x : Str, xs = [.str x] ∧ x.cps.size ≤ 1000 ∧ ∀ p, H p = none → Q (.ref p) (upd H p (.lst (x.cps.toList.map fun c => V.str ⟨#[c]⟩)))) := by
  intro pins s σ H xs us Q I r h
  obtain ⟨x, rfl, hz, q⟩ := h
  obtain ⟨u, rfl, t, rfl⟩ := vals1 r
  have hz' : x.cps.size ≤ sizeLine := small hz
  refine call_list_str (I.ok.hd hc) x t (fun h' tk acc' c' hk hS hacc => ?_) hz'
  have hv : Vals (x.cps.toList.map fun c => V.str ⟨#[c]⟩) acc'.toList := vals_signs _ _ (by rw [Array.length_toList, Array.length_toList]; exact hacc.1) fun j v e => by
    obtain ⟨c, u, h1, h2⟩ := hacc.2 j v (by rw [← Array.getElem?_toList]; exact e)
    exact ⟨c, u, by rw [Array.getElem?_toList]; exact h1, h2⟩
  exact ⟨.ref s.heap.objs.size, _, I.laid (t' := tk) hk (Nat.le_refl _) (show ObjOk X.prog X.w _ h' _ (.lst _) from ⟨by rw [List.length_map, Array.length_toList]; exact hz', acc'.toList, c', hv, by rw [Array.toArray_toList]; exact hS⟩), rfl, q _ (I.hok.fresh (Nat.le_refl _))⟩
/-- for c in text -/
theorem for_text {x : Str} {g : TG} {tb : TS} {D : Ends} {σ : L2.St} {H : Hp} (Pv : Nat → L2.St → Hp → Prop) (h0 : Pv 0 σ H)
    (hs : ∀ i c σ H, x.cps.toList[i]? = some c → Pv i σ H → g (.str ⟨#[c]⟩) σ H fun σ2 H2 => tb { D with nx := Pv (i + 1), ct := Pv (i + 1), bk := D.nx } σ2 H2)
    (hd : ∀ σ H, Pv x.cps.toList.length σ H → D.nx σ H) :
    ∃ W : Nat → Nat → L2.St → Hp → Prop, (∃ m, W 0 m σ H) ∧ ∀ i m σ H, W i m σ H →
      ((Its x).stop i H ∧ D.nx σ H) ∨ ((Its x).go i H ∧ ∃ N : L2.St → Hp → Prop, (∀ σ' H', N σ' H' → ∃ m', m' < m ∧ W (i + 1) m' σ' H') ∧ ∀ v H', (Its x).yld i H v H' → g v σ H' fun σ2 H2 => tb { D with nx := N, ct := N, bk := D.nx } σ2 H2) := by
  refine for_it walk_str Pv h0 (fun _ _ _ _ _ => trivial) (fun i v σ H H' hi hp hy => ?_) (fun σ H hp => hd σ H (by rw [Array.length_toList]; exact hp))
  obtain ⟨rfl, c, hc, rfl⟩ := hy
  exact hs i c σ H' (by rw [Array.getElem?_toList]; exact hc) hp
theorem lc_text {x : Str} {g : TG} {tt : TT} {te : TE} {vs : List Nat} {σ : L2.St} {H1 : Hp} {D : Addr} {Qd : Hp → Prop} (Pv : Nat → Hp → Prop) (h0 : Pv 0 (upd H1 D (.lst [])))
    (hs : ∀ i c H, x.cps.toList[i]? = some c → Pv i H → g (.str ⟨#[c]⟩) (wipe σ vs) H fun σ2 H2 => wipe σ2 vs = wipe σ vs ∧ tt σ2 H2 fun b H3 =>
      if b = true then te σ2 H3 fun y H4 => ∃ acc, H4 D = some (.lst acc) ∧ acc.length < sizeLine ∧ Pv (i + 1) (upd H4 D (.lst (acc ++ [y]))) else Pv (i + 1) H3) (hd : ∀ H, Pv x.cps.toList.length H → Qd H) :
    ∃ W : Nat → Nat → Hp → Prop, (∃ m, W 0 m (upd H1 D (.lst []))) ∧ ∀ i m H, W i m H →
      ((Its x).stop i H ∧ Qd H) ∨ ((Its x).go i H ∧ ∃ Nx : Hp → Prop, (∀ H', Nx H' → ∃ m', m' < m ∧ W (i + 1) m' H') ∧ ∀ v H', (Its x).yld i H v H' → g v (wipe σ vs) H' fun σ2 H2 => wipe σ2 vs = wipe σ vs ∧ tt σ2 H2 fun b H3 =>
        if b = true then te σ2 H3 fun y H4 => ∃ acc, H4 D = some (.lst acc) ∧ acc.length < sizeLine ∧ Nx (upd H4 D (.lst (acc ++ [y]))) else Nx H3) := by
  refine lc_it walk_str Pv h0 (fun _ _ _ _ => trivial) (fun i v H H' hi hp hy => ?_) (fun H hp => hd H (by rw [Array.length_toList]; exact hp))
  obtain ⟨rfl, c, hc, rfl⟩ := hy
  exact hs i c H' (by rw [Array.getElem?_toList]; exact hc) hp
/-! ### the text by places -/
def top (i : Nat) : Stmt := PySem.Challenge.pw_treewalks_k21_trees_counted_and_numbered.main.body.getD i (.Pass ⟨0, 0, 0, 0⟩)
abbrev s_is_letter : Stmt := top 11
abbrev s_is_whole_number : Stmt := top 12
abbrev s_is_index : Stmt := top 13
abbrev s_is_node : Stmt := top 15
abbrev s_is_tree : Stmt := top 16
abbrev s_size_of : Stmt := top 17
abbrev s_is_kind : Stmt := top 20
abbrev s_ordered_steps : Stmt := top 21
abbrev s_deep_steps : Stmt := top 22
abbrev s_level_steps : Stmt := top 23
abbrev s_walk : Stmt := top 24
abbrev s_walks : Stmt := top 25
abbrev s_is_row : Stmt := top 28
abbrev s_three_rows : Stmt := top 29
abbrev s_whole_of : Stmt := top 30
abbrev s_common_letters : Stmt := top 31
abbrev s_allowed_splits : Stmt := top 32
abbrev s_counts_of : Stmt := top 33
abbrev s_add_counts : Stmt := top 34
abbrev s_live_splits : Stmt := top 35
abbrev s_choices : Stmt := top 36
abbrev s_tree_fits : Stmt := top 37
abbrev s_count_trees : Stmt := top 38
abbrev s_numbered_part : Stmt := top 39
abbrev s_tree_at : Stmt := top 40
abbrev s_part_index : Stmt := top 41
abbrev s_tree_index : Stmt := top 42
abbrev s__law_deck : Stmt := top 44
abbrev s__law_draw : Stmt := top 45
abbrev s__law_mixed : Stmt := top 46
abbrev s__law_same : Stmt := top 47
abbrev s__law_size : Stmt := top 48
abbrev s__law_shapes : Stmt := top 49
abbrev s__law_spots : Stmt := top 50
abbrev s__law_letter : Stmt := top 51
abbrev s__law_labelled : Stmt := top 52
abbrev s__law_shape : Stmt := top 53
abbrev s__law_tree : Stmt := top 54
abbrev s__law_walks : Stmt := top 55
abbrev s__law_hidden : Stmt := top 56
abbrev s__law_rows : Stmt := top 57
abbrev s__law_power : Stmt := top 58
abbrev s__law_number : Stmt := top 59
abbrev s__law_key : Stmt := top 60
abbrev s__law_all : Stmt := top 61
abbrev s__law_left_out_right : Stmt := top 62
abbrev s_law : Stmt := top 63
abbrev s_BadRow___init__ : Stmt := inClass (top 4) 0
abbrev s_NotAlike___init__ : Stmt := inClass (top 5) 0
abbrev s_NoKind___init__ : Stmt := inClass (top 7) 0
abbrev s_NoIndex___init__ : Stmt := inClass (top 8) 0
theorem sc_is_letter : FnScope ["value"] ["value"] (defScope s_is_letter) := ⟨rfl, rfl, rfl, by decide +kernel, rfl, by decide +kernel, by decide +kernel⟩
theorem sc_is_whole_number : FnScope ["value"] ["value"] (defScope s_is_whole_number) := ⟨rfl, rfl, rfl, by decide +kernel, rfl, by decide +kernel, by decide +kernel⟩
theorem sc_is_index : FnScope ["value", "many"] ["value", "many"] (defScope s_is_index) := ⟨rfl, rfl, rfl, by decide +kernel, rfl, by decide +kernel, by decide +kernel⟩
theorem sc_is_node : FnScope ["value"] ["value"] (defScope s_is_node) := ⟨rfl, rfl, rfl, by decide +kernel, rfl, by decide +kernel, by decide +kernel⟩
theorem sc_is_tree : FnScope ["value", "count", "waiting", "part", "side"] ["value"] (defScope s_is_tree) := ⟨rfl, rfl, rfl, by decide +kernel, rfl, by decide +kernel, by decide +kernel⟩
theorem sc_size_of : FnScope ["tree"] ["tree"] (defScope s_size_of) := ⟨rfl, rfl, rfl, by decide +kernel, rfl, by decide +kernel, by decide +kernel⟩
theorem sc_is_kind : FnScope ["value"] ["value"] (defScope s_is_kind) := ⟨rfl, rfl, rfl, by decide +kernel, rfl, by decide +kernel, by decide +kernel⟩
theorem sc_ordered_steps : FnScope ["tree", "kind"] ["tree", "kind"] (defScope s_ordered_steps) := ⟨rfl, rfl, rfl, by decide +kernel, rfl, by decide +kernel, by decide +kernel⟩
theorem sc_deep_steps : FnScope ["tree", "kind", "path", "left", "label", "right", "root", "lefts", "rights"] ["tree", "kind", "path"] (defScope s_deep_steps) := ⟨rfl, rfl, rfl, by decide +kernel, rfl, by decide +kernel, by decide +kernel⟩
theorem sc_level_steps : FnScope ["tree"] ["tree"] (defScope s_level_steps) := ⟨rfl, rfl, rfl, by decide +kernel, rfl, by decide +kernel, by decide +kernel⟩
theorem sc_walk : FnScope ["tree", "kind", "path", "label"] ["tree", "kind"] (defScope s_walk) := ⟨rfl, rfl, rfl, by decide +kernel, rfl, by decide +kernel, by decide +kernel⟩
theorem sc_is_row : FnScope ["value", "sign"] ["value"] (defScope s_is_row) := ⟨rfl, rfl, rfl, by decide +kernel, rfl, by decide +kernel, by decide +kernel⟩
theorem sc_three_rows : FnScope ["rows", "name", "names", "size", "kind"] ["rows"] (defScope s_three_rows) := ⟨rfl, rfl, rfl, by decide +kernel, rfl, by decide +kernel, by decide +kernel⟩
theorem sc_whole_of : FnScope ["given"] ["given"] (defScope s_whole_of) := ⟨rfl, rfl, rfl, by decide +kernel, rfl, by decide +kernel, by decide +kernel⟩
theorem sc_common_letters : FnScope ["signs", "known"] ["signs"] (defScope s_common_letters) := ⟨rfl, rfl, rfl, by decide +kernel, rfl, by decide +kernel, by decide +kernel⟩
theorem sc_allowed_splits : FnScope ["given", "stretch", "size", "first", "between", "last", "found", "many", "letters", "left", "right"] ["given", "stretch"] (defScope s_allowed_splits) := ⟨rfl, rfl, rfl, by decide +kernel, rfl, by decide +kernel, by decide +kernel⟩
theorem sc_counts_of : FnScope ["given", "counts"] ["given"] (defScope s_counts_of) := ⟨rfl, rfl, rfl, by decide +kernel, rfl, by decide +kernel, by decide +kernel⟩
theorem sc_add_counts : FnScope ["given", "stretch", "counts", "total", "letters", "left", "right"] ["given", "stretch", "counts"] (defScope s_add_counts) := ⟨rfl, rfl, rfl, by decide +kernel, rfl, by decide +kernel, by decide +kernel⟩
theorem sc_live_splits : FnScope ["given", "counts", "stretch", "splits", "letters", "left", "right"] ["given", "counts", "stretch"] (defScope s_live_splits) := ⟨rfl, rfl, rfl, by decide +kernel, rfl, by decide +kernel, by decide +kernel⟩
theorem sc_choices : FnScope ["given", "counts", "stretch", "splits", "letters", "left", "right", "letter"] ["given", "counts", "stretch"] (defScope s_choices) := ⟨rfl, rfl, rfl, by decide +kernel, rfl, by decide +kernel, by decide +kernel⟩
theorem sc_tree_fits : FnScope ["tree", "given", "told", "row", "text", "sign", "label"] ["tree", "given"] (defScope s_tree_fits) := ⟨rfl, rfl, rfl, by decide +kernel, rfl, by decide +kernel, by decide +kernel⟩
theorem sc_numbered_part : FnScope ["given", "counts", "stretch", "index", "rest", "letter", "left", "right", "many", "at_left", "at_right"] ["given", "counts", "stretch", "index"] (defScope s_numbered_part) := ⟨rfl, rfl, rfl, by decide +kernel, rfl, by decide +kernel, by decide +kernel⟩
theorem sc_part_index : FnScope ["given", "counts", "stretch", "tree", "before", "letter", "left", "right", "at_left"] ["given", "counts", "stretch", "tree"] (defScope s_part_index) := ⟨rfl, rfl, rfl, by decide +kernel, rfl, by decide +kernel, by decide +kernel⟩
theorem sc__law_deck : FnScope ["_law_script", "_law_cells", "_law_cell"] ["_law_script"] (defScope s__law_deck) := ⟨rfl, rfl, rfl, by decide +kernel, rfl, by decide +kernel, by decide +kernel⟩
theorem sc__law_draw : FnScope ["_law_deck_here", "_law_many", "_law_at", "_law_digit", "_law_mixed_here"] ["_law_deck_here", "_law_many"] (defScope s__law_draw) := ⟨rfl, rfl, rfl, by decide +kernel, rfl, by decide +kernel, by decide +kernel⟩
theorem sc__law_mixed : FnScope ["_law_deck_here", "_law_row", "_law_left", "_law_found"] ["_law_deck_here", "_law_row"] (defScope s__law_mixed) := ⟨rfl, rfl, rfl, by decide +kernel, rfl, by decide +kernel, by decide +kernel⟩
theorem sc__law_same : FnScope ["_law_found", "_law_due", "_law_k"] ["_law_found", "_law_due"] (defScope s__law_same) := ⟨rfl, rfl, rfl, by decide +kernel, rfl, by decide +kernel, by decide +kernel⟩
theorem sc__law_size : FnScope ["_law_tree_here"] ["_law_tree_here"] (defScope s__law_size) := ⟨rfl, rfl, rfl, by decide +kernel, rfl, by decide +kernel, by decide +kernel⟩
theorem sc__law_shapes : FnScope ["_law_many", "_law_found", "_law_size_here", "_law_some", "_law_split", "_law_left", "_law_right"] ["_law_many"] (defScope s__law_shapes) := ⟨rfl, rfl, rfl, by decide +kernel, rfl, by decide +kernel, by decide +kernel⟩
theorem sc__law_spots : FnScope ["_law_shape_here", "_law_a", "_law_b", "_law_c", "_law_many", "_law_split", "_law_found"] ["_law_shape_here", "_law_a", "_law_b", "_law_c"] (defScope s__law_spots) := ⟨rfl, rfl, rfl, by decide +kernel, rfl, by decide +kernel, by decide +kernel⟩
theorem sc__law_letter : FnScope ["_law_rows_here", "_law_spot", "_law_k", "_law_known"] ["_law_rows_here", "_law_spot"] (defScope s__law_letter) := ⟨rfl, rfl, rfl, by decide +kernel, rfl, by decide +kernel, by decide +kernel⟩
theorem sc__law_labelled : FnScope ["_law_shape_here", "_law_letters", "_law_split"] ["_law_shape_here", "_law_letters"] (defScope s__law_labelled) := ⟨rfl, rfl, rfl, by decide +kernel, rfl, by decide +kernel, by decide +kernel⟩
theorem sc__law_shape : FnScope ["_law_deck_here", "_law_many", "_law_way", "_law_split"] ["_law_deck_here", "_law_many", "_law_way"] (defScope s__law_shape) := ⟨rfl, rfl, rfl, by decide +kernel, rfl, by decide +kernel, by decide +kernel⟩
theorem sc__law_tree : FnScope ["_law_deck_here", "_law_most", "_law_many", "_law_some", "_law_node", "_law_letters"] ["_law_deck_here", "_law_most"] (defScope s__law_tree) := ⟨rfl, rfl, rfl, by decide +kernel, rfl, by decide +kernel, by decide +kernel⟩
theorem sc__law_walks : FnScope ["_law_tree_here", "_law_one", "_law_other", "_law_label"] ["_law_tree_here"] (defScope s__law_walks) := ⟨rfl, rfl, rfl, by decide +kernel, rfl, by decide +kernel, by decide +kernel⟩
theorem sc__law_hidden : FnScope ["_law_deck_here", "_law_row", "_law_way", "_law_sign"] ["_law_deck_here", "_law_row"] (defScope s__law_hidden) := ⟨rfl, rfl, rfl, by decide +kernel, rfl, by decide +kernel, by decide +kernel⟩
theorem sc__law_rows : FnScope ["_law_deck_here", "_law_most", "_law_row", "_law_rows_here", "_law_which", "_law_spot"] ["_law_deck_here", "_law_most"] (defScope s__law_rows) := ⟨rfl, rfl, rfl, by decide +kernel, rfl, by decide +kernel, by decide +kernel⟩
theorem sc__law_power : FnScope ["_law_many", "_law_found", "_law_k"] ["_law_many"] (defScope s__law_power) := ⟨rfl, rfl, rfl, by decide +kernel, rfl, by decide +kernel, by decide +kernel⟩
theorem sc__law_number : FnScope ["_law_rows_here", "_law_total", "_law_shape_here", "_law_spot", "_law_letters"] ["_law_rows_here"] (defScope s__law_number) := ⟨rfl, rfl, rfl, by decide +kernel, rfl, by decide +kernel, by decide +kernel⟩
theorem sc__law_key : FnScope ["_law_tree_here"] ["_law_tree_here"] (defScope s__law_key) := ⟨rfl, rfl, rfl, by decide +kernel, rfl, by decide +kernel, by decide +kernel⟩
theorem sc__law_all : FnScope ["_law_rows_here", "_law_found", "_law_shape_here", "_law_spot", "_law_letters", "_law_tree_here", "_law_key_here"] ["_law_rows_here"] (defScope s__law_all) := ⟨rfl, rfl, rfl, by decide +kernel, rfl, by decide +kernel, by decide +kernel⟩
theorem sc__law_left_out_right : FnScope ["_law_a", "_law_b", "_law_c", "_law_due", "_law_found", "_law_blank"] ["_law_a", "_law_b", "_law_c", "_law_due"] (defScope s__law_left_out_right) := ⟨rfl, rfl, rfl, by decide +kernel, rfl, by decide +kernel, by decide +kernel⟩
theorem sc_law : FnScope ["_law_script", "_law_deck_here", "_law_turn", "_law_a", "_law_b", "_law_c", "_law_due", "_law_some", "_law_index", "_law_tree_here"] ["_law_script"] (defScope s_law) := ⟨rfl, rfl, rfl, by decide +kernel, rfl, by decide +kernel, by decide +kernel⟩
theorem sc_BadRow___init__ : FnScope ["self", "name"] ["self", "name"] (defScope s_BadRow___init__) := ⟨rfl, rfl, rfl, by decide +kernel, rfl, by decide +kernel, by decide +kernel⟩
theorem sc_NotAlike___init__ : FnScope ["self", "name"] ["self", "name"] (defScope s_NotAlike___init__) := ⟨rfl, rfl, rfl, by decide +kernel, rfl, by decide +kernel, by decide +kernel⟩
theorem sc_NoKind___init__ : FnScope ["self", "value"] ["self", "value"] (defScope s_NoKind___init__) := ⟨rfl, rfl, rfl, by decide +kernel, rfl, by decide +kernel, by decide +kernel⟩
theorem sc_NoIndex___init__ : FnScope ["self", "value"] ["self", "value"] (defScope s_NoIndex___init__) := ⟨rfl, rfl, rfl, by decide +kernel, rfl, by decide +kernel, by decide +kernel⟩
/-! ### def f(a, .., **d), called with keywords: a new dict of them -/
theorem push_last (h : Heap) (o : Obj) (f : Obj → Obj) : (h.push o).update h.objs.size f = h.push (f o) := by
  obtain ⟨objs, l⟩ := h
  show (⟨(objs.push o).modify objs.size f, l⟩ : Heap) = ⟨objs.push (f o), l⟩
  refine congrArg (fun z => (⟨z, l⟩ : Heap)) (Array.ext_getElem? fun i => ?_)
  rw [Array.getElem?_modify, Array.getElem?_push, Array.getElem?_push]
  by_cases e : objs.size = i
  · subst e
    simp
  · rw [if_neg e, if_neg (fun z => e z.symm), if_neg (fun z => e z.symm)]
section
variable {P : Program} {w : World} {A : Around} {E : Value → Shared → Prop}
/-- one entry more -/
theorem kw_put {z : Shared} {es : List DictEntry} {n t : Nat} {k : Str} {v : Value} {Q : Unit → Shared → Prop} (new : ∀ e ∈ es, ∃ k' u, e.key = .str k' u ∧ k' ≠ k)
    (h : ∀ n' t', Q () { z with heap := z.heap.push (PySem.W.dictOf (es ++ [⟨PyData.keyHash w.params k, .str k t, v⟩]) n'), toks := t' }) :
    wpAny (model P w) A (nsSet z.heap.objs.size k v) Q E { z with heap := z.heap.push (PySem.W.dictOf es n), toks := t } := by
  have here : (z.heap.push (PySem.W.dictOf es n)).get? z.heap.objs.size = some (PySem.W.dictOf es n) := Heap.get?_push_size _ rfl
  have other : ∀ e ∈ es, e.key.isStr k = false := fun e he => by
    obtain ⟨k', u, ek, ne⟩ := new e he
    rw [ek]
    exact beq_eq_false_iff_ne.mpr ne
  have named : aRefKeyMayBeTheName k es.toArray = false := by
    rw [aRefKeyMayBeTheName_at]
    have : es.toArray.any (·.refKey) = false := by
      rw [← Array.any_toList]
      refine List.any_eq_false.mpr fun e he => ?_
      obtain ⟨k', u, ek, _⟩ := new e he
      show ¬ e.refKey = true
      unfold DictEntry.refKey
      rw [ek]
      exact Bool.false_ne_true
    rw [this, Bool.and_false]
  unfold nsSet
  refine wpAny_bind (wpAny_bind (wpAny_askSetting (wpAny_pure ?_)))
  refine wpAny_bind (wpAny_mkText ?_)
  refine wpAny_bind (wpAny_loadPart here ?_)
  show wpAny _ _ (if aRefKeyMayBeTheName k es.toArray = true then _ else _) _ _ _
  rw [named]
  refine wpAny_updatePart (s := { z with heap := z.heap.push (PySem.W.dictOf es n), toks := t + 1 }) here ?_
  rw [push_last, PySem.W.putName_dict, PySem.W.putL_new other]
  exact h _ _
/-- all entries -/
theorem kw_fill {z : Shared} {Q : PUnit → Shared → Prop} : ∀ (ex : List (Str × Value)) (es : List DictEntry) (n t : Nat), (∀ e ∈ es, ∃ k' u, e.key = .str k' u ∧ ∀ x ∈ ex, k' ≠ x.1) → (ex.map (·.1)).Nodup →
    (∀ n' t' es', Pairs (mixKind P w) es' (ex.map fun x => ((.inr x.1 : Key), x.2)) → (∀ e ∈ es', ∃ k u, e.key = .str k u ∧ e.hash = PyData.keyHash w.params k) → Q ⟨⟩ { z with heap := z.heap.push (PySem.W.dictOf (es ++ es') n'), toks := t' }) →
    wpAny (model P w) A (forIn ex PUnit.unit fun x _ => (nsSet z.heap.objs.size x.1 x.2 >>= fun _ => pure (ForInStep.yield PUnit.unit))) Q E { z with heap := z.heap.push (PySem.W.dictOf es n), toks := t }
  | [], es, n, t, _, _, h => by
    rw [List.forIn_nil]
    refine wpAny_pure ?_
    have := h n t [] .nil (fun e he => by cases he)
    rw [List.append_nil] at this
    exact this
  | (k, v) :: ex, es, n, t, old, nd, h => by
    obtain ⟨nk, nd⟩ := List.nodup_cons.mp (show (k :: ex.map (·.1)).Nodup from nd)
    rw [List.forIn_cons]
    refine wpAny_bind (wpAny_bind (kw_put (fun e he => ?_) fun n1 t1 => wpAny_pure ?_))
    · obtain ⟨k', u, ek, ne⟩ := old e he
      exact ⟨k', u, ek, ne (k, v) List.mem_cons_self⟩
    refine kw_fill ex _ n1 t1 (fun e he => ?_) nd fun n' t' es' pr hs => ?_
    · rcases List.mem_append.mp he with he | he
      · obtain ⟨k', u, ek, ne⟩ := old e he
        exact ⟨k', u, ek, fun x hx => ne x (List.mem_cons_of_mem _ hx)⟩
      · rw [List.mem_singleton.mp he]
        exact ⟨k, t, rfl, fun x hx e => nk (List.mem_map.mpr ⟨x, hx, e.symm⟩)⟩
    · have := h n' t' (⟨PyData.keyHash w.params k, .str k t, v⟩ :: es') (.cons (mixKind_str P w k t) rfl pr) (fun e he => by
        rcases List.mem_cons.mp he with rfl | he
        · exact ⟨k, t, rfl, rfl⟩
        · exact hs e he)
      rw [List.append_assoc]
      exact this
end
/-- what such a def's binding comes to -/
structure KwBind (fd : FuncData) (ps : List Str) (pd : Str) (ks : List Str) : Prop where
  eq : ∀ us ws : List Value, us.length = ps.length → ws.length = ks.length → bindArgs fd ⟨us, ks.zip ws⟩ =
    ((alloc ({ cls := .type "dict", data := .dict #[] } : Obj) : Sem Addr) >>= fun d => (forIn (ks.zip ws) PUnit.unit fun x _ => (nsSet d x.1 x.2 >>= fun _ => pure (ForInStep.yield PUnit.unit))) >>= fun _ => pure (ps.zip us ++ [(pd, Value.ref d)]))
  nd : ks.Nodup
/-- its promise: vs the values, zs the keywords' -/
def FnKw (P : Program) (w : World) (K : PySem.W.Frag) (mg : Str → Option Value) (base : Heap) (k : Nat) (f : Addr) (n : Nat) (ks : List Str) (sp : List V → List V → Hp → VK → Prop) : Prop :=
  ∀ (A : Around) (outer : List Env) (s : Shared) (H : Hp) (us ws : List Value) (vs zs : List V) (Q : VK), Room k A → Env0 P w K mg base A outer s H → Vals vs us → vs.length = n → Vals zs ws → zs.length = ks.length → sp vs zs H Q →
    codeAny (model P w) A (.call (.ref f) ⟨us, ks.zip ws⟩) (CR CX0 outer P w H s Q E0) s
theorem kv_zip : ∀ {ks : List Str} {zs : List V} {ws : List Value}, Vals zs ws → zs.length = ks.length → KV ((ks.zip zs).map fun x => ((.inr x.1 : Key), x.2)) ((ks.zip ws).map fun x => ((.inr x.1 : Key), x.2))
  | [], _, _, .nil, _ => .nil
  | k :: ks, _, _, .cons r h, e => .cons ⟨rfl, r⟩ (kv_zip h (by simpa using e))
section
variable {P : Program} {w : World} {K : PySem.W.Frag} {mg : Str → Option Value} {base : Heap}
theorem fnKw {x qual : Str} {st : Stmt} {f : Addr} {fd : FuncData} {N ps ks : List Str} {pd : Str} {k : Nat} {sp : List V → List V → Hp → VK → Prop} (F : Fun K x qual st f fd) (B : KwBind fd ps pd ks) (few : ks.length ≤ 1000) (S : FnScope N (ps ++ [pd]) (defScope st))
    (body : ∀ (cdv : Value) (A : Around) (outer : List Env) (s : Shared) (H : Hp) (vs zs : List V) (d : Addr) (Q : VK), Room k (A.deeper (envOfC qual (defScope st) s.heap.objs.size f cdv)) → H d = some (.dK ((ks.zip zs).map fun x => ((.inr x.1 : Key), x.2))) → zs.length = ks.length →
      (∃ H0, H0 d = none ∧ H = upd H0 d (.dK ((ks.zip zs).map fun x => ((.inr x.1 : Key), x.2))) ∧ sp vs zs H0 Q) →
      ∃ t, PSs (cxOf CX0 P w K mg base N qual (defScope st) f cdv A outer s H E0).nox (defBody st) t ∧ t { nx := fun _ H' => Q .non H', rt := Q } (start N (vs ++ [.ref d])) H) :
    FnKw P w K mg base (k + 1) f ps.length ks sp := by
  intro A outer s H us ws vs zs Q room e0 rv lv rz lz q
  obtain ⟨oc, od, kV, doc, pm, an, cdv, ct, osl, e, look, code⟩ := F.ex
  subst e
  have lus : us.length = ps.length := by rw [← rv.length]; exact lv
  have lws : ws.length = ks.length := by rw [← rz.length]; exact lz
  have fresh : H s.heap.objs.size = none := e0.hok.fresh (Nat.le_refl _)
  refine StX.run_bnd look code S room e0 (G := fun xs H2 => ∃ d, H d = none ∧ xs = vs ++ [V.ref d] ∧ H2 = upd H d (.dK ((ks.zip zs).map fun x => ((.inr x.1 : Key), x.2)))) (fun A' Ex Q' fin => ?_) fun s2 H2 xs g room2 => ?_
  · rw [B.eq us ws lus lws]
    refine wpAny_bind (wpAny_alloc ?_)
    have names : ((ks.zip ws).map (·.1)) = ks := List.map_fst_zip (Nat.le_of_eq lws.symm)
    refine wpAny_bind (kw_fill (z := s) (ks.zip ws) [] 0 s.toks (fun e he => by cases he) (by rw [names]; exact B.nd) fun n' t' es' pr hs => wpAny_pure ?_)
    rw [List.nil_append]
    have ok : ObjOk P w (upd H s.heap.objs.size (.dK ((ks.zip zs).map fun x => ((.inr x.1 : Key), x.2)))) (s.heap.push (PySem.W.dictOf es' n')) s.heap.objs.size (.dK ((ks.zip zs).map fun x => ((.inr x.1 : Key), x.2))) := by
      refine ⟨?_, beq_eq_false_iff_ne.mpr (Ne.symm (Nat.ne_of_lt (StX.env0_big e0))), _, kv_zip rz lz, _, es'.toArray, n', Heap.get?_push_size _ rfl, ⟨rfl, rfl, rfl⟩, rfl, fun e he => ?_, pr, ?_⟩
      · rw [List.length_map, List.length_zip]
        exact small (by omega)
      · obtain ⟨k', u, ek, eh⟩ := hs e (List.mem_toArray.mp he)
        exact ⟨.inr k', by rw [ek]; exact mixKind_str P w k' u, eh⟩
      · rw [List.map_map]
        have : (ks.zip ws).map ((fun x : Key × Value => x.1) ∘ fun x => ((.inr x.1 : Key), x.2)) = ((ks.zip ws).map (·.1)).map Sum.inr := by rw [List.map_map]; rfl
        rw [this, names]
        exact List.Pairwise.map _ (fun _ _ ne e => ne (Sum.inr.inj e)) B.nd
    have en := StX.env0_laid e0 ok
    have un := StX.un_laid (fs := frs outer) (s := s) (o := PySem.W.dictOf es' n') (u := .dK ((ks.zip zs).map fun x => ((.inr x.1 : Key), x.2))) fresh
    have z := fin { s with heap := s.heap.push (PySem.W.dictOf es' n'), toks := t' } _ (vs ++ [V.ref s.heap.objs.size]) (us ++ [Value.ref s.heap.objs.size]) ⟨en.frames, en.mod, en.bs, en.bsz, en.funs, en.frf, en.hok, en.bare⟩ un rfl (fun _ _ h => h.elim)
      (rv.append (.cons rfl .nil)) (by rw [List.length_append, List.length_append, lv]; rfl) ⟨_, fresh, rfl, rfl⟩
    rw [List.zip_append lus.symm] at z
    exact z
  · obtain ⟨d, nd, rfl, rfl⟩ := g
    obtain ⟨t, rule, read⟩ := body cdv A outer s2 _ vs zs d Q room2 upd_same lz ⟨H, nd, rfl, q⟩
    exact ⟨t, rule.nox, read⟩
end
/-- f(e, .., k = v, ..) of such a def -/
def tCallKw (n m : Nat) (sp : List V → List V → Hp → VK → Prop) (t tk : TA) : TE := fun σ H Q => t σ H fun vs H1 => tk σ H1 fun zs H2 => vs.length = n ∧ zs.length = m ∧ sp vs zs H2 Q
theorem pe_callKw {X : Cx} {k n : Nat} {f : Addr} {ks : List Str} {sp : List V → List V → Hp → VK → Prop} {x : Str} {p pos : Pos} {e : Expr} {es : List Expr} {kws : List Keyword} {t tk : TA} (F : FnKw X.prog X.w X.K X.mg X.base k f n ks sp) (room : Room k X.A) (isG : Gl X x) (at0 : X.mg x = some (.ref f)) (kp : PySem.W.keepIn X.K (.ref f) = true)
    (args : PA X (e :: es) t) (kargs : PK X kws tk) (all : (backToKw pos (keywordEach kws X.env)).all (·.1.isSome) = true := by rfl) (names : (backToKw pos (keywordEach kws X.env)).filterMap (·.1) = ks := by rfl)
    (nd : (x == ("__debug__" : Str)) = false := by decide) (he : starEach (e :: es) X.env = (false, eval e X.env) :: starEach es X.env := by rfl)
    (plain : ((backTo pos (starEach (e :: es) X.env)).any (·.1) || (backToKw pos (keywordEach kws X.env)).any (·.1.isNone)) = false := by rfl) :
    PE X (.Call (.Name x p) (e :: es) kws pos) (tCallKw n ks.length sp t tk) := by
  refine ⟨fun pins s σ H Q I h => wpAny_Call_Name_kw (ld_glob I isG at0 ?_ nd)⟩
  refine PySem.W.callWith_KW (h₀ := X.base) I.ok.mod.kin kp all (thn (args.run pos pins s σ H _ I h) fun us s1 ⟨vs, H1, I1, rv, q1⟩ => ?_) plain he
  refine thn (kargs.run pos pins s1 σ H1 _ I1 q1) fun ws s2 ⟨zs, H2, I2, rz, l1, l2, q2⟩ => ⟨I2.kIn, ?_⟩
  rw [names]
  refine wpAny_call (codeAny_mono (F X.A X.stack s2 H2 us ws vs zs Q room I2.env0 rv l1 rz l2 q2) fun r z hq => ?_)
  match r, hq with
  | .ok (.ret u), hq => exact I2.after hq
/-! ### xs != [], xs == [] -/
section
variable {X : Cx}
theorem op_neL (hu : X.A.units < cLine) : OpR X (compareOp .NotEq) (fun x y H Q => ∃ a b xs, x = .ref a ∧ y = .ref b ∧ SqL X.K H a xs ∧ SqL X.K H b [] ∧ Q (.bl (!xs.isEmpty)) H) := by
  intro pins s σ H x y v u Q I rx ry h
  obtain ⟨a, b, xs, rfl, rfl, hx, hy, q⟩ := h
  cases rx
  cases ry
  obtain ⟨its, r1, t1, _⟩ := I.list hx
  obtain ⟨its2, r2, t2, _⟩ := I.list hy
  cases r2
  cases r1 with
  | nil =>
    have rc := SeqAt.RcNeAt.lists (A := X.A) (s := s) (items := ([] : List Value).toArray) (items2 := ([] : List Value).toArray) (e := fun _ => true) t1.isList t2.isList rfl hu (fun j h1 _ => absurd h1 (by simp))
    exact rc X.prog X.w X.xe _ ⟨.bl _, H, I, rfl, q⟩
  | cons _ _ =>
    have rc := SeqAt.RcNeAt.lists_lengths (A := X.A) (s := s) t1.isList t2.isList (by simp) hu
    exact rc X.prog X.w X.xe _ ⟨.bl _, H, I, rfl, q⟩
theorem cmpOf_ltS {prog : Program} {w : World} {A : Around} (x y : Str) (t u : Tok) :
    CmpOf prog w A .Lt (fun i v => (#[Value.str x t, Value.str y u])[i]? = some v) (fun i j => decide (([x, y].getD i x).cps.toList < ([x, y].getD j x).cps.toList)) := fun i j vi vj s Q E hi hj h => by
  have one : ∀ (i : Nat) (v : Value), (#[Value.str x t, Value.str y u])[i]? = some v → ∃ tk, v = .str ([x, y].getD i x) tk := fun i v e => by
    match i with
    | 0 => exact ⟨t, by simpa using e.symm⟩
    | 1 => exact ⟨u, by simpa using e.symm⟩
    | n + 2 => simp at e
  obtain ⟨t1, rfl⟩ := one i vi hi
  obtain ⟨t2, rfl⟩ := one j vj hj
  exact lt_str h
theorem cmpOf_gtS {prog : Program} {w : World} {A : Around} (x y : Str) (t u : Tok) :
    CmpOf prog w A .Gt (fun i v => (#[Value.str x t, Value.str y u])[i]? = some v) (fun i j => decide (([x, y].getD j x).cps.toList < ([x, y].getD i x).cps.toList)) := fun i j vi vj s Q E hi hj h => by
  have one : ∀ (i : Nat) (v : Value), (#[Value.str x t, Value.str y u])[i]? = some v → ∃ tk, v = .str ([x, y].getD i x) tk := fun i v e => by
    match i with
    | 0 => exact ⟨t, by simpa using e.symm⟩
    | 1 => exact ⟨u, by simpa using e.symm⟩
    | n + 2 => simp at e
  obtain ⟨t1, rfl⟩ := one i vi hi
  obtain ⟨t2, rfl⟩ := one j vj hj
  exact PySem.P.gt_str h
theorem argBest1 (bt : Nat → Nat → Bool) : argBest bt 1 = if bt 1 0 = true then 1 else 0 := rfl
theorem max_two_str {prog : Program} {w : World} {A : Around} {E : Value → Shared → Prop} {s : Shared} {Q : Value → Shared → Prop} {x y : Str} {t u : Tok} (hh : A.handled = none)
    (h : ∀ h' tk, (∀ c o, s.heap.get? c = some o → h'.get? c = some o) → Q (if x.cps.toList < y.cps.toList then .str y u else .str x t) { s with heap := h', toks := tk }) :
    wpAny (model prog w) A (call (.builtin "max") [.str x t, .str y u]) Q E s := by
  have hT : (s.heap.push { cls := .type "tuple", data := .seq #[.str x t, .str y u] }).IsTuple s.heap.objs.size #[.str x t, .str y u] := ⟨_, Heap.get?_push_size _ rfl, rfl, 0, rfl⟩
  refine call_max_two (wpAny_pyIter_tuple hT ?_)
  have hsz : (s.heap.push { cls := .type "tuple", data := .seq #[.str x t, .str y u] }).objs.size = s.heap.objs.size + 1 := Heap.size_push ..
  refine ⟨_, [_, s.heap.objs.size], [_], _, _, _, _, rfl, Walks.tuple (A := A.in1) hh _ s.heap.objs.size (by rw [hsz]; exact Nat.ne_of_lt (Nat.lt_succ_self _)) #[.str x t, .str y u],
    ⟨⟨_, Heap.get?_push_size _ rfl, rfl, rfl⟩, hT.push _⟩, fun c hc => ?_, by simp, cmpOf_gtS x y t u, fun v h' tk hP hk => ?_⟩
  · show c < ((s.heap.push _).push _).objs.size
    rw [Heap.size_push, hsz]
    rcases List.mem_cons.mp hc with rfl | hc
    · rw [hsz]; exact Nat.lt_succ_self _
    · rcases List.mem_cons.mp hc with rfl | hc
      · exact Nat.lt_succ_of_lt (Nat.lt_succ_self _)
      · cases hc
  · have hold : ∀ c o, s.heap.get? c = some o → h'.get? c = some o := fun c o e => by
      refine hk c o (fun hm => ?_) (Heap.get?_push_of_some _ (Heap.get?_push_of_some _ e))
      rcases List.mem_cons.mp hm with e1 | hm
      · have := Heap.lt_size e; rw [e1, hsz] at this; exact Nat.lt_irrefl _ (Nat.lt_of_succ_lt this)
      · cases hm
    have := h h' tk hold
    have hv : v = if x.cps.toList < y.cps.toList then .str y u else .str x t := by
      rw [show #[Value.str x t, Value.str y u].size - 1 = 1 from rfl, argBest1] at hP
      replace hP : #[Value.str x t, Value.str y u][if decide (x.cps.toList < y.cps.toList) = true then 1 else 0]? = some v := hP
      by_cases hc : x.cps.toList < y.cps.toList
      · rw [if_pos (decide_eq_true hc)] at hP
        rw [if_pos hc]
        exact (Option.some.inj hP).symm
      · rw [if_neg (fun z => hc (of_decide_eq_true z))] at hP
        rw [if_neg hc]
        exact (Option.some.inj hP).symm
    rw [hv]; exact this
theorem min_two_str {prog : Program} {w : World} {A : Around} {E : Value → Shared → Prop} {s : Shared} {Q : Value → Shared → Prop} {x y : Str} {t u : Tok} (hh : A.handled = none)
    (h : ∀ h' tk, (∀ c o, s.heap.get? c = some o → h'.get? c = some o) → Q (if y.cps.toList < x.cps.toList then .str y u else .str x t) { s with heap := h', toks := tk }) :
    wpAny (model prog w) A (call (.builtin "min") [.str x t, .str y u]) Q E s := by
  have hT : (s.heap.push { cls := .type "tuple", data := .seq #[.str x t, .str y u] }).IsTuple s.heap.objs.size #[.str x t, .str y u] := ⟨_, Heap.get?_push_size _ rfl, rfl, 0, rfl⟩
  refine call_min_two (wpAny_pyIter_tuple hT ?_)
  have hsz : (s.heap.push { cls := .type "tuple", data := .seq #[.str x t, .str y u] }).objs.size = s.heap.objs.size + 1 := Heap.size_push ..
  refine ⟨_, [_, s.heap.objs.size], [_], _, _, _, _, rfl, Walks.tuple (A := A.in1) hh _ s.heap.objs.size (by rw [hsz]; exact Nat.ne_of_lt (Nat.lt_succ_self _)) #[.str x t, .str y u],
    ⟨⟨_, Heap.get?_push_size _ rfl, rfl, rfl⟩, hT.push _⟩, fun c hc => ?_, by simp, cmpOf_ltS x y t u, fun v h' tk hP hk => ?_⟩
  · show c < ((s.heap.push _).push _).objs.size
    rw [Heap.size_push, hsz]
    rcases List.mem_cons.mp hc with rfl | hc
    · rw [hsz]; exact Nat.lt_succ_self _
    · rcases List.mem_cons.mp hc with rfl | hc
      · exact Nat.lt_succ_of_lt (Nat.lt_succ_self _)
      · cases hc
  · have hold : ∀ c o, s.heap.get? c = some o → h'.get? c = some o := fun c o e => by
      refine hk c o (fun hm => ?_) (Heap.get?_push_of_some _ (Heap.get?_push_of_some _ e))
      rcases List.mem_cons.mp hm with e1 | hm
      · have := Heap.lt_size e; rw [e1, hsz] at this; exact Nat.lt_irrefl _ (Nat.lt_of_succ_lt this)
      · cases hm
    have := h h' tk hold
    have hv : v = if y.cps.toList < x.cps.toList then .str y u else .str x t := by
      rw [show #[Value.str x t, Value.str y u].size - 1 = 1 from rfl, argBest1] at hP
      replace hP : #[Value.str x t, Value.str y u][if decide (y.cps.toList < x.cps.toList) = true then 1 else 0]? = some v := hP
      by_cases hc : y.cps.toList < x.cps.toList
      · rw [if_pos (decide_eq_true hc)] at hP
        rw [if_pos hc]
        exact (Option.some.inj hP).symm
      · rw [if_neg (fun z => hc (of_decide_eq_true z))] at hP
        rw [if_neg hc]
        exact (Option.some.inj hP).symm
    rw [hv]; exact this
theorem call_max2S (hc : X.calm = true) : CallR X (.builtin "max") (fun xs H Q => ∃ a b : Nat, xs = [.str (ch a), .str (ch b)] ∧ Q (.str (ch (max a b))) H) := by
  intro pins s σ H xs us Q I r h
  obtain ⟨a, b, rfl, q⟩ := h
  obtain ⟨u, w', rfl, ⟨t, rfl⟩, ⟨t', rfl⟩⟩ := vals2 r
  refine max_two_str (I.ok.hd hc) fun h' tk k => ⟨_, H, I.kept k, ?_, q⟩
  have e : ((ch a).cps.toList < (ch b).cps.toList) ↔ a < b := by
    have := ch_lt a b
    simpa using this
  by_cases hj : a < b
  · rw [if_pos (e.mpr hj), Nat.max_eq_right (Nat.le_of_lt hj)]; exact ⟨_, rfl⟩
  · rw [if_neg (fun z => hj (e.mp z)), Nat.max_eq_left (by omega)]; exact ⟨_, rfl⟩
theorem call_min2S (hc : X.calm = true) : CallR X (.builtin "min") (fun xs H Q => ∃ a b : Nat, xs = [.str (ch a), .str (ch b)] ∧ Q (.str (ch (min a b))) H) := by
  intro pins s σ H xs us Q I r h
  obtain ⟨a, b, rfl, q⟩ := h
  obtain ⟨u, w', rfl, ⟨t, rfl⟩, ⟨t', rfl⟩⟩ := vals2 r
  refine min_two_str (I.ok.hd hc) fun h' tk k => ⟨_, H, I.kept k, ?_, q⟩
  have e : ((ch b).cps.toList < (ch a).cps.toList) ↔ b < a := by
    have := ch_lt b a
    simpa using this
  by_cases hj : b < a
  · rw [if_pos (e.mpr hj), Nat.min_eq_right (Nat.le_of_lt hj)]; exact ⟨_, rfl⟩
  · rw [if_neg (fun z => hj (e.mp z)), Nat.min_eq_left (by omega)]; exact ⟨_, rfl⟩
end
/-! ### the deck -/
structure Deck where
  dk : Addr
  ca : Addr
  ra : Addr
structure DeckOk (H : Hp) (D : Deck) (n : Nat) : Prop where
  ex : ∃ cells rests : List Int, H D.dk = some (.lst [.ref D.ca, .int (n : Int), .ref D.ra]) ∧ H D.ca = some (.lst (cells.map V.int)) ∧ H D.ra = some (.lst (rests.map V.int)) ∧ 0 < cells.length ∧ rests.length = cells.length ∧ cells.length ≤ 64
  dc : D.dk ≠ D.ca
  dr : D.dk ≠ D.ra
  cr : D.ca ≠ D.ra
/-- all stands still but the deck's list and its rests -/
def SameD (D : Deck) (H H' : Hp) : Prop := ∀ b o, b ≠ D.dk → b ≠ D.ra → H b = some o → H' b = some o
theorem SameD.refl (D : Deck) (H : Hp) : SameD D H H := fun _ _ _ _ h => h
theorem SameD.trans {D : Deck} {H H1 H2 : Hp} (a : SameD D H H1) (b : SameD D H1 H2) : SameD D H H2 := fun c o h1 h2 h => b c o h1 h2 (a c o h1 h2 h)
theorem SameD.of {D : Deck} {H H' : Hp} (h : Same H H') : SameD D H H' := fun b o _ _ e => h b o e
theorem DeckOk.lists {H : Hp} {D : Deck} {n : Nat} (d : DeckOk H D n) : (∃ xs, H D.dk = some (.lst xs)) ∧ (∃ xs, H D.ra = some (.lst xs)) := by
  obtain ⟨c, r, h1, _, h3, _⟩ := d.ex
  exact ⟨⟨_, h1⟩, ⟨_, h3⟩⟩
theorem SameD.keepT {D : Deck} {H H' : Hp} {n : Nat} (h : SameD D H H') (d : DeckOk H D n) : KeepT H H' := fun b xs e => by
  obtain ⟨⟨x1, h1⟩, ⟨x2, h2⟩⟩ := d.lists
  exact h b _ (ne_of e h1 (by intro z; cases z)) (ne_of e h2 (by intro z; cases z)) e
theorem SameD.free {D : Deck} {H H' : Hp} {n : Nat} (h : SameD D H H') (d : DeckOk H' D n) {p : Addr} (e : H' p = none) : H p = none := by
  obtain ⟨⟨x1, h1⟩, ⟨x2, h2⟩⟩ := d.lists
  have n1 : p ≠ D.dk := fun z => by rw [z, h1] at e; cases e
  have n2 : p ≠ D.ra := fun z => by rw [z, h2] at e; cases e
  cases q : H p with
  | none => rfl
  | some o =>
    rw [h p o n1 n2 q] at e
    cases e
theorem DeckOk.same {H H' : Hp} {D : Deck} {n : Nat} (d : DeckOk H D n) (h : Same H H') : DeckOk H' D n := by
  obtain ⟨c, r, h1, h2, h3, h4⟩ := d.ex
  exact ⟨⟨c, r, h _ _ h1, h _ _ h2, h _ _ h3, h4⟩, d.dc, d.dr, d.cr⟩
structure Off (D : Deck) (p : Addr) : Prop where
  dk : p ≠ D.dk
  ca : p ≠ D.ca
  ra : p ≠ D.ra
theorem DeckOk.new {H : Hp} {D : Deck} {n : Nat} (d : DeckOk H D n) {p : Addr} (e : H p = none) : Off D p := by
  obtain ⟨c, r, h1, h2, h3, _⟩ := d.ex
  refine ⟨fun z => ?_, fun z => ?_, fun z => ?_⟩
  · rw [z, h1] at e
    cases e
  · rw [z, h2] at e
    cases e
  · rw [z, h3] at e
    cases e
theorem DeckOk.put {H : Hp} {D : Deck} {n : Nat} (d : DeckOk H D n) {p : Addr} (f : Off D p) (o : HO) : DeckOk (upd H p o) D n := by
  obtain ⟨c, r, h1, h2, h3, h4⟩ := d.ex
  exact ⟨⟨c, r, by rw [upd_ne f.dk.symm]; exact h1, by rw [upd_ne f.ca.symm]; exact h2, by rw [upd_ne f.ra.symm]; exact h3, h4⟩, d.dc, d.dr, d.cr⟩
theorem SameD.put {D : Deck} {H H' : Hp} {p : Addr} (s : SameD D H H') (e : H p = none) (o : HO) : SameD D H (upd H' p o) := fun b u h1 h2 h => by
  rw [upd_ne (ne_of_none h e)]
  exact s b u h1 h2 h
theorem SameD.at {D : Deck} {H H' : Hp} {p : Addr} {o : HO} (s : SameD D H H') (f : Off D p) (e : H p = some o) : H' p = some o := s p o f.dk f.ra e
theorem modB (z p : Int) (h0 : 0 < p) : 0 ≤ z % p ∧ z % p < p := ⟨Int.emod_nonneg z (by omega), Int.emod_lt_of_pos z h0⟩
def spDraw : Sp := fun vs H Q _ => ∃ (D : Deck) (n : Nat) (m : Int), vs = [.ref D.dk, .int m] ∧ DeckOk H D n ∧ n < 1000000 ∧ 0 < m ∧ m < 1073741824 ∧ ∀ (i : Int) (H' : Hp), 0 ≤ i → i < m → DeckOk H' D (n + 1) → SameD D H H' → Q (.int i) H'
theorem sq_le {n : Nat} (h : n ≤ 1000000) : 69621 * (n : Int) * (n : Int) ≤ 69621000000000000 ∧ 0 ≤ 69621 * (n : Int) * (n : Int) := by
  have h1 : (n : Int) * (n : Int) ≤ 1000000 * 1000000 := Int.mul_le_mul (by omega) (by omega) (by omega) (by omega)
  have h0 : 0 ≤ (n : Int) * (n : Int) := Int.mul_nonneg (by omega) (by omega)
  rw [Int.mul_assoc]
  omega
section
variable {P : Program} {w : World} {K : PySem.W.Frag} {mg : Str → Option Value} {base : Heap} {f : Addr} {fd : FuncData}
theorem ok_draw {k : Nat} (F : Fun K "_law_draw" "_law_draw" s__law_draw f fd) (M : Mgs mg) : FnOk P w K mg base CX0 (k + 1) f fd ["_law_deck_here", "_law_many"] spDraw := by
  refine F.ok sc__law_draw (fun vs H Q E h => ?_) (fun cdv A outer s H vs Q E hr h => ?_)
  · obtain ⟨D, n, m, rfl, _⟩ := h
    rfl
  obtain ⟨D, n, m, rfl, d, hn, m0, m1, q⟩ := h
  obtain ⟨cells, rests, e1, e2, e3, c0, cr, c1⟩ := d.ex
  have cl : ((cells.map V.int).length : Int) = (cells.length : Int) := by rw [List.length_map]
  have z0 : atI [V.ref D.ca, V.int (n : Int), V.ref D.ra] 0 = some (.ref D.ca) := atI_nat (j := 0) rfl
  have z1 : atI [V.ref D.ca, V.int (n : Int), V.ref D.ra] 1 = some (.int (n : Int)) := atI_nat (j := 1) rfl
  refine ⟨_, (pss_cons (ps_set (i := 2) sc__law_draw.nd rfl (.inl rfl) (pe_op op_mod (pe_ix ix_list (pv 0) pe_int (fun _ _ => rfl)) (pe_callB call_len_seq rfl M.len PySem.boot_len (pa_cons (pe_ix ix_list (pv 0) pe_int (fun _ _ => rfl)) pa_nil))))
    (pss_cons (ps_asg (pe_op op_add (pe_ix ix_list (pv 0) pe_int (fun _ _ => rfl)) pe_int) (pg_sub (pv 0) pe_int set_list))
    (pss_cons (ps_if (pt_cmpR op_gt (pe_ix ix_list (pe_ix ix_list (pv 0) pe_int (fun _ _ => rfl)) (pv 2) (fun _ _ => rfl)) pe_int (nomark _))
      (pss_cons (ps_set (i := 3) sc__law_draw.nd rfl (.inl rfl) (pe_op op_mod (pe_ix ix_list (pe_ix ix_list (pv 0) pe_int (fun _ _ => rfl)) (pv 2) (fun _ _ => rfl)) (pv 1)))
    (pss_cons (ps_asg (pe_op op_fdiv (pe_ix ix_list (pe_ix ix_list (pv 0) pe_int (fun _ _ => rfl)) (pv 2) (fun _ _ => rfl)) (pv 1)) (pg_sub (pe_ix ix_list (pv 0) pe_int (fun _ _ => rfl)) (pv 2) set_list))
    (pss_one (ps_ret (pv 3))))) pss_nil)
    (pss_cons (ps_set (i := 4) sc__law_draw.nd rfl (.inl rfl) (pe_op op_mod (pe_op op_pow (pe_op op_add (pe_op op_add (pe_op op_mod (pe_ix ix_list (pe_ix ix_list (pv 0) pe_int (fun _ _ => rfl)) (pv 2) (fun _ _ => rfl)) pe_int) (pe_op op_mul pe_int (pe_ix ix_list (pv 0) pe_int (fun _ _ => rfl)))) pe_int) pe_int) pe_int))
    (pss_cons (ps_set (i := 4) sc__law_draw.nd rfl (.inl rfl) (pe_op op_mod (pe_op op_pow (pe_op op_add (pv 4) (pe_op op_mul (pe_op op_mul pe_int (pe_ix ix_list (pv 0) pe_int (fun _ _ => rfl))) (pe_ix ix_list (pv 0) pe_int (fun _ _ => rfl)))) pe_int) pe_int))
    (pss_one (ps_ret (pe_op op_mod (pe_op op_fdiv (pv 4) pe_int) (pv 1))))))))), ?_⟩
  refine ⟨_, rfl, D.dk, _, _, _, rfl, rfl, SqL.of e1, z1, _, rfl, D.dk, _, _, _, rfl, rfl, SqL.of e1, z0, D.ca, _, rfl, .inl (SqL.of e2), _, _, rfl, rfl, (by show (0 : Int) < ((cells.map V.int).length : Int); rw [cl]; omega), ?_⟩
  have i0 : 0 ≤ (n : Int) % ((cells.map V.int).length : Int) := Int.emod_nonneg _ (by rw [cl]; omega)
  have i1 : (n : Int) % ((cells.map V.int).length : Int) < (cells.length : Int) := by
    rw [cl]
    exact Int.emod_lt_of_pos _ (by omega)
  have l1 : ((n : Int) % ((cells.map V.int).length : Int)).toNat < rests.length := by omega
  have l2 : ((n : Int) % ((cells.map V.int).length : Int)).toNat < cells.length := by omega
  have a1 := at_map (f := V.int) i0 (List.getElem?_eq_getElem l1)
  have a2 := at_map (f := V.int) i0 (List.getElem?_eq_getElem l2)
  have ix1 : ixN (rests.map V.int).length ((n : Int) % ((cells.map V.int).length : Int)) = some ((n : Int) % ((cells.map V.int).length : Int)).toNat := ixN_nat i0 (by rw [List.length_map (as := rests), cr]; exact i1)
  refine ⟨_, rfl, D.dk, _, _, _, rfl, rfl, SqL.of e1, z1, _, _, rfl, rfl, _, rfl, D.dk, _, _, 1, rfl, rfl, e1, rfl, ?_⟩
  have x1 : (upd H D.dk (.lst [.ref D.ca, .int ((n : Int) + 1), .ref D.ra])) D.dk = some (.lst [.ref D.ca, .int ((n + 1 : Nat) : Int), .ref D.ra]) := upd_same
  have x2 : (upd H D.dk (.lst [.ref D.ca, .int ((n : Int) + 1), .ref D.ra])) D.ca = some (.lst (cells.map V.int)) := by rw [upd_ne d.dc.symm]; exact e2
  have x3 : (upd H D.dk (.lst [.ref D.ca, .int ((n : Int) + 1), .ref D.ra])) D.ra = some (.lst (rests.map V.int)) := by rw [upd_ne d.dr.symm]; exact e3
  have sd : SameD D H (upd H D.dk (.lst [.ref D.ca, .int ((n : Int) + 1), .ref D.ra])) := fun b o h1 _ e => by rw [upd_ne h1]; exact e
  have y0 : atI [V.ref D.ca, V.int ((n + 1 : Nat) : Int), V.ref D.ra] 0 = some (.ref D.ca) := atI_nat (j := 0) rfl
  have y1 : atI [V.ref D.ca, V.int ((n + 1 : Nat) : Int), V.ref D.ra] 1 = some (.int ((n + 1 : Nat) : Int)) := atI_nat (j := 1) rfl
  have y2 : atI [V.ref D.ca, V.int ((n + 1 : Nat) : Int), V.ref D.ra] 2 = some (.ref D.ra) := atI_nat (j := 2) rfl
  have sx1 := SqL.of (K := K) x1
  refine ⟨_, rfl, D.dk, _, _, _, rfl, rfl, sx1, y2, _, rfl, D.ra, _, _, _, rfl, rfl, SqL.of x3, a1, _, _, rfl, rfl, _, rfl, ite2 (fun _ => ?_) (fun _ => ?_)⟩
  · refine ⟨_, rfl, D.dk, _, _, _, rfl, rfl, sx1, y2, _, rfl, D.ra, _, _, _, rfl, rfl, SqL.of x3, a1, _, rfl, _, _, rfl, rfl, m0, ?_⟩
    refine ⟨_, rfl, D.dk, _, _, _, rfl, rfl, sx1, y2, _, rfl, D.ra, _, _, _, rfl, rfl, SqL.of x3, a1, _, rfl, _, _, rfl, rfl, ⟨by omega, by omega⟩, ?_⟩
    refine ⟨_, rfl, D.dk, _, _, _, rfl, rfl, sx1, y2, _, rfl, D.ra, _, _, _, rfl, rfl, x3, ix1, ?_⟩
    refine ⟨_, rfl, ?_⟩
    refine q _ _ (Int.emod_nonneg _ (by omega)) (Int.emod_lt_of_pos _ m0) ⟨⟨cells, rests.set ((n : Int) % ((cells.map V.int).length : Int)).toNat (rests[((n : Int) % ((cells.map V.int).length : Int)).toNat] / m), ?_, ?_, ?_, c0, ?_, c1⟩, d.dc, d.dr, d.cr⟩ ?_
    · rw [upd_ne d.dr]; exact x1
    · rw [upd_ne d.cr]; exact x2
    · rw [upd_same, List.map_set]
    · rw [List.length_set]; exact cr
    · exact sd.trans fun b o _ h2 e => by rw [upd_ne h2]; exact e
  · have b1 := modB cells[((n : Int) % ((cells.map V.int).length : Int)).toNat] 2147483629 (by decide)
    have b2 := sq_le (n := n + 1) (by omega)
    refine ⟨_, rfl, D.dk, _, _, _, rfl, rfl, sx1, y0, _, rfl, D.ca, _, _, _, rfl, rfl, SqL.of x2, a2, _, _, rfl, rfl, (show (0 : Int) < 2147483629 by decide), _, rfl, D.dk, _, _, _, rfl, rfl, sx1, y1, _, _, rfl, rfl, .inl ⟨by decide, by decide⟩, _, _, rfl, rfl, _, _, rfl, rfl, _, _, rfl, rfl, ⟨by decide, by decide, by omega⟩, _, _, rfl, rfl, (show (0 : Int) < 2147483647 by decide), ?_⟩
    generalize (cells[((n : Int) % ((cells.map V.int).length : Int)).toNat] % 2147483629 + 48271 * ((n + 1 : Nat) : Int) + 7) ^ Int.toNat 3 = g1
    have b3 := modB g1 2147483647 (by decide)
    refine ⟨_, rfl, _, rfl, D.dk, _, _, _, rfl, rfl, sx1, y1, _, _, rfl, rfl, .inl ⟨by decide, by decide⟩, _, rfl, D.dk, _, _, _, rfl, rfl, sx1, y1, _, _, rfl, rfl, .inr ⟨by omega, by omega⟩, _, _, rfl, rfl, _, _, rfl, rfl, ⟨by decide, by decide, by omega⟩, _, _, rfl, rfl, (show (0 : Int) < 2147483587 by decide), ?_⟩
    refine ⟨_, rfl, _, _, rfl, rfl, ⟨by decide, by decide⟩, _, rfl, _, _, rfl, rfl, m0, ?_⟩
    exact q _ _ (Int.emod_nonneg _ (by omega)) (Int.emod_lt_of_pos _ m0) ⟨⟨cells, rests, x1, x2, x3, c0, cr, c1⟩, d.dc, d.dr, d.cr⟩ sd
end
/-! ### _law_deck -/
theorem rep_flat {α : Type} (a : α) : ∀ m : Nat, (List.replicate m [a]).flatten = List.replicate m a
  | 0 => rfl
  | m + 1 => by
    rw [List.replicate_succ, List.replicate_succ, List.flatten_cons, rep_flat a m]
    rfl
def spDeck (K : PySem.W.Frag) : Sp := fun vs H Q _ => ∃ (a : Addr) (ns : List Int), vs = [.ref a] ∧ SqL K H a (ns.map V.int) ∧ ∀ (D : Deck) (H' : Hp), DeckOk H' D 0 → Same H H' → Q (.ref D.dk) H'
section
variable {P : Program} {w : World} {K : PySem.W.Frag} {mg : Str → Option Value} {base : Heap} {f : Addr} {fd : FuncData}
theorem ok_deck {k : Nat} (F : Fun K "_law_deck" "_law_deck" s__law_deck f fd) (M : Mgs mg) : FnOk P w K mg base CX0 (k + 1) f fd ["_law_script"] (spDeck K) := by
  refine F.ok sc__law_deck (fun vs H Q E h => ?_) (fun cdv A outer s H vs Q E hr h => ?_)
  · obtain ⟨a, ns, rfl, _⟩ := h
    rfl
  obtain ⟨a, ns, rfl, hS, q⟩ := h
  refine ⟨_, (pss_cons (ps_set (i := 1) sc__law_deck.nd rfl (.inl rfl) (pe_op op_cat (pe_callTy call_list_of rfl M.list (by decide +kernel) (pa_cons (pe_slice sl_list (pv 0) po_none (po_some pe_int)) pa_nil)) (pe_op op_rep (pe_lst (pa_cons pe_int pa_nil)) (pe_callTy call_int1 rfl M.int (by decide +kernel) (pa_cons (pe_cmpR op_eq (pe_callB call_len_seq rfl M.len PySem.boot_len (pa_cons (pv 0) pa_nil)) pe_int (nomark _)) pa_nil)))))
    (pss_one (ps_ret (pe_lst (pa_cons (pv 1) (pa_cons pe_int (pa_cons (pe_lc (own := [("_law_cell", 2)]) (g := gName 2) (tt := tYes) rfl sc__law_deck.nd (pi_list (pv 1)) (blkOk_by (N := ["_law_script", "_law_cells", "_law_cell"]) (sc := defScope s__law_deck) (by decide +kernel)) (fun _ _ _ _ _ => (pg_name (i := 2) sc__law_deck.nd rfl (.inl rfl))) (fun _ _ _ _ _ => pts_nil) (fun _ _ _ _ _ => (pe_op op_mul (pe_callB call_abs rfl M.abs (by decide +kernel) (pa_cons (pv 2) pa_nil)) (pe_callTy call_int1 rfl M.int (by decide +kernel) (pa_cons (pe_cmpR op_ge (pe_callB call_abs rfl M.abs (by decide +kernel) (pa_cons (pv 2) pa_nil)) (pe_op op_pow pe_int pe_int) (nomark _)) pa_nil))))) pa_nil))))))), ?_⟩
  refine ⟨.ref a, rfl, 63, rfl, a, ns.map V.int, rfl, hS, fun c nc => ?_⟩
  rw [show (63 : Int) = ((63 : Nat) : Int) from rfl, cut_to, ← List.map_take]
  have s1 := same_new nc (.lst ((ns.take 63).map V.int))
  have ec := upd_same (H := H) (a := c) (o := .lst ((ns.take 63).map V.int))
  generalize upd H c (.lst ((ns.take 63).map V.int)) = H1 at s1 ec
  refine ⟨c, _, rfl, .inl (SqL.of ec), fun c2 nc2 => ?_⟩
  have s2 := same_new nc2 (.lst ((ns.take 63).map V.int))
  have ec2 := upd_same (H := H1) (a := c2) (o := .lst ((ns.take 63).map V.int))
  generalize upd H1 c2 (.lst ((ns.take 63).map V.int)) = H2 at s2 ec2
  refine ⟨(by show 1 ≤ sizeLine; decide), fun z nz => ?_⟩
  have s3 := same_new nz (.lst [.int 11])
  have ez := upd_same (H := H2) (a := z) (o := .lst [.int 11])
  have ec3 := s3 _ _ ec2
  generalize upd H2 z (.lst [.int 11]) = H3 at s3 ez ec3
  have sH := (s1.trans s2).trans s3
  refine ⟨.ref a, rfl, a, _, rfl, .inl (sH.seq hS), rfl, .inr ⟨_, rfl, z, _, _, rfl, rfl, ez, ?_, ?_, ?_, fun y ny => ?_⟩⟩
  · split <;> decide
  · split <;> decide
  · split <;> decide
  have s4 := same_new ny (.lst (List.replicate (Int.toNat (if decide (V.int ((ns.map V.int).length : Int) = V.int 0) = true then 1 else 0)) [V.int 11]).flatten)
  obtain ⟨ex, hex, hexl⟩ : ∃ ex : List Int, (List.replicate (Int.toNat (if decide (V.int ((ns.map V.int).length : Int) = V.int 0) = true then 1 else 0)) [V.int 11]).flatten = ex.map V.int ∧ 0 < (ns.take 63).length + ex.length ∧ (ns.take 63).length + ex.length ≤ 63 := by
    by_cases h0 : ns.length = 0
    · refine ⟨[11], ?_, Nat.succ_pos _, ?_⟩
      · rw [show (decide (V.int ((ns.map V.int).length : Int) = V.int 0)) = true by rw [List.length_map, h0]; rfl]
        rfl
      · rw [List.length_take, h0]
        decide
    · refine ⟨[], ?_, ?_, ?_⟩
      · rw [show (decide (V.int ((ns.map V.int).length : Int) = V.int 0)) = false by
          apply decide_eq_false
          intro z
          have z' := V.int.inj z
          rw [List.length_map] at z'
          omega]
        rfl
      · rw [List.length_take, List.length_nil]; omega
      · rw [List.length_take, List.length_nil]; omega
  refine ⟨c2, y, _, _, rfl, rfl, s4 _ _ ec3, upd_same, ?_, fun p np => ?_⟩
  · rw [hex, List.length_map, List.length_map]
    exact small (by omega)
  have s5 := same_new np (.lst ((ns.take 63).map V.int ++ (List.replicate (Int.toNat (if decide (V.int ((ns.map V.int).length : Int) = V.int 0) = true then 1 else 0)) [V.int 11]).flatten))
  have s6 := sH.trans (s4.trans s5)
  refine ⟨.ref p, rfl, _, rfl, p, rfl, ⟨_, SqL.of upd_same⟩, fun r nr => ?_⟩
  rw [hex, ← List.map_append] at s5 s6 nr ⊢
  generalize hH2 : upd (upd H3 y (.lst (ex.map V.int))) p (.lst ((ns.take 63 ++ ex).map V.int)) = H4 at s5 s6 nr ⊢
  have ep : H4 p = some (.lst ((ns.take 63 ++ ex).map V.int)) := by rw [← hH2]; exact upd_same
  have hpr : p ≠ r := ne_of_none ep nr
  refine lc_list (K := K) (a := p) (xs := (ns.take 63 ++ ex).map V.int) (fun i H' => Same H4 H' ∧ ∃ ys : List Int, ys.length = i ∧ H' r = some (.lst (ys.map V.int))) ⟨same_new nr _, [], rfl, upd_same⟩ (fun i H' _ hp => SqL.of (hp.1 _ _ ep)) (fun i x H' hx hp => ?_) (fun H5 hp => ?_)
  · obtain ⟨sm, ys, hy, hd⟩ := hp
    rw [List.getElem?_map] at hx
    obtain ⟨v, hv, rfl⟩ := Option.map_eq_some_iff.mp hx
    have hi : i < 64 := by
      have := (List.getElem?_eq_some_iff.mp hv).1
      rw [List.length_append] at this
      omega
    refine ⟨rfl, kept ?_⟩
    refine ⟨_, rfl, _, rfl, _, rfl, _, rfl, _, _, rfl, rfl, ⟨by decide, by decide, by decide⟩, _, _, rfl, rfl, .inr ⟨_, rfl, _, _, rfl, rfl, .inr ?_, _, hd, by rw [List.length_map]; exact small1000 (by omega), fun b o e => ?_, ys ++ [(if v < 0 then -v else v) * (if decide ((10 : Int) ^ Int.toNat 18 ≤ (if v < 0 then -v else v)) = true then 1 else 0)], by rw [List.length_append, hy]; rfl, ?_⟩⟩
    · generalize decide ((10 : Int) ^ Int.toNat 18 ≤ (if v < 0 then -v else v)) = bb
      cases bb <;> decide
    · rw [upd_ne (ne_of_none e nr)]
      exact sm _ _ e
    · rw [upd_same, List.map_append]
      rfl
  · obtain ⟨sm, ys, hy, hd⟩ := hp
    refine ⟨(by show 3 ≤ sizeLine; decide), fun t nt => ?_⟩
    have s9 := same_new nt (.lst [.ref p, .int 0, .ref r])
    have ep3 := sm _ _ ep
    refine q ⟨t, p, r⟩ _ ⟨⟨ns.take 63 ++ ex, ys, upd_same, s9 _ _ ep3, s9 _ _ hd, ?_, ?_, ?_⟩, (ne_of_none ep3 nt).symm, (ne_of_none hd nt).symm, hpr⟩ (s6.trans (sm.trans s9))
    · rw [List.length_append]; omega
    · rw [hy, List.length_map]
    · rw [List.length_append]; omega
end
/-! ### _law_pick, _law_mixed -/
abbrev vc (c : Nat) : V := .str (ch c)
abbrev vt (z : List Nat) : V := .str (tx z)
theorem at_ge {α : Type} {xs : List α} {i : Int} (h0 : 0 ≤ i) (h : i.toNat < xs.length) : atI xs i = some xs[i.toNat] := by
  have e := atI_nat (xs := xs) (j := i.toNat) (List.getElem?_eq_getElem h)
  rwa [Int.toNat_of_nonneg h0] at e
theorem erase_perm {α : Type} : ∀ {l : List α} {i : Nat} (h : i < l.length), List.Perm (l[i] :: l.eraseIdx i) l
  | x :: l, 0, _ => List.Perm.refl _
  | x :: l, i + 1, h => by
    have := erase_perm (l := l) (i := i) (Nat.lt_of_succ_lt_succ h)
    show List.Perm (l[i]'(Nat.lt_of_succ_lt_succ h) :: x :: l.eraseIdx i) (x :: l)
    exact (List.Perm.swap _ _ _).trans (this.cons x)
section
variable {P : Program} {w : World} {K : PySem.W.Frag} {mg : Str → Option Value} {base : Heap} {f : Addr} {fd : FuncData}
def spMixed : Sp := fun vs H Q _ => ∃ (D : Deck) (n : Nat) (a : Addr) (ls : List V), vs = [.ref D.dk, .ref a] ∧ DeckOk H D n ∧ n + ls.length ≤ 1000000 ∧ H a = some (.lst ls) ∧ Off D a ∧ ls.length ≤ 60 ∧
  ∀ (p : Addr) (zs : List V) (H' : Hp), DeckOk H' D (n + ls.length) → SameD D H H' → H p = none → H' p = some (.lst zs) → zs.Perm ls → Off D p → Q (.ref p) H'
theorem ok_mixed {k : Nat} (F : Fun K "_law_mixed" "_law_mixed" s__law_mixed f fd) (M : Mgs mg) (D_law_draw : Df P w K mg base (k + 1) "_law_draw" ["_law_deck_here", "_law_many"] spDraw) : FnOk P w K mg base CX0 (k + 2) f fd ["_law_deck_here", "_law_row"] spMixed := by
  refine F.ok sc__law_mixed (fun vs H Q E h => ?_) (fun cdv A outer s H vs Q E hr h => ?_)
  · obtain ⟨D, n, a, ls, rfl, _⟩ := h
    rfl
  obtain ⟨D, n, a, ls, rfl, d, hn, ea, oa, hl, q⟩ := h
  refine ⟨_, (pss_cons (ps_set (i := 2) sc__law_mixed.nd rfl (.inl rfl) (pe_callTy call_list_of rfl M.list (by decide +kernel) (pa_cons (pv 1) pa_nil)))
    (pss_cons (ps_set (i := 3) sc__law_mixed.nd rfl (.inl rfl) (pe_lst pa_nil))
    (pss_cons (ps_while PassesOwn.never (pt_cmpR (op_neL hr.units0) (pv 2) (pe_lst pa_nil) (nomark _))
      (pss_one (ps_expr (pe_bm PySem.F.plainAttrs_list PySem.F.slot_list_append PySem.F.type_list_append mt_append (pv 3) (pa_cons (pe_bm PySem.F.plainAttrs_list PySem.F.slot_list_pop PySem.F.type_list_pop mt_popAt (pv 2) (pa_cons (pe_call D_law_draw.ok (hr.mono (by omega)) rfl D_law_draw.g D_law_draw.kp D_law_draw.b .nil pass0 (pa_cons (pv 0) (pa_cons (pe_callB call_len_seq rfl M.len PySem.boot_len (pa_cons (pv 2) pa_nil)) pa_nil))) pa_nil)) pa_nil)))))
    (pss_one (ps_ret (pv 3)))))), ?_⟩
  refine ⟨_, rfl, a, _, rfl, .inl (SqL.of ea), fun ra nra => ?_⟩
  refine ⟨(by show 0 ≤ sizeLine; decide), fun fa nfa => ?_⟩
  have q1 := same_new nra (.lst ls)
  have q2 := same_new nfa (.lst [])
  have era := q2 _ _ (upd_same (H := H) (a := ra) (o := .lst ls))
  have nrf : ra ≠ fa := ne_of_none upd_same nfa
  have nfaH : H fa = none := by
    rw [upd_ne nrf.symm] at nfa
    exact nfa
  have ora := d.new nra
  have ofa := d.new nfaH
  refine while_by (fun σ H' => σ = [some (.ref D.dk), some (.ref a), some (.ref ra), some (.ref fa)] ∧ ∃ rest xs : List V, DeckOk H' D (n + xs.length) ∧ SameD D H H' ∧ H' ra = some (.lst rest) ∧ H' fa = some (.lst xs) ∧ (xs ++ rest).Perm ls) (fun σ H' => match H' ra with | some (.lst xs) => xs.length | _ => 0)
    ⟨rfl, ls, [], (d.same q1).same q2, SameD.of (q1.trans q2), era, upd_same, List.Perm.refl _⟩ (fun σ H' hp => ?_) ?_
  · obtain ⟨rfl, rest, xs, d', s', er, ef, pm⟩ := hp
    have hlen : xs.length + rest.length = ls.length := by rw [← List.length_append]; exact pm.length_eq
    refine ⟨_, rfl, (by show 0 ≤ sizeLine; decide), fun el ne => ?_⟩
    have q3 := same_new ne (.lst [])
    refine ⟨ra, el, _, rfl, rfl, SqL.of (q3 _ _ er), SqL.of upd_same, _, rfl, ?_⟩
    have d1 := d'.same q3
    have s1 := s'.trans (SameD.of q3)
    have er1 := q3 _ _ er
    have ef1 := q3 _ _ ef
    generalize upd H' el (.lst []) = H1 at d1 s1 er1 ef1
    cases hg : rest with
    | nil =>
      refine iteF ?_
      subst hg
      rw [List.append_nil] at pm
      rw [List.length_nil, Nat.add_zero] at hlen
      rw [hlen] at d1
      exact ⟨_, rfl, q fa xs H1 d1 s1 nfaH ef1 pm ofa⟩
    | cons g0 gr =>
      refine iteT ?_
      have r0 : 0 < rest.length := by rw [hg]; exact Nat.succ_pos _
      refine ⟨_, rfl, .inl ⟨rfl, _, SqL.of ef1⟩, _, rfl, .inl ⟨rfl, _, SqL.of er1⟩, _, rfl, _, rfl, ra, _, rfl, .inl (SqL.of er1), D, _, _, rfl, d1, by omega, by omega, by omega, fun j H2 j0 j1 d2 s2 => ?_⟩
      have hj : j.toNat < rest.length := by omega
      have er2 := s2.at ora er1
      have ef2 := s2.at ofa ef1
      refine ⟨ra, _, j, j.toNat, rest[j.toNat], rfl, rfl, er2, by omega, by omega, (ixN_seq (ixN_nat j0 (by omega))).1, List.getElem?_eq_getElem hj, ?_⟩
      have ef3 : (upd H2 ra (.lst (rest.eraseIdx j.toNat))) fa = some (.lst xs) := by rw [upd_ne nrf.symm]; exact ef2
      refine ⟨fa, _, _, rfl, rfl, ef3, small1000 (by omega), ?_⟩
      refine ⟨⟨rfl, rest.eraseIdx j.toNat, xs ++ [rest[j.toNat]], ?_, ((s1.trans s2).put nra _).put nfaH _, ?_, upd_same, ?_⟩, ?_⟩
      · rw [List.length_append]
        exact (d2.put ora _).put ofa _
      · rw [upd_ne nrf, upd_same]
      · rw [List.append_assoc]
        exact (List.Perm.append_left xs (erase_perm hj)).trans pm
      · show (match (upd (upd H2 ra _) fa (.lst (xs ++ [rest[j.toNat]]))) ra with | some (.lst xs) => xs.length | _ => 0) < (match H' ra with | some (.lst xs) => xs.length | _ => 0)
        rw [upd_ne nrf, upd_same, er]
        show (rest.eraseIdx j.toNat).length < rest.length
        rw [List.length_eraseIdx_of_lt hj]
        omega
  · intro σ H' Q1 Q2 hQ h
    obtain ⟨v, e, h0, h⟩ := h
    refine ⟨v, e, h0, fun el ne => ?_⟩
    obtain ⟨a, b, zs, h1, h2, h3, h4, k, h5, h6⟩ := h el ne
    exact ⟨a, b, zs, h1, h2, h3, h4, k, h5, hQ _ _ h6⟩
end
theorem iteS {x y : Str} {A B : Prop} (h : x = y) (a : A) : if decide (V.str x = V.str y) = true then A else B := by
  rw [if_pos (decide_eq_true (congrArg V.str h))]; exact a
theorem iteR {x y : Str} {A B : Prop} (h : x ≠ y) (b : B) : if decide (V.str x = V.str y) = true then A else B := by
  rw [if_neg (fun z => h (V.str.inj (of_decide_eq_true z)))]; exact b
theorem take_next {α : Type} {zs : List α} {i : Nat} {c : α} (h : zs[i]? = some c) : zs.take (i + 1) = zs.take i ++ [c] := by
  rw [List.take_succ, h]
  rfl
abbrev vn (n : Nat) : V := .int (n : Int)
/-! ### walks -/
inductive Kd where
  | first
  | between
  | last
  deriving DecidableEq
def Kd.str : Kd → Str
  | .first => "first"
  | .between => "between"
  | .last => "last"
def B.post : B → List Nat
  | .nil => []
  | .node l x r => l.post ++ r.post ++ [x]
def B.wk (k : Kd) (t : B) : List Nat := match k with
  | .first => t.pre
  | .between => t.mid
  | .last => t.post
def B.steps (k : Kd) : B → List Nat → List (List Nat × Nat)
  | .nil, _ => []
  | .node l x r, q => match k with
    | .first => [(q, x)] ++ l.steps k (q ++ [108]) ++ r.steps k (q ++ [114])
    | .between => l.steps k (q ++ [108]) ++ [(q, x)] ++ r.steps k (q ++ [114])
    | .last => l.steps k (q ++ [108]) ++ r.steps k (q ++ [114]) ++ [(q, x)]
theorem B.steps_wk (k : Kd) (t : B) : ∀ q : List Nat, (t.steps k q).map (·.2) = t.wk k := by
  induction t with
  | nil => intro q; cases k <;> rfl
  | node l x r h1 h2 =>
    intro q
    have a := h1 (q ++ [108])
    have b := h2 (q ++ [114])
    cases k
    · show ([(q, x)] ++ l.steps .first (q ++ [108]) ++ r.steps .first (q ++ [114])).map (·.2) = x :: (l.pre ++ r.pre)
      rw [List.map_append, List.map_append, a, b]; rfl
    · show (l.steps .between (q ++ [108]) ++ [(q, x)] ++ r.steps .between (q ++ [114])).map (·.2) = l.mid ++ x :: r.mid
      rw [List.map_append, List.map_append, a, b]
      show l.mid ++ [x] ++ r.mid = _
      rw [List.append_assoc]; rfl
    · show (l.steps .last (q ++ [108]) ++ r.steps .last (q ++ [114]) ++ [(q, x)]).map (·.2) = l.post ++ r.post ++ [x]
      rw [List.map_append, List.map_append, a, b]; rfl
theorem B.wk_len (k : Kd) (t : B) : (t.wk k).length = t.size := by
  cases k
  · exact t.pre_len
  · exact t.mid_len
  · show t.post.length = t.size
    induction t with
    | nil => rfl
    | node l x r h1 h2 =>
      show (l.post ++ r.post ++ [x]).length = l.size + 1 + r.size
      rw [List.length_append, List.length_append, h1, h2, List.length_cons, List.length_nil]
      omega
theorem B.steps_len (k : Kd) (t : B) (q : List Nat) : (t.steps k q).length = t.size := by
  rw [← t.wk_len k, ← t.steps_wk k q, List.length_map]
inductive StAt (H : Hp) : List V → List (List Nat × Nat) → Prop
  | nil : StAt H [] []
  | cons {a : Addr} {q : List Nat} {x : Nat} {vs : List V} {ss : List (List Nat × Nat)} : H a = some (.tup [.str (tx q), .str (ch x)]) → StAt H vs ss → StAt H (.ref a :: vs) ((q, x) :: ss)
theorem StAt.keep {H H' : Hp} (k : KeepT H H') {vs : List V} {ss : List (List Nat × Nat)} (h : StAt H vs ss) : StAt H' vs ss := by
  induction h with
  | nil => exact .nil
  | cons e _ ih => exact .cons (k _ _ e) ih
theorem StAt.same {H H' : Hp} (k : Same H H') {vs : List V} {ss : List (List Nat × Nat)} (h : StAt H vs ss) : StAt H' vs ss := h.keep (Tw.Same.keepT k)
theorem StAt.app {H : Hp} {vs us : List V} {ss ts : List (List Nat × Nat)} (h : StAt H vs ss) (g : StAt H us ts) : StAt H (vs ++ us) (ss ++ ts) := by
  induction h with
  | nil => exact g
  | cons e _ ih => exact .cons e ih
theorem StAt.len {H : Hp} {vs : List V} {ss : List (List Nat × Nat)} (h : StAt H vs ss) : vs.length = ss.length := by
  induction h with
  | nil => rfl
  | cons _ _ ih => rw [List.length_cons, List.length_cons, ih]
theorem StAt.get {H : Hp} {vs : List V} {ss : List (List Nat × Nat)} (h : StAt H vs ss) : ∀ {i : Nat} {v : V}, vs[i]? = some v → ∃ a q x, v = .ref a ∧ ss[i]? = some (q, x) ∧ H a = some (.tup [.str (tx q), .str (ch x)]) := by
  induction h with
  | nil => intro i v e; simp at e
  | cons e _ ih =>
    intro i v he
    cases i with
    | zero => cases he; exact ⟨_, _, _, rfl, rfl, e⟩
    | succ i => exact ih he
theorem str_l : Str.ofString "l" = tx [108] := by decide +kernel
theorem str_r : Str.ofString "r" = tx [114] := by decide +kernel
theorem str_0 : Str.ofString "" = tx [] := by decide +kernel
/-! ### walks of trees -/
theorem map_vc (l : List Nat) : l.map vc = (l.map ch).map V.str := by rw [List.map_map]; rfl
def spDeep (n : Nat) : Sp := fun vs H Q _ => ∃ (v : V) (t : B) (k : Kd) (q : List Nat), vs = [v, .str k.str, .str (tx q)] ∧ BAt H v t ∧ t.size < n ∧ t.size + q.length ≤ 200 ∧
  ∀ (p : Addr) (us : List V) (H' : Hp), Same H H' → H' p = some (.lst us) → StAt H' us (t.steps k q) → Q (.ref p) H'
section
variable {P : Program} {w : World} {K : PySem.W.Frag} {mg : Str → Option Value} {base : Heap} {f : Addr} {fd : FuncData}
theorem ok_deep (F : Fun K "deep_steps" "deep_steps" s_deep_steps f fd) (b : Binds K fd ["tree", "kind", "path"] []) (g : mg "deep_steps" = some (.ref f)) : ∀ n : Nat, FnOk P w K mg base CX0 n f fd ["tree", "kind", "path"] (spDeep n)
  | 0 => by
    have no : ∀ vs H Q E, ¬ spDeep 0 vs H Q E := fun vs H Q E h => by
      obtain ⟨v, t, k, q, _, _, h1, _⟩ := h
      omega
    exact ⟨fun vs H Q E h => absurd h (no vs H Q E), fun A outer s H args us vs Q E _ _ _ _ h => absurd h (no vs H Q E)⟩
  | n + 1 => by
    have Dself : Df P w K mg base n "deep_steps" ["tree", "kind", "path"] (spDeep n) := ⟨f, fd, ok_deep F b g n, b, F.kp, g⟩
    refine F.ok sc_deep_steps (fun vs H Q E h => ?_) (fun cdv A outer s H vs Q E hr h => ?_)
    · obtain ⟨v, t, k, q, rfl, _⟩ := h
      rfl
    obtain ⟨v, t, k, pth, rfl, hv, hn, hz, q⟩ := h
    refine ⟨_, (pss_cons (ps_if (pt_cmpR op_isN (pv 0) pe_non (nomark _))
      (pss_one (ps_ret (pe_lst pa_nil))) pss_nil)
    (pss_cons (ps_asg (pv 0) (pg_tup rfl (pgs_cons (pg_name (i := 3) sc_deep_steps.nd rfl (.inl rfl)) (pgs_cons (pg_name (i := 4) sc_deep_steps.nd rfl (.inl rfl)) (pgs_cons (pg_name (i := 5) sc_deep_steps.nd rfl (.inl rfl)) pgs_nil)))))
    (pss_cons (ps_set (i := 6) sc_deep_steps.nd rfl (.inl rfl) (pe_lst (pa_cons (pe_tup (pa_cons (pv 2) (pa_cons (pv 4) pa_nil))) pa_nil)))
    (pss_cons (ps_set (i := 7) sc_deep_steps.nd rfl (.inl rfl) (pe_call Dself.ok (hr.mono (by omega)) rfl Dself.g Dself.kp Dself.b .nil pass0 (pa_cons (pv 3) (pa_cons (pv 1) (pa_cons (pe_op op_add_str (pv 2) pe_str) pa_nil)))))
    (pss_cons (ps_set (i := 8) sc_deep_steps.nd rfl (.inl rfl) (pe_call Dself.ok (hr.mono (by omega)) rfl Dself.g Dself.kp Dself.b .nil pass0 (pa_cons (pv 5) (pa_cons (pv 1) (pa_cons (pe_op op_add_str (pv 2) pe_str) pa_nil)))))
    (pss_cons (ps_if (pt_cmpR op_eq (pv 1) pe_str (nomark _))
      (pss_one (ps_ret (pe_op op_cat (pe_op op_cat (pv 6) (pv 7)) (pv 8)))) pss_nil)
    (pss_cons (ps_if (pt_cmpR op_eq (pv 1) pe_str (nomark _))
      (pss_one (ps_ret (pe_op op_cat (pe_op op_cat (pv 7) (pv 6)) (pv 8)))) pss_nil)
    (pss_one (ps_ret (pe_op op_cat (pe_op op_cat (pv 7) (pv 8)) (pv 6))))))))))), ?_⟩
    rcases hv.inv with ⟨rfl, rfl⟩ | ⟨a, l, r, x, tl, tr, rfl, rfl, ea, hl, hr'⟩
    · refine ⟨_, rfl, rfl, _, rfl, iteT ⟨(by show 0 ≤ sizeLine; decide), fun p np => ?_⟩⟩
      exact q p [] _ (same_new np _) upd_same .nil
    · refine ⟨_, rfl, rfl, _, rfl, iteF ?_⟩
      refine ⟨_, rfl, a, _, rfl, SqT.of ea, rfl, _, _, rfl, _, _, rfl, _, _, rfl, rfl, ?_⟩
      have sz : tl.size + 1 + tr.size < n + 1 := hn
      have sz2 : tl.size + 1 + tr.size + pth.length ≤ 200 := hz
      -- root
      refine ⟨_, rfl, _, rfl, (by show 2 ≤ sizeLine; decide), fun tp ntp => ⟨(by show 1 ≤ sizeLine; decide), fun ro nro => ?_⟩⟩
      have q1 := same_new ntp (.tup [.str (tx pth), .str (ch x)])
      have q2 := same_new nro (.lst [.ref tp])
      have etp := q2 _ _ (upd_same (H := H) (a := tp) (o := .tup [.str (tx pth), .str (ch x)]))
      have ero := upd_same (H := upd H tp (.tup [.str (tx pth), .str (ch x)])) (a := ro) (o := .lst [.ref tp])
      have s1 := q1.trans q2
      generalize upd (upd H tp (.tup [.str (tx pth), .str (ch x)])) ro (.lst [.ref tp]) = H1 at etp ero s1
      -- lefts
      refine ⟨_, rfl, _, rfl, _, rfl, _, _, rfl, rfl, ?_, ?_⟩
      · rw [str_l, tx_len, tx_len]; exact small (by show _ + 1 ≤ 1000; omega)
      rw [str_l, tx_app]
      refine ⟨l, tl, k, pth ++ [108], rfl, hl.same s1, by omega, by rw [List.length_append]; show _ + (_ + 1) ≤ 200; omega, fun lp ul H2 s2 elp stl => ?_⟩
      -- rights
      refine ⟨_, rfl, _, rfl, _, rfl, _, _, rfl, rfl, ?_, ?_⟩
      · rw [str_r, tx_len, tx_len]; exact small (by show _ + 1 ≤ 1000; omega)
      rw [str_r, tx_app]
      refine ⟨r, tr, k, pth ++ [114], rfl, (hr'.same s1).same s2, by omega, by rw [List.length_append]; show _ + (_ + 1) ≤ 200; omega, fun rp ur H3 s3 erp str => ?_⟩
      have ero3 := s3 _ _ (s2 _ _ ero)
      have elp3 := s3 _ _ elp
      have strt : StAt H3 [.ref tp] [(pth, x)] := .cons (s3 _ _ (s2 _ _ etp)) .nil
      have stl3 := stl.same s3
      have sA := (s1.trans s2).trans s3
      have ll := stl.len
      have lr := str.len
      rw [B.steps_len] at ll lr
      cases k
      · refine ⟨_, rfl, rfl, _, rfl, iteS rfl ?_⟩
        refine ⟨_, rfl, _, rfl, ro, lp, _, _, rfl, rfl, ero3, elp3, small (by show 1 + _ ≤ 1000; omega), fun c1 n1 => ?_⟩
        have k1 := same_new n1 (.lst ([.ref tp] ++ ul))
        refine ⟨_, rfl, c1, rp, _, _, rfl, rfl, upd_same, k1 _ _ erp, small (by rw [List.length_append]; show 1 + _ + _ ≤ 1000; omega), fun c2 n2 => ?_⟩
        have k2 := same_new n2 (.lst ([.ref tp] ++ ul ++ ur))
        exact q c2 _ _ (sA.trans (k1.trans k2)) upd_same (((strt.app stl3).app str).same (k1.trans k2))
      · refine ⟨_, rfl, rfl, _, rfl, iteR (by decide +kernel) ?_⟩
        refine ⟨_, rfl, rfl, _, rfl, iteS rfl ?_⟩
        refine ⟨_, rfl, _, rfl, lp, ro, _, _, rfl, rfl, elp3, ero3, small (by show _ + 1 ≤ 1000; omega), fun c1 n1 => ?_⟩
        have k1 := same_new n1 (.lst (ul ++ [.ref tp]))
        refine ⟨_, rfl, c1, rp, _, _, rfl, rfl, upd_same, k1 _ _ erp, small (by rw [List.length_append]; show _ + 1 + _ ≤ 1000; omega), fun c2 n2 => ?_⟩
        have k2 := same_new n2 (.lst (ul ++ [.ref tp] ++ ur))
        exact q c2 _ _ (sA.trans (k1.trans k2)) upd_same (((stl3.app strt).app str).same (k1.trans k2))
      · refine ⟨_, rfl, rfl, _, rfl, iteR (by decide +kernel) ?_⟩
        refine ⟨_, rfl, rfl, _, rfl, iteR (by decide +kernel) ?_⟩
        refine ⟨_, rfl, _, rfl, lp, rp, _, _, rfl, rfl, elp3, erp, small (by omega), fun c1 n1 => ?_⟩
        have k1 := same_new n1 (.lst (ul ++ ur))
        refine ⟨_, rfl, c1, ro, _, _, rfl, rfl, upd_same, k1 _ _ ero3, small (by rw [List.length_append]; show _ + _ + 1 ≤ 1000; omega), fun c2 n2 => ?_⟩
        have k2 := same_new n2 (.lst (ul ++ ur ++ [.ref tp]))
        exact q c2 _ _ (sA.trans (k1.trans k2)) upd_same (((stl3.app str).app strt).same (k1.trans k2))
/-- the tuple KINDS of the text -/
structure KindsT (K : PySem.W.Frag) (mg : Str → Option Value) (a : Addr) : Prop where
  mg : mg "KINDS" = some (.ref a)
  sq : ∀ H : Hp, SqT K H a [.str "first", .str "between", .str "last", .str "level"]
def spKind : Sp := fun vs H Q _ => ∃ k : Kd, vs = [.str k.str] ∧ Q (.bl true) H
theorem ok_kind {k : Nat} {aK : Addr} (F : Fun K "is_kind" "is_kind" s_is_kind f fd) (M : Mgs mg) (Kk : KindsT K mg aK) : FnOk P w K mg base CX0 (k + 1) f fd ["value"] spKind := by
  refine F.ok sc_is_kind (fun vs H Q E h => ?_) (fun cdv A outer s H vs Q E hr h => ?_)
  · obtain ⟨k, rfl, _⟩ := h
    rfl
  obtain ⟨k, rfl, q⟩ := h
  refine ⟨_, (pss_one (ps_ret (pe_and (pe_callB call_isi rfl M.isinstance (by decide +kernel) (pa_cons (pv 0) (pa_cons (pe_bltn (v := .ty "str") rfl M.str (by decide +kernel) rfl) pa_nil))) (pe_one (pe_cmpR op_in_seq (pv 0) (pe_glob (v := .ref _) rfl Kk.mg rfl) (by rfl)))))), ?_⟩
  refine ⟨_, rfl, _, _, _, _, true, rfl, .ty _, .base (.str _), kit_ty (by decide +kernel), _, rfl, iteT ?_⟩
  refine ⟨_, rfl, aK, _, rfl, .inr (Kk.sq H), rfl, ?_, ?_⟩
  · rfl
  · have e : (if false = true then !inV (.str k.str) [.str "first", .str "between", .str "last", .str "level"] else inV (.str k.str) [.str "first", .str "between", .str "last", .str "level"]) = true := by
      cases k <;> decide +kernel
    rw [e]
    exact q
def spSteps : Sp := fun vs H Q _ => ∃ (v : V) (t : B) (k : Kd), vs = [v, .str k.str] ∧ BAt H v t ∧ t.size ≤ 50 ∧
  ∀ (p : Addr) (us : List V) (H' : Hp), Same H H' → H' p = some (.lst us) → StAt H' us (t.steps k []) → Q (.ref p) H'
theorem ok_steps (F : Fun K "ordered_steps" "ordered_steps" s_ordered_steps f fd) (Dis_kind : Df P w K mg base 1 "is_kind" ["value"] spKind) (Ddeep_steps : Df P w K mg base 60 "deep_steps" ["tree", "kind", "path"] (spDeep 60)) :
    FnOk P w K mg base CX0 61 f fd ["tree", "kind"] spSteps := by
  refine F.ok sc_ordered_steps (fun vs H Q E h => ?_) (fun cdv A outer s H vs Q E hr h => ?_)
  · obtain ⟨v, t, k, rfl, _⟩ := h
    rfl
  obtain ⟨v, t, k, rfl, hv, hz, q⟩ := h
  refine ⟨_, (pss_cons (ps_if (pt_not (pt_val (pe_call Dis_kind.ok (hr.mono (by omega)) rfl Dis_kind.g Dis_kind.kp Dis_kind.b .nil pass0 (pa_cons (pv 1) pa_nil))))
      (pss_one ps_never) pss_nil)
    (pss_cons (ps_if (pt_cmpR op_eq (pv 1) pe_str (nomark _))
      (pss_one ps_never) pss_nil)
    (pss_one (ps_ret (pe_call Ddeep_steps.ok (hr.mono (by omega)) rfl Ddeep_steps.g Ddeep_steps.kp Ddeep_steps.b .nil pass0 (pa_cons (pv 0) (pa_cons (pv 1) (pa_cons pe_str pa_nil)))))))), ?_⟩
  refine ⟨_, rfl, k, rfl, _, rfl, iteF ?_⟩
  refine ⟨_, rfl, rfl, _, rfl, iteR (by cases k <;> decide +kernel) ?_⟩
  refine ⟨_, rfl, _, rfl, v, t, k, [], ?_, hv, by omega, by show t.size + 0 ≤ 200; omega, q⟩
  rw [← str_0]
  rfl
def spWalk : Sp := fun vs H Q _ => ∃ (v : V) (t : B) (k : Kd), vs = [v, .str k.str] ∧ BAt H v t ∧ t.size ≤ 50 ∧ ∀ H', Same H H' → Q (.str (tx (t.wk k))) H'
theorem ok_walk (F : Fun K "walk" "walk" s_walk f fd) (Dordered_steps : Df P w K mg base 61 "ordered_steps" ["tree", "kind"] spSteps) : FnOk P w K mg base CX0 62 f fd ["tree", "kind"] spWalk := by
  refine F.ok sc_walk (fun vs H Q E h => ?_) (fun cdv A outer s H vs Q E hr h => ?_)
  · obtain ⟨v, t, k, rfl, _⟩ := h
    rfl
  obtain ⟨v, t, k, rfl, hv, hz, q⟩ := h
  refine ⟨_, (pss_one (ps_ret (pe_bm PySem.F.plainAttrs_str PySem.F.slot_str_join PySem.F.type_str_join mt_join pe_str (pa_cons (pe_lc (own := [("path", 2), ("label", 3)]) (g := gTup K 2 (gCons (gName 2) (gCons (gName 3) gNil))) (tt := tYes) rfl sc_walk.nd (pi_list (pe_call Dordered_steps.ok (hr.mono (by omega)) rfl Dordered_steps.g Dordered_steps.kp Dordered_steps.b .nil pass0 (pa_cons (pv 0) (pa_cons (pv 1) pa_nil)))) (blkOk_by (N := ["tree", "kind", "path", "label"]) (sc := defScope s_walk) (by decide +kernel)) (fun _ _ _ _ _ => (pg_tup rfl (pgs_cons (pg_name (i := 2) sc_walk.nd rfl (.inl rfl)) (pgs_cons (pg_name (i := 3) sc_walk.nd rfl (.inl rfl)) pgs_nil)))) (fun _ _ _ _ _ => pts_nil) (fun _ _ _ _ _ => (pv 3))) pa_nil)))), ?_⟩
  refine ⟨rfl, _, rfl, _, rfl, v, t, k, rfl, hv, hz, fun p us H1 s1 ep st => ?_⟩
  refine ⟨p, rfl, ⟨_, SqL.of ep⟩, fun D nD => ?_⟩
  have q1 := same_new nD (.lst [])
  have hl := st.len
  rw [B.steps_len] at hl
  have ez := t.steps_wk k []
  refine lc_list (K := K) (a := p) (xs := us) (fun i H' => Same H1 H' ∧ H' D = some (.lst (((t.wk k).take i).map vc))) ⟨q1, upd_same⟩ (fun i H' _ hp => SqL.of (hp.1 _ _ ep)) (fun i x H' hx hp => ?_) (fun H' hp => ?_)
  · obtain ⟨sm, ed⟩ := hp
    obtain ⟨a, pq, c, rfl, es, ea⟩ := st.get hx
    have hc : (t.wk k)[i]? = some c := by rw [← ez, List.getElem?_map, es]; rfl
    have hi := (List.getElem?_eq_some_iff.mp hx).1
    refine ⟨a, _, rfl, SqT.of (sm _ _ ea), rfl, _, _, rfl, _, _, rfl, rfl, rfl, kept ?_⟩
    refine ⟨_, rfl, _, ed, ?_, fun b o e => ?_, ?_⟩
    · rw [List.length_map, List.length_take]; exact small1000 (by omega)
    · rw [upd_ne (ne_of_none e nD)]; exact sm _ _ e
    · rw [upd_same, take_next hc, List.map_append]; rfl
  · obtain ⟨sm, ed⟩ := hp
    have tk : (t.wk k).take us.length = t.wk k := List.take_of_length_le (by rw [t.wk_len k]; omega)
    rw [tk, map_vc] at ed
    refine ⟨_, D, (t.wk k).map ch, rfl, rfl, .inl (SqL.of ed), tx_joinOk _ (by rw [t.wk_len k]; omega), ?_⟩
    rw [tx_join]
    exact q H' (s1.trans sm)
theorem ok_size (F : Fun K "size_of" "size_of" s_size_of f fd) (b : Binds K fd ["tree"] []) (g : mg "size_of" = some (.ref f)) : ∀ n : Nat, FnOk P w K mg base CX0 n f fd ["tree"]
    (fun vs H Q _ => ∃ (v : V) (t : B), vs = [v] ∧ BAt H v t ∧ t.size < n ∧ Q (.int (t.size : Int)) H)
  | 0 => by
    have no : ∀ (vs : List V) (H : Hp) (Q : VK), ¬ (∃ (v : V) (t : B), vs = [v] ∧ BAt H v t ∧ t.size < 0 ∧ Q (.int (t.size : Int)) H) := fun vs H Q h => by
      obtain ⟨v, t, _, _, h1, _⟩ := h
      omega
    exact ⟨fun vs H Q E h => absurd h (no vs H Q), fun A outer s H args us vs Q E _ _ _ _ h => absurd h (no vs H Q)⟩
  | n + 1 => by
    have Dself : Df P w K mg base n "size_of" ["tree"] (fun vs H Q _ => ∃ (v : V) (t : B), vs = [v] ∧ BAt H v t ∧ t.size < n ∧ Q (.int (t.size : Int)) H) := ⟨f, fd, ok_size F b g n, b, F.kp, g⟩
    refine F.ok sc_size_of (fun vs H Q E h => ?_) (fun cdv A outer s H vs Q E hr h => ?_)
    · obtain ⟨v, t, rfl, _⟩ := h
      rfl
    obtain ⟨v, t, rfl, hv, hn, q⟩ := h
    refine ⟨_, (pss_cons (ps_if (pt_cmpR op_isN (pv 0) pe_non (nomark _))
      (pss_one (ps_ret pe_int)) pss_nil)
    (pss_one (ps_ret (pe_op op_add (pe_op op_add (pe_call Dself.ok (hr.mono (by omega)) rfl Dself.g Dself.kp Dself.b .nil pass0 (pa_cons (pe_ix ix_tup (pv 0) pe_int (fun _ _ => rfl)) pa_nil)) pe_int) (pe_call Dself.ok (hr.mono (by omega)) rfl Dself.g Dself.kp Dself.b .nil pass0 (pa_cons (pe_ix ix_tup (pv 0) pe_int (fun _ _ => rfl)) pa_nil)))))), ?_⟩
    rcases hv.inv with ⟨rfl, rfl⟩ | ⟨a, l, r, x, tl, tr, rfl, rfl, ea, hl, hr'⟩
    · exact ⟨_, rfl, rfl, _, rfl, iteT q⟩
    · refine ⟨_, rfl, rfl, _, rfl, iteF ?_⟩
      have sz : tl.size + 1 + tr.size < n + 1 := hn
      refine ⟨_, rfl, a, _, _, _, rfl, rfl, SqT.of ea, atI_nat (j := 0) rfl, l, tl, rfl, hl, by omega, _, _, rfl, rfl, ?_⟩
      refine ⟨_, rfl, a, _, _, _, rfl, rfl, SqT.of ea, atI_nat (j := 2) rfl, r, tr, rfl, hr', by omega, _, _, rfl, rfl, ?_⟩
      have e : ((B.node tl x tr).size : Int) = (tl.size : Int) + 1 + (tr.size : Int) := by
        show ((tl.size + 1 + tr.size : Nat) : Int) = _
        omega
      rw [e] at q
      exact q
end
/-! ### a def entered at one caller -/
theorem enter_def {P : Program} {w : World} {K : PySem.W.Frag} {mg : Str → Option Value} {base : Heap} {f : Addr} {fd : FuncData} {N ps : List Str} {k : Nat} {x qual : Str} {st : Stmt} (F : Fun K x qual st f fd) (S : FnScope N ps (defScope st))
    {A : Around} {outer : List Env} {s : Shared} {H : Hp} {args : Args} {us : List Value} {vs : List V} {Q : VK} {E : XK}
    (room : Room (k + 1) A) (en : Env0 P w K mg base A outer s H) (bd : BindsTo s fd args (ps.zip us)) (rel : Vals vs us) (hln : vs.length = ps.length)
    (body : ∀ cdv : Value, Room k (A.deeper (envOfC qual (defScope st) s.heap.objs.size f cdv)) →
      ∃ t, PSs (cxOf CX0 P w K mg base N qual (defScope st) f cdv A outer s H E).nox (defBody st) t ∧ t { nx := fun _ H' => Q .non H', rt := Q } (start N vs) H) :
    codeAny (model P w) A (.call (.ref f) args) (CR CX0 outer P w H s Q E) s := by
  obtain ⟨oc, od, kV, doc, pm, an, cdv, ct, osl, rfl, look, code⟩ := F.ex
  have still : ∀ b o, base.get? b = some o → s.heap.get? b = some o := fun b o e => (en.bs b o e).1
  have inK : K.In s.heap := en.mod.kin.keeps still
  have noL : s.heap.NoLimit := en.mod.nolimit.keeps still
  have kinds : ∀ y ∈ ps.zip us, (defScope st).names.lookup y.1 = some .local ∨
      ((defScope st).names.lookup y.1 = some .cell ∧ ((cellsFrom (s.heap.objs.size + 1) (defScope st).names []).lookup y.1).isSome = true) := by
    rintro ⟨nm, u⟩ hy
    cases S.par nm (List.of_mem_zip hy).1 with
    | inl z => exact .inl z
    | inr z => exact .inr ⟨z, PySem.W.cellsFrom_some _ _ _ (.inl z)⟩
  have step := codeAny_call_function (prog := P) (w := w) (A := A) (s := s) room.depth (inK _ _ look) rfl S.co S.gen rfl (PySem.W.codeRec_of inK code)
    (R := CR CX0 outer P w H s Q E) (args := args)
  refine step (bd _ _ _ _ ?_)
  refine wpAny_newFunctionEnv_cells S.kind kinds ?_
  intro env isEnv s1 inC
  subst isEnv
  refine ⟨noL.keeps inC.toInCall.keep, codeAny_func ?_⟩
  obtain ⟨t, ht, hq⟩ := body cdv (room.deeper _)
  have J : Inv (cxOf CX0 P w K mg base N qual (defScope st) f cdv A outer s H E) [] (start N vs) H s1 := inv_start S room.hd en hln rel inC
  refine wpAny_mono (ht.nox.run [] s1 (start N vs) H _ J hq) ?_ ?_
  · intro fl s' done
    cases fl with
    | ret u =>
      obtain ⟨v, σ', H', I', rv, qv⟩ := done
      exact ⟨v, H', I'.os, I'.bare, I'.base, I'.hok, rv, qv⟩
    | next =>
      obtain ⟨σ', H', I', qv⟩ := done
      exact ⟨V.non, H', I'.os, I'.bare, I'.base, I'.hok, rfl, qv⟩
    | brk => exact done.elim fun _ z => z.elim fun _ z => z.2.elim
    | cont => exact done.elim fun _ z => z.elim fun _ z => z.2.elim
  · intro e s' z
    exact z
/-! ### the law's own call -/
theorem law_at {P : Program} {w : World} {K : PySem.W.Frag} {mg mb : Str → Option Value} {fa a : Addr} {s₁ : Shared} {vs : List Value} {ns : List Int}
    (inK : K.In s₁.heap) (gl : s₁.heap.Ns mainGlobals mg) (bl : s₁.heap.Ns builtinsNs mb) (isB : ∀ x : Str, x ≠ "__name__" → mb x = bootBuiltins x) (lim : s₁.heap.NoLimit) (gens : s₁.gens = #[])
    (obj : s₁.heap.get? a = some { cls := .type "list", data := .seq vs.toArray }) (hints : IntsAre vs ns) (few : ns.length ≤ sizeLine)
    (run : ∀ (base : Heap) (H : Hp), K.In base → base.Ns mainGlobals mg → Env0 P w K mg base callerA [] s₁ H → SqL K H a (ns.map V.int) →
      codeAny (model P w) callerA (.call (.ref fa) ⟨[.ref a], []⟩) (CR CX0 [] P w H s₁ (fun v _ => v = .bl true) fun _ _ _ => False) s₁) :
    codeAny (model P w) callerA (.call (.ref fa) ⟨[.ref a], []⟩) (fun r s' => r = .ok (.ret (.bool true)) ∧ OldK s₁.heap s'.heap ∧ s'.os = s₁.os ∧ AllBare s'.gens) s₁ := by
  have rel := vals_ints hints
  have lens := hints.length
  have found : ∃ H : Hp, Only H ∧ SqL K H a (ns.map V.int) ∧ HOk P w H s₁.heap ∧ (∀ b u, H b = some u → b = a ∧ K.lookup a = none) := by
    cases inText : K.lookup a with
    | some o =>
      have same := inK a o inText
      rw [obj] at same
      cases same
      have never : ∀ (u : HO), (none : Option HO) ≠ some u := fun u z => by cases z
      refine ⟨fun _ => none, fun _ => .inl rfl, ?_, (fun b u z => (never u z).elim), (fun b u z => (never u z).elim)⟩
      refine .inr ⟨_, vs.toArray, _, inText, rfl, rfl, rfl, ?_, ?_⟩
      · rw [List.size_toArray, lens]
        exact few
      · rw [List.toList_toArray]
        exact rel
    | none =>
      let here : HO := .frz { cls := .type "list", data := .seq vs.toArray } (.lst (ns.map V.int))
      have only : ∀ b u, (if b = a then some here else none) = some u → b = a ∧ u = here := fun b u z => by
        by_cases hb : b = a
        · rw [if_pos hb] at z
          exact ⟨hb, (Option.some.inj z).symm⟩
        · rw [if_neg hb] at z
          cases z
      refine ⟨fun b => if b = a then some here else none, fun b => ?_, .inl (.inr ⟨{ cls := .type "list", data := .seq vs.toArray }, if_pos rfl⟩), fun b u z => ?_, fun b u z => ⟨(only b u z).1, rfl⟩⟩
      · by_cases hb : b = a
        · exact .inr ⟨_, _, if_pos hb⟩
        · exact .inl (if_neg hb)
      · obtain ⟨rfl, rfl⟩ := only b u z
        exact ⟨obj, by rw [List.length_map]; exact few, vs, _, rel, obj⟩
  obtain ⟨H, hO, hS, hok, hA⟩ := found
  have under : ∀ {b : Addr} {o : Obj}, s₁.heap.get? b = some o → H b = none → (hidT s₁.heap H).get? b = some o := fun e z => hidT_get e z
  have notDict : ∀ {b : Addr} {o : Obj} {es : Array DictEntry} {ep : Nat}, s₁.heap.get? b = some o → o.data = .dict es ep → H b = none := by
    intro b o es ep e isD
    cases z : H b with
    | none => rfl
    | some u =>
      obtain ⟨rfl, _⟩ := hA b u z
      rw [obj] at e
      cases e
      cases isD
  have ns' : ∀ {b : Addr} {m : Str → Option Value}, s₁.heap.Ns b m → (hidT s₁.heap H).Ns b m := by
    rintro b m ⟨o, es, ep, e, isD, r⟩
    exact ⟨o, es, ep, under e (notDict e isD), isD, r⟩
  have inK' : K.In (hidT s₁.heap H) := by
    intro b o e
    refine under (inK b o e) ?_
    cases z : H b with
    | none => rfl
    | some u =>
      obtain ⟨rfl, no⟩ := hA b u z
      rw [no] at e
      cases e
  obtain ⟨mc, l1, l2⟩ := lim
  have env : Env0 P w K mg (hidT s₁.heap H) callerA [] s₁ H :=
    ⟨rfl, ⟨inK', ns' gl, ⟨mb, ns' bl, isB⟩, ⟨mc, ns' l1, l2⟩⟩, fun _ _ e => of_hidT e, Nat.le_of_eq (hidT_size _ _), trivial, (fun _ hb => nomatch hb), hok, .of_eq gens⟩
  refine codeAny_mono (run _ H inK' (ns' gl) env hS) ?_
  intro r s' h
  cases r with
  | error e => exact h.elim
  | ok fl =>
    cases fl with
    | next => exact h.elim
    | brk => exact h.elim
    | cont => exact h.elim
    | ret u =>
      obtain ⟨v, H', os, bare, un, hok', rv, isT⟩ := h
      subst isT
      cases rv
      refine ⟨rfl, OldK.of_keep ?_, os, bare⟩
      intro b o e
      cases z : H b with
      | none => exact un.keep b o e z (fun y => nomatch y) (fun y => nomatch y)
      | some u =>
        rcases hO b with y | ⟨ob, xs, y⟩
        · rw [z] at y
          cases y
        · have y2 := un.frzs b ob _ y
          obtain ⟨e1, _⟩ := hok b _ y
          obtain ⟨e2, _⟩ := hok' b _ y2
          rw [e] at e1
          cases e1
          exact e2
/-! ### defs that ask for repr: the guards are carried -/
structure FnOkG (P : Program) (w : World) (K : PySem.W.Frag) (mg : Str → Option Value) (base : Heap) (k : Nat) (f : Addr) (fd : FuncData) (ps : List Str) (sp : Sp) : Prop where
  len : ∀ vs H Q E, sp vs H Q E → vs.length = ps.length
  run : ∀ (A : Around) (outer : List Env) (s : Shared) (H : Hp) (args : Args) (us : List Value) (vs : List V) (Q : VK) (E : XK), A.guards = some [] → Room k A → Env0 P w K mg base A outer s H →
    BindsTo s fd args (ps.zip us) → Vals vs us → sp vs H Q E → codeAny (model P w) A (.call (.ref f) args) (CR CX0 outer P w H s Q E) s
theorem fnG {P : Program} {w : World} {K : PySem.W.Frag} {mg : Str → Option Value} {base : Heap} {f : Addr} {fd : FuncData} {N ps : List Str} {k : Nat} {x qual : Str} {st : Stmt} {sp : Sp} (F : Fun K x qual st f fd) (S : FnScope N ps (defScope st))
    (len : ∀ vs H Q E, sp vs H Q E → vs.length = ps.length)
    (body : ∀ (cdv : Value) (A : Around) (outer : List Env) (s : Shared) (H : Hp) (vs : List V) (Q : VK) (E : XK), A.guards = some [] → Room k (A.deeper (envOfC qual (defScope st) s.heap.objs.size f cdv)) → sp vs H Q E →
      ∃ t, PSs (cxOf CX0 P w K mg base N qual (defScope st) f cdv A outer s H E).nox (defBody st) t ∧ t { nx := fun _ H' => Q .non H', rt := Q } (start N vs) H) :
    FnOkG P w K mg base (k + 1) f fd ps sp := by
  refine ⟨len, ?_⟩
  intro A outer s H args us vs Q E gs room en bd rel hsp
  exact enter_def F S room en bd rel (len _ _ _ _ hsp) fun cdv hr => body cdv A outer s H vs Q E gs hr hsp
theorem pe_callG {X : Cx} {k : Nat} {f : Addr} {fd : FuncData} {ps : List Str} {sp : Sp} {x : Str} {p pos : Pos} {e : Expr} {es : List Expr} {t : TA}
    (G : FnOkG X.prog X.w X.K X.mg X.base k f fd ps sp) (gs : X.A.guards = some []) (room : Room k X.A) (isG : Gl X x) (at0 : X.mg x = some (.ref f)) (kp : PySem.W.keepIn X.K (.ref f) = true) (bd : Binds X.K fd ps []) (args : PA X (e :: es) t)
    (nd : (x == ("__debug__" : Str)) = false := by decide) (he : starEach (e :: es) X.env = (false, eval e X.env) :: starEach es X.env := by rfl) (hp : (backTo pos (starEach es X.env)).any (·.1) = false := by rfl) :
    PE X (.Call (.Name x p) (e :: es) [] pos) (tCall sp [] E0 t) := by
  constructor
  intro pins s σ H Q I h
  refine wpAny_Call_Name_kw (ld_glob I isG at0 ?_ nd)
  refine PySem.W.callWith_K (h₀ := X.base) I.ok.mod.kin kp (thn (args.run pos pins s σ H _ I h) ?_) he hp
  rintro us s1 ⟨vs, H1, I1, rel, q⟩
  refine ⟨I1.kIn, ?_⟩
  have q' : sp vs H1 Q E0 := by
    rw [List.append_nil] at q
    exact q
  have hl : (us ++ []).length = ps.length := by
    rw [List.append_nil, ← rel.length]
    exact G.len _ _ _ _ q'
  have bd' := bd s1 us I1.kIn hl
  rw [List.append_nil] at bd'
  refine wpAny_call (codeAny_mono (G.run X.A X.stack s1 H1 ⟨us, []⟩ us vs Q E0 gs room I1.env0 bd' rel q') ?_)
  intro r s' done
  cases r with
  | error e => exact done.elim
  | ok fl =>
    cases fl with
    | ret u => exact I1.after done
    | next => exact done.elim
    | brk => exact done.elim
    | cont => exact done.elim
/-- a def that asks for repr, with its promise -/
structure DfG (P : Program) (w : World) (K : PySem.W.Frag) (mg : Str → Option Value) (base : Heap) (k : Nat) (nm : Str) (ps : List Str) (sp : Sp) where
  f : Addr
  fd : FuncData
  ok : FnOkG P w K mg base k f fd ps sp
  b : Binds K fd ps []
  kp : PySem.W.keepIn K (.ref f) = true
  g : mg nm = some (.ref f)
/-! ### repr of data without dicts -/
mutual
def okR : PyData → Bool
  | .none => true
  | .bool _ => true
  | .int i => decide (0 ≤ i) && decide (i < 10 ^ 30)
  | .str x => decide (x.length ≤ 64) && x.cps.toList.all (· < 128)
  | .list xs => okRs xs
  | .tuple xs => okRs xs
  | .dict _ => false
def okRs : List PyData → Bool
  | [] => true
  | x :: xs => okR x && okRs xs
end
mutual
def wtR : PyData → Nat
  | .none => 4
  | .bool _ => 5
  | .int _ => 31
  | .str x => 10 * x.length + 2
  | .list xs => 3 + wtRs xs
  | .tuple xs => 3 + wtRs xs
  | .dict _ => 0
def wtRs : List PyData → Nat
  | [] => 0
  | x :: xs => wtR x + 2 + wtRs xs
end
theorem small_shown {i : Int} (h0 : 0 ≤ i) (h : i < 10 ^ 30) : (Str.ofString (toString i)).length ≤ 31 ∧ i.natAbs.log2 < 1920 := by
  refine ⟨Nat.le_trans (toString_length_le h0 (by decide) h) (by decide), ?_⟩
  by_cases z : i.natAbs = 0
  · rw [z]; decide
  · rw [Nat.log2_lt z]
    have h2 : i.natAbs < 10 ^ 30 := by omega
    exact Nat.lt_of_lt_of_le h2 (Nat.le_trans (show 10 ^ 30 ≤ 2 ^ 100 by decide) (Nat.pow_le_pow_right (by decide) (by decide)))
theorem listText_leR (ts : List Str) : (listText ts).length ≤ piled ts + 3 := by
  have h := textFrom_len_le ts 0 "["
  have e : (listText ts).length = (textFrom 0 "[" ts).length + 1 := by
    show (textFrom 0 "[" ts ++ "]").length = _
    rw [strLen_append]
    rfl
  have z : ∀ l : List Str, (l.map (·.length)).sum + 2 * l.length = piled l := by
    intro l
    induction l with
    | nil => rfl
    | cons t l ih =>
      rw [piled_cons, List.map_cons, List.sum_cons, List.length_cons]
      omega
  have z2 := z ts
  have z3 : (("[" : String) : Str).length = 1 := rfl
  omega
mutual
theorem shownR : ∀ d : PyData, okR d = true → d.shown.length ≤ wtR d ∧ d.showable = true ∧ d.hasDict = false
  | .none, _ => by
    simp only [PyData.shown, wtR, PyData.showable, PyData.hasDict, and_true]
    decide +kernel
  | .bool b, _ => by
    simp only [PyData.shown, wtR, PyData.showable, PyData.hasDict, and_true]
    cases b <;> decide +kernel
  | .int i, h => by
    simp only [okR, Bool.and_eq_true, decide_eq_true_eq] at h
    obtain ⟨h1, h2⟩ := small_shown h.1 h.2
    simp only [PyData.shown, wtR, PyData.showable, PyData.hasDict, decide_eq_true_eq, and_true]
    exact ⟨h1, h2⟩
  | .str x, h => by
    simp only [okR, Bool.and_eq_true, decide_eq_true_eq, List.all_eq_true] at h
    have h1 := StrLaws.reprText_len x (fun c hc => Nat.lt_of_lt_of_le (h.2 c hc) (by decide))
    simp only [PyData.shown, wtR, PyData.showable, PyData.hasDict, and_true]
    omega
  | .list xs, h => by
    simp only [okR] at h
    obtain ⟨h1, h2, h3⟩ := shownRs xs h
    simp only [PyData.shown, wtR, PyData.showable, PyData.hasDict]
    exact ⟨Nat.le_trans (listText_leR _) (by omega), h2, h3⟩
  | .tuple xs, h => by
    simp only [okR] at h
    obtain ⟨h1, h2, h3⟩ := shownRs xs h
    simp only [PyData.shown, wtR, PyData.showable, PyData.hasDict]
    exact ⟨Nat.le_trans (fmt_text _) (by omega), h2, h3⟩
  | .dict _, h => by
    simp only [okR] at h
    exact absurd h Bool.false_ne_true
theorem shownRs : ∀ ds : List PyData, okRs ds = true → piled (PyData.shownAll ds) ≤ wtRs ds ∧ PyData.showableAll ds = true ∧ PyData.hasDictAll ds = false
  | [], _ => by
    simp only [PyData.shownAll, wtRs, PyData.showableAll, PyData.hasDictAll, and_true]
    exact Nat.le_refl _
  | d :: ds, h => by
    simp only [okRs, Bool.and_eq_true] at h
    obtain ⟨h1, h2, h5⟩ := shownR d h.1
    obtain ⟨h3, h4, h6⟩ := shownRs ds h.2
    simp only [PyData.shownAll, wtRs, PyData.showableAll, PyData.hasDictAll, h2, h4, h5, h6, Bool.and_self, Bool.or_self, and_true]
    rw [piled_cons]
    omega
end
def rReprR (K : PySem.W.Frag) : List V → Hp → VK → Prop := fun xs H Q => ∃ (a : Addr) (d : PyData), xs = [.ref a] ∧ Dp K H (.ref a) d ∧ okR d = true ∧ wtR d ≤ 1000000 ∧ d.depth ≤ 60 ∧ Q (.str d.shown) H
theorem call_reprR {X : Cx} (hg : X.A.guards = some []) (hu : X.A.units + 64 < cLine) : CallR X (.builtin "repr") (rReprR X.K) := by
  intro pins s σ H xs us Q I r h
  obtain ⟨a, d, rfl, hd, hs, hw, hz, q⟩ := h
  obtain ⟨u, rfl, rx⟩ := vals1 r
  cases rx
  obtain ⟨h1, h2, h3⟩ := shownR d hs
  obtain ⟨as, rd⟩ := Dp.reads I d _ _ hd rfl
  exact repr_of_reads' rd h2 (PyData.noDict_hsm h3) hg (by omega) (fun _ _ e => e) (fun h' u tk hk => ⟨.str d.shown, H, I.kept (t' := tk) hk, ⟨u, rfl⟩, q⟩) (by show _ ≤ 16777216; omega)
/-! ### zip of two texts -/
section
variable {X : Cx}
/-- new pairs of the signs of x and y -/
def ItzS (x y : Str) : It :=
  ⟨fun i _ => i < x.cps.size ∧ i < y.cps.size,
    fun i H v H' => ∃ (p : Addr) (c d : Nat), v = .ref p ∧ H p = none ∧ H' = upd H p (.tup [.str ⟨#[c]⟩, .str ⟨#[d]⟩]) ∧ x.cps[i]? = some c ∧ y.cps[i]? = some d,
    fun i _ => i = min x.cps.size y.cps.size⟩
theorem turn_zipS {P : Program} {w : World} {K : PySem.W.Frag} {elts : List Expr} {kk : Nat} {tpos : Pos} {x y : Str} {t1 t2 : Tok} {z ti to i1 i2 : Addr} (S : ZipSep2 z ti to i1 i2 [i1] [i2]) :
    Turn P w K (.Tuple elts kk tpos) (ItzS x y) [z, ti, to, i1, i2] z
      (fun i h => IsZip h z ti to .none ∧ IsTupOf2 h ti (.ref i1) (.ref i2) ∧ (∃ a b, IsTupOf2 h to a b) ∧ h.IsStrIter i1 (strIterType x) x t1 i ∧ h.IsStrIter i2 (strIterType y) y t2 i) where
  mem := by simp
  obj := fun i h st c hc => by
    obtain ⟨hz, hti, ⟨a, b, hto⟩, ⟨o1, e1, _, d1⟩, ⟨o2, e2, _, d2⟩⟩ := st
    have hc' : c = z ∨ c = ti ∨ c = to ∨ c = i1 ∨ c = i2 := by simpa using hc
    rcases hc' with q | q | q | q | q
    · rw [q]; exact ⟨_, hz, fun v q2 => nomatch q2⟩
    · rw [q]; exact ⟨_, hti, fun v q2 => nomatch q2⟩
    · rw [q]; exact ⟨_, hto, fun v q2 => nomatch q2⟩
    · exact ⟨o1, by rw [q]; exact e1, fun v q => by rw [d1] at q; cases q⟩
    · exact ⟨o2, by rw [q]; exact e2, fun v q => by rw [d2] at q; cases q⟩
  keep := fun i h h' st k => by
    obtain ⟨hz, hti, ⟨a, b, hto⟩, ⟨o1, e1, r1⟩, ⟨o2, e2, r2⟩⟩ := st
    exact ⟨k z (by simp) _ hz, k ti (by simp) _ hti, ⟨a, b, k to (by simp) _ hto⟩, ⟨o1, k i1 (by simp) _ e1, r1⟩, ⟨o2, k i2 (by simp) _ e2, r2⟩⟩
  item := by
    intro X hP hw hK hc i pins s σ H E I hf st hg
    subst hP hw hK
    obtain ⟨hz, hti, ⟨a0, b0, hto⟩, h1, h2⟩ := st
    have quiet : X.A.in1.handled = none := I.ok.hd hc
    have zlt : z < s.heap.objs.size := Heap.lt_size hz
    refine wpAny_pyNext_zipD2_item S (Draws.text quiet i1 x t1) (Draws.text quiet i2 y t2) hz hti hto h1 h2 hg.1 hg.2 fun u1 u2 h' tk p1 p2 z' to' j1 j2 hT hsz hk => ?_
    obtain ⟨c, tc, ec, rfl⟩ := p1
    obtain ⟨d, td, ed, rfl⟩ := p2
    refine ⟨_, rfl, wpAny_letOwnedTupleGo_zip (s := { s with heap := h', toks := tk }) z' fun h'' z'' sb => ?_⟩
    have hT2 : h''.get? s.heap.objs.size = some { cls := .type "tuple", data := .seq #[.str ⟨#[c]⟩ tc, .str ⟨#[d]⟩ td] } := (sb.2 _ (Nat.ne_of_gt zlt)).trans hT
    have new : ObjOk X.prog X.w (upd H s.heap.objs.size (.tup [.str ⟨#[c]⟩, .str ⟨#[d]⟩])) h'' s.heap.objs.size (.tup [.str ⟨#[c]⟩, .str ⟨#[d]⟩]) :=
      ⟨by show 2 ≤ sizeLine; decide, [.str ⟨#[c]⟩ tc, .str ⟨#[d]⟩ td], .cons ⟨_, rfl⟩ (.cons ⟨_, rfl⟩ .nil), ⟨_, hT2, rfl, _, rfl⟩⟩
    have I1 : Inv X pins σ (upd H s.heap.objs.size (.tup [.str ⟨#[c]⟩, .str ⟨#[d]⟩])) { s with heap := h'', toks := tk } :=
      I.turnedNew (t' := tk) (ch := [z, ti, to, i1, i2]) (fun c o hb q => (sb.2 c (fun e => hb (by simp [e]))).trans (hk c o (fun e => hb (by simp [e])) (fun e => hb (by simp [e])) (fun e => hb (by simp [e])) (fun e => hb (by simp [e])) q)) hf (Nat.le_refl _) new
    refine ⟨.ref s.heap.objs.size, _, I1, rfl, ⟨_, c, d, rfl, I.hok.fresh (Nat.le_refl _), rfl, ec, ed⟩, ⟨z'', (sb.2 _ S.TIz).trans (hk _ _ S.TIz S.TITO S.TIi1 S.TIi2 hti), ⟨_, _, (sb.2 _ S.TOz).trans to'⟩, ?_, ?_⟩, fun c hcm => ?_⟩
    · obtain ⟨o, e, r⟩ := j1
      exact ⟨o, (sb.2 _ S.zi1.symm).trans e, r⟩
    · obtain ⟨o, e, r⟩ := j2
      exact ⟨o, (sb.2 _ S.zi2.symm).trans e, r⟩
    · have lt : c < s.heap.objs.size := by
        have hc' : c = z ∨ c = ti ∨ c = to ∨ c = i1 ∨ c = i2 := by simpa using hcm
        rcases hc' with q | q | q | q | q
        · rw [q]; exact zlt
        · rw [q]; exact Heap.lt_size hti
        · rw [q]; exact Heap.lt_size hto
        · rw [q]; obtain ⟨_, e, _⟩ := h1; exact Heap.lt_size e
        · rw [q]; obtain ⟨_, e, _⟩ := h2; exact Heap.lt_size e
      rw [upd_ne (Nat.ne_of_lt lt)]
      exact (hf c hcm).1
  done := by
    intro X hP hw hK hc i pins s σ H E I hf st hg
    subst hP hw hK
    obtain ⟨hz, hti, ⟨a0, b0, hto⟩, h1, h2⟩ := st
    have quiet : X.A.in1.handled = none := I.ok.hd hc
    have hg' : i = min x.cps.size y.cps.size := hg
    exact wpAny_pyNext_zipD2_end S (Draws.text quiet i1 x t1) (Draws.text quiet i2 y t2) hz hti hto h1 h2 (by omega) (by omega) (by omega) fun h' tk hk => ⟨rfl, I.turnedL (t' := tk) (ch := [z, ti, to, i1, i2]) (fun c o hb q =>
      hk c o (fun e => hb (by simp [e])) (fun e => hb (by simp [e])) (fun e => hb (by simp [e])) (fun e => hb (by simp [e])) q) hf⟩
  self := fun A i s Q E st h => wpAny_pyIter_zip st.1 h
def iZipS (ta : TA) : TI := fun σ H R => ta σ H fun vs H1 => ∃ x y : Str, vs = [.str x, .str y] ∧ R (ItzS x y) H1
theorem pi_zipS {e e2 : Expr} {ta : TA} {p pos tpos : Pos} {elts : List Expr} {kk : Nat} (hg : Gl X "zip") (hm : X.mg "zip" = none) (ha : PA X [e, e2] ta)
    (hs : starEach [e, e2] X.env = (false, eval e X.env) :: starEach [e2] X.env := by rfl) (hpl : (backTo pos (starEach [e2] X.env)).any (·.1) = false := by rfl) :
    PI X (.Tuple elts kk tpos) (.Call (.Name "zip" p) [e, e2] [] pos) (iZipS ta) := by
  refine ⟨fun pins s σ H R I h => ?_⟩
  refine Call_ (ld_blt I hg hm PyProof.Rows.boot_zip (PyProof.Rows.callWith_type1 (thn (ha.run pos pins s σ H _ I h) fun us s1 h1 => ?_) hs hpl))
  obtain ⟨vs, H1, I1, r1, x, y, rfl, q⟩ := h1
  obtain ⟨u, u2, rfl, ⟨t1, rfl⟩, ⟨t2, rfl⟩⟩ := vals2 r1
  refine zip_begins2 (begins_text x t1) (begins_text y t2) trivial trivial fun h' hz hti hto g1 g2 hsz hk => wpAny_pyIter_zip hz ?_
  have I2 : Inv X pins σ H1 { s1 with heap := h' } := I1.kept (t' := s1.toks) hk
  have young : ∀ c, c ∈ [s1.heap.objs.size + 4, s1.heap.objs.size + 2, s1.heap.objs.size + 3, s1.heap.objs.size, s1.heap.objs.size + 1] → FpOk X pins H1 c := fun c hc => by
    have le : s1.heap.objs.size ≤ c := by
      have hc' : c = s1.heap.objs.size + 4 ∨ c = s1.heap.objs.size + 2 ∨ c = s1.heap.objs.size + 3 ∨ c = s1.heap.objs.size ∨ c = s1.heap.objs.size + 1 := by simpa using hc
      rcases hc' with q | q | q | q | q <;> (rw [q]; first | exact Nat.le_add_right _ _ | exact Nat.le_refl _)
    exact I1.fpOk le (I1.hok.fresh le)
  have apart : ∀ (n a b : Nat), a ≠ b → n + a ≠ n + b := fun n a b h z => h (Nat.add_left_cancel z)
  refine ⟨s1.heap.objs.size + 4, [s1.heap.objs.size + 4, s1.heap.objs.size + 2, s1.heap.objs.size + 3, s1.heap.objs.size, s1.heap.objs.size + 1], _, _, H1, rfl, I2, turn_zipS (t1 := t1) (t2 := t2) ?_, ⟨hz, hti, ⟨_, _, hto⟩, ⟨_, g1, rfl, rfl⟩, ⟨_, g2, rfl, rfl⟩⟩, young, q⟩
  have n0 : s1.heap.objs.size = s1.heap.objs.size + 0 := rfl
  refine ⟨apart _ _ _ (by decide), apart _ _ _ (by decide), apart _ _ _ (by decide), ?_, by simp, ?_, ?_, apart _ _ _ (by decide), by simp, ?_, ?_, ?_, ?_⟩
  · exact apart _ 2 0 (by decide)
  · intro h; exact apart _ 4 0 (by decide) (List.mem_singleton.mp h)
  · intro h; exact apart _ 3 0 (by decide) (List.mem_singleton.mp h)
  · intro h; exact apart _ 4 1 (by decide) (List.mem_singleton.mp h)
  · intro h; exact apart _ 3 1 (by decide) (List.mem_singleton.mp h)
  · intro h; exact apart _ 0 1 (by decide) (List.mem_singleton.mp h)
  · intro h; exact apart _ 1 0 (by decide) (List.mem_singleton.mp h)
theorem pi_or {tg e : Expr} {w1 w2 : TI} (a : PI X tg e w1) (b : PI X tg e w2) : PI X tg e (fun σ H R => w1 σ H R ∨ w2 σ H R) :=
  ⟨fun pins s σ H R I h => h.elim (fun h => a.run pins s σ H R I h) fun h => b.run pins s σ H R I h⟩
theorem walk_zipS {x y : Str} {n : Nat} (hn : n = min x.cps.size y.cps.size) : Walk (ItzS x y) n (fun _ => True) (fun i H v H' => ∃ (p : Addr) (c d : Nat), v = .ref p ∧ H p = none ∧ H' = upd H p (.tup [.str ⟨#[c]⟩, .str ⟨#[d]⟩]) ∧ x.cps[i]? = some c ∧ y.cps[i]? = some d) :=
  ⟨fun i _ hi _ => ⟨by omega, by omega⟩, fun _ _ => hn, fun _ _ _ _ _ _ q => q⟩
end
/-! ### comprehensions of two clauses; text * count -/
theorem lc2_it {J : It} {n : Nat} {G : Hp → Prop} {Y : Nat → Hp → V → Hp → Prop} (w : Walk J n G Y) {g : TG} {tt : TT} {wi1 : TI} {g1 : TG} {tt1 : TT} {te : TE} {vs vs1 : List Nat} {σ : L2.St} {H1 : Hp} {D : Addr} {Qd : Hp → Prop} (Pv : Nat → Hp → Prop) (h0 : Pv 0 (upd H1 D (.lst []))) (hG : ∀ i H, i ≤ n → Pv i H → G H)
    (hs : ∀ i x H H', i < n → Pv i H → Y i H x H' → g x (wipe σ vs) H' fun σ2 H2 => wipe σ2 vs = wipe σ vs ∧ tt σ2 H2 fun b H3 =>
      if b = true then wi1 σ2 H3 fun J1 H4 => ∃ W1 : Nat → Nat → Hp → Prop, (∃ m, W1 0 m H4) ∧ ∀ j k H, W1 j k H →
        (J1.stop j H ∧ Pv (i + 1) H) ∨ (J1.go j H ∧ ∃ Nx1 : Hp → Prop, (∀ H', Nx1 H' → ∃ k', k' < k ∧ W1 (j + 1) k' H') ∧ ∀ x H', J1.yld j H x H' → g1 x (wipe σ2 vs1) H' fun σ3 H5 => wipe σ3 vs1 = wipe σ2 vs1 ∧ tt1 σ3 H5 fun b H6 =>
          if b = true then te σ3 H6 fun y H7 => ∃ acc, H7 D = some (.lst acc) ∧ acc.length < sizeLine ∧ Nx1 (upd H7 D (.lst (acc ++ [y]))) else Nx1 H6)
      else Pv (i + 1) H3) (hd : ∀ H, Pv n H → Qd H) :
    ∃ W : Nat → Nat → Hp → Prop, (∃ m, W 0 m (upd H1 D (.lst []))) ∧ ∀ i m H, W i m H →
      (J.stop i H ∧ Qd H) ∨ (J.go i H ∧ ∃ Nx : Hp → Prop, (∀ H', Nx H' → ∃ m', m' < m ∧ W (i + 1) m' H') ∧ ∀ x H', J.yld i H x H' → g x (wipe σ vs) H' fun σ2 H2 => wipe σ2 vs = wipe σ vs ∧ tt σ2 H2 fun b H3 =>
        if b = true then wi1 σ2 H3 fun J1 H4 => ∃ W1 : Nat → Nat → Hp → Prop, (∃ m, W1 0 m H4) ∧ ∀ j k H, W1 j k H →
          (J1.stop j H ∧ Nx H) ∨ (J1.go j H ∧ ∃ Nx1 : Hp → Prop, (∀ H', Nx1 H' → ∃ k', k' < k ∧ W1 (j + 1) k' H') ∧ ∀ x H', J1.yld j H x H' → g1 x (wipe σ2 vs1) H' fun σ3 H5 => wipe σ3 vs1 = wipe σ2 vs1 ∧ tt1 σ3 H5 fun b H6 =>
            if b = true then te σ3 H6 fun y H7 => ∃ acc, H7 D = some (.lst acc) ∧ acc.length < sizeLine ∧ Nx1 (upd H7 D (.lst (acc ++ [y]))) else Nx1 H6)
        else Nx H3) := by
  refine ⟨fun i m H => m = n - i ∧ i ≤ n ∧ Pv i H, ⟨n, by simp, Nat.zero_le _, h0⟩, ?_⟩
  rintro i m H ⟨rfl, hi, p⟩
  have q := hG i H hi p
  by_cases hlt : i < n
  · exact .inr ⟨w.goes i H hlt q, Pv (i + 1), fun H' p' => ⟨n - (i + 1), by omega, rfl, hlt, p'⟩, fun x H' y => hs i x H H' hlt p (w.yields i H x H' hlt q y)⟩
  · have e : i = n := by omega
    subst e
    exact .inl ⟨w.stops H q, hd H p⟩
theorem in_it {J : It} {n : Nat} {G : Hp → Prop} {Y : Nat → Hp → V → Hp → Prop} (w : Walk J n G Y) {g : TG} {tt : TT} {te : TE} {vs : List Nat} {σ : L2.St} {H4 : Hp} {D : Addr} {Nx : Hp → Prop} (Pv : Nat → Hp → Prop) (h0 : Pv 0 H4) (hG : ∀ i H, i ≤ n → Pv i H → G H)
    (hs : ∀ i x H H', i < n → Pv i H → Y i H x H' → g x (wipe σ vs) H' fun σ2 H2 => wipe σ2 vs = wipe σ vs ∧ tt σ2 H2 fun b H3 =>
      if b = true then te σ2 H3 fun y H4 => ∃ acc, H4 D = some (.lst acc) ∧ acc.length < sizeLine ∧ Pv (i + 1) (upd H4 D (.lst (acc ++ [y]))) else Pv (i + 1) H3) (hd : ∀ H, Pv n H → Nx H) :
    ∃ W : Nat → Nat → Hp → Prop, (∃ m, W 0 m H4) ∧ ∀ i m H, W i m H →
      (J.stop i H ∧ Nx H) ∨ (J.go i H ∧ ∃ Nx1 : Hp → Prop, (∀ H', Nx1 H' → ∃ m', m' < m ∧ W (i + 1) m' H') ∧ ∀ x H', J.yld i H x H' → g x (wipe σ vs) H' fun σ2 H2 => wipe σ2 vs = wipe σ vs ∧ tt σ2 H2 fun b H3 =>
        if b = true then te σ2 H3 fun y H4 => ∃ acc, H4 D = some (.lst acc) ∧ acc.length < sizeLine ∧ Nx1 (upd H4 D (.lst (acc ++ [y]))) else Nx1 H3) := by
  refine ⟨fun i m H => m = n - i ∧ i ≤ n ∧ Pv i H, ⟨n, by simp, Nat.zero_le _, h0⟩, ?_⟩
  rintro i m H ⟨rfl, hi, p⟩
  have q := hG i H hi p
  by_cases hlt : i < n
  · exact .inr ⟨w.goes i H hlt q, Pv (i + 1), fun H' p' => ⟨n - (i + 1), by omega, rfl, hlt, p'⟩, fun x H' y => hs i x H H' hlt p (w.yields i H x H' hlt q y)⟩
  · have e : i = n := by omega
    subst e
    exact .inl ⟨w.stops H q, hd H p⟩
/-- trees at vs -/
theorem foldl_cat (x : Array Nat) : ∀ (m : Nat) (a : Array Nat), (List.replicate m x).foldl (· ++ ·) a = a ++ (List.replicate m x.toList).flatten.toArray
  | 0, a => by simp
  | m + 1, a => by
    rw [List.replicate_succ, List.foldl_cons, foldl_cat x m, List.replicate_succ, List.flatten_cons]
    apply Array.ext'
    simp
theorem flat_ones (c m : Nat) : (List.replicate m [c]).flatten = List.replicate m c := by
  induction m with
  | zero => rfl
  | succ m ih => rw [List.replicate_succ, List.flatten_cons, ih, List.replicate_succ]; rfl
/-- one sign, often -/
theorem op_timesS {X : Cx} : OpR X (binaryOp .Mult) (fun x y H Q => ∃ (c : Nat) (m : Nat), x = .str (tx [c]) ∧ y = .int (m : Int) ∧ 1 ≤ m ∧ m ≤ 1000 ∧ Q (.str (tx (List.replicate m c))) H) := by
  intro pins s σ H x y v u Q I rx ry h
  obtain ⟨c, m, rfl, rfl, h1, h2, q⟩ := h
  obtain ⟨t, rfl⟩ := rx
  obtain ⟨t', rfl⟩ := ry
  have one : (tx [c]).length = 1 := rfl
  have far : (1 : Int) ≤ (2 ^ 63 - 1) / (m : Int) := (Int.le_ediv_iff_mul_le (by omega)).mpr (by omega)
  refine PySem.P.mul_str (by rw [decide_eq_false (by omega), decide_eq_false (by omega)]; rfl) (fun _ _ => by rw [one]; have := far; omega) (fun _ _ => by unfold Builtin.Str.tooLong; exact decide_eq_false (by rw [one]; have : (1000 : Nat) ≤ sizeLine := (by decide); omega)) ?_
  rw [if_neg (show ¬ (m : Int) < 1 by omega)]
  by_cases h0 : m = 1
  · subst h0
    rw [if_pos (show (((1 : Nat) : Int) == 1 || (tx [c]).length == 0) = true from rfl)]
    exact ⟨.str (tx [c]), H, I, ⟨t, rfl⟩, q⟩
  · have no : ¬ (((m : Int) == 1 || (tx [c]).length == 0) = true) := by
      rw [one]
      simp
      omega
    rw [if_neg no]
    have e : (⟨(List.replicate (m : Int).toNat (tx [c]).cps).foldl (· ++ ·) #[]⟩ : Str) = tx (List.replicate m c) := by
      rw [foldl_cat, ← flat_ones]
      simp [tx]
    rw [e]
    refine ⟨?_, .str _, H, I.tok _, ⟨_, rfl⟩, q⟩
    rw [tx_len, List.length_replicate]
    exact small h2
/-! ### rows: signs, is_letter, is_row -/
def sgn (c : Nat) : Prop := c = 63 ∨ (97 ≤ c ∧ c ≤ 122)
structure RowOk (r : List Nat) : Prop where
  ne : r ≠ []
  few : r.length ≤ 12
  all : ∀ c ∈ r, sgn c
theorem str_q : Str.ofString "?" = ch 63 := by decide +kernel
def spOne : Sp := fun vs H Q _ => ∃ c : Nat, vs = [vc c] ∧ Q (.bl (decide (97 ≤ c) && decide (c ≤ 122))) H
def spRow : Sp := fun vs H Q _ => ∃ r : List Nat, vs = [vt r] ∧ RowOk r ∧ ∀ H', Same H H' → Q (.bl true) H'
section
variable {P : Program} {w : World} {K : PySem.W.Frag} {mg : Str → Option Value} {base : Heap} {f : Addr} {fd : FuncData}
theorem ok_one {k : Nat} (F : Fun K "is_letter" "is_letter" s_is_letter f fd) (M : Mgs mg) : FnOk P w K mg base CX0 (k + 1) f fd ["value"] spOne := by
  refine F.ok sc_is_letter (fun vs H Q E h => ?_) (fun cdv A outer s H vs Q E hr h => ?_)
  · obtain ⟨c, rfl, _⟩ := h
    rfl
  obtain ⟨c, rfl, q⟩ := h
  refine ⟨_, (pss_one (ps_ret (pe_and (pe_callB call_isi rfl M.isinstance (by decide +kernel) (pa_cons (pv 0) (pa_cons (pe_bltn (v := .ty "str") rfl M.str (by decide +kernel) rfl) pa_nil))) (pe_and (pe_cmpR op_eq (pe_callB call_len_str rfl M.len PySem.boot_len (pa_cons (pv 0) pa_nil)) pe_int (nomark _)) (pe_one (pe_chain op_le_str op_le_str pe_str (pv 0) pe_str)))))), ?_⟩
  refine ⟨_, rfl, _, _, _, _, true, rfl, .ty _, .base (.str (tx [c])), kit_ty (by decide +kernel), _, rfl, iteT ?_⟩
  refine ⟨_, rfl, tx [c], rfl, small (by show 1 ≤ 1000; decide), rfl, _, rfl, ?_⟩
  rw [show decide (V.int ((tx [c]).length : Nat) = V.int 1) = true from rfl]
  refine iteT ⟨_, rfl, _, _, rfl, rfl, _, rfl, ?_⟩
  have e1 : (!decide ((ch c).cps.toList < (Str.ofString "a").cps.toList)) = decide (97 ≤ c) := by
    rw [show (Str.ofString "a").cps.toList = [97] by decide +kernel, show (ch c).cps.toList = [c] from rfl]
    by_cases h : c < 97
    · rw [decide_eq_true (by simp [List.cons_lt_cons_iff, h]), decide_eq_false (by omega)]; rfl
    · rw [decide_eq_false (by simp [List.cons_lt_cons_iff, h]), decide_eq_true (by omega)]; rfl
  have e2 : (!decide ((Str.ofString "z").cps.toList < (ch c).cps.toList)) = decide (c ≤ 122) := by
    rw [show (Str.ofString "z").cps.toList = [122] by decide +kernel, show (ch c).cps.toList = [c] from rfl]
    by_cases h : 122 < c
    · rw [decide_eq_true (by simp [List.cons_lt_cons_iff, h]), decide_eq_false (by omega)]; rfl
    · rw [decide_eq_false (by simp [List.cons_lt_cons_iff, h]), decide_eq_true (by omega)]; rfl
  rw [e1]
  by_cases h : 97 ≤ c
  · rw [decide_eq_true h] at q ⊢
    refine iteT ⟨_, _, rfl, rfl, ?_⟩
    rw [e2]
    exact q
  · rw [decide_eq_false h] at q ⊢
    exact iteF q
theorem ok_row {tM : Tok} (F : Fun K "is_row" "is_row" s_is_row f fd) (M : Mgs mg) (mMAX : mg "MAX_NODES" = some (.int 12 tM)) (Dis_letter : Df P w K mg base 1 "is_letter" ["value"] spOne) : FnOk P w K mg base CX0 2 f fd ["value"] spRow := by
  refine F.ok sc_is_row (fun vs H Q E h => ?_) (fun cdv A outer s H vs Q E hr h => ?_)
  · obtain ⟨r, rfl, _⟩ := h
    rfl
  obtain ⟨r, rfl, ok, q⟩ := h
  refine ⟨_, (pss_cons (ps_if (PW.pt (pw_or (pt_not (pt_val (pe_callB call_isi rfl M.isinstance (by decide +kernel) (pa_cons (pv 0) (pa_cons (pe_bltn (v := .ty "str") rfl M.str (by decide +kernel) rfl) pa_nil))))) (pw_or1 (pt_not (pt_chain op_le op_le pe_int (pe_callB call_len_str rfl M.len PySem.boot_len (pa_cons (pv 0) pa_nil)) (pe_glob (v := .int _) rfl mMAX ⟨_, rfl⟩))))))
      (pss_one (ps_ret pe_bl)) pss_nil)
    (pss_one (ps_ret (pe_callB (cr_all rfl) rfl M.all (by decide +kernel) (pa_cons (pe_lc (own := [("sign", 1)]) (g := gName 1) (tt := tYes) rfl sc_is_row.nd (pi_str (pv 0)) (blkOk_by (N := ["value", "sign"]) (sc := defScope s_is_row) (by decide +kernel)) (fun _ _ _ _ _ => (pg_name (i := 1) sc_is_row.nd rfl (.inl rfl))) (fun _ _ _ _ _ => pts_nil) (fun _ _ _ _ _ => (pe_or (pe_cmpR op_eq (pv 1) pe_str (nomark _)) (pe_one (pe_call Dis_letter.ok (hr.mono (by omega)) rfl Dis_letter.g Dis_letter.kp Dis_letter.b .nil pass0 (pa_cons (pv 1) pa_nil)))))) pa_nil))))), ?_⟩
  have r0 : 0 < r.length := List.length_pos_iff.mpr ok.ne
  have few := ok.few
  refine ⟨_, rfl, _, _, _, _, true, rfl, .ty _, .base (.str (tx r)), kit_ty (by decide +kernel), _, rfl, ?_⟩
  have few2 : ((tx r).length : Int) ≤ 12 := by rw [tx_len]; omega
  have more2 : (1 : Int) ≤ ((tx r).length : Int) := by rw [tx_len]; omega
  refine ⟨_, rfl, _, rfl, small (by rw [tx_len]; omega), _, _, rfl, rfl, ?_⟩
  refine ⟨_, rfl, ?_⟩
  rw [decide_eq_true more2]
  refine iteT ⟨_, _, rfl, rfl, _, rfl, ?_⟩
  rw [decide_eq_true few2]
  refine iteF ?_
  refine ⟨_, rfl, tx r, rfl, fun D nD => ?_⟩
  have q1 := same_new nD (.lst [])
  refine lc_text (x := tx r) (fun i H' => Same H H' ∧ H' D = some (.lst ((List.replicate i true).map V.bl))) ⟨q1, upd_same⟩ (fun i c H' hc hp => ?_) (fun H' hp => ?_)
  · obtain ⟨sm, ed⟩ := hp
    have hc : r[i]? = some c := hc
    have hi := (List.getElem?_eq_some_iff.mp hc).1
    have sg := ok.all c (List.mem_of_getElem? hc)
    have out : ∀ Qn : Hp → Prop, (∀ H2, (Same H H2 ∧ H2 D = some (.lst ((List.replicate (i + 1) true).map V.bl))) → Qn H2) → ∃ acc, H' D = some (.lst acc) ∧ acc.length < sizeLine ∧ Qn (upd H' D (.lst (acc ++ [V.bl true]))) := fun Qn hq => by
      refine ⟨_, ed, ?_, hq _ ⟨fun b o e => ?_, ?_⟩⟩
      · rw [List.length_map, List.length_replicate]; exact small1000 (by omega)
      · rw [upd_ne (ne_of_none e nD)]; exact sm _ _ e
      · rw [upd_same, List.replicate_succ', List.map_append]; rfl
    refine ⟨rfl, kept ?_⟩
    refine ⟨_, rfl, rfl, _, rfl, ?_⟩
    rw [str_q]
    by_cases h63 : c = 63
    · subst h63
      rw [decide_eq_true (show V.str ⟨#[63]⟩ = V.str (ch 63) from rfl)]
      exact iteT (out _ fun _ z => z)
    · rw [decide_eq_false (show ¬ V.str ⟨#[c]⟩ = V.str (ch 63) from fun z => h63 (ch_inj (V.str.inj z)))]
      refine iteF ⟨_, rfl, c, rfl, ?_⟩
      have hl : 97 ≤ c ∧ c ≤ 122 := by
        rcases sg with z | z
        · exact absurd z h63
        · exact z
      rw [decide_eq_true hl.1, decide_eq_true hl.2]
      exact out _ fun _ z => z
  · obtain ⟨sm, ed⟩ := hp
    refine ⟨D, _, rfl, SqL.of ed, ?_⟩
    have e : (List.replicate (tx r).cps.toList.length true).all id = true := by simp
    rw [e]
    exact q H' sm
end
/-! ### three_rows -/
abbrev Rows := List (Kd × List Nat)
def rowsK (L : Rows) : List (Key × V) := L.map fun p => (.inr p.1.str, vt p.2)
def rowOf (L : Rows) (n : Nat) (k : Kd) : List Nat := ((L.find? fun p => decide (p.1 = k)).map (·.2)).getD (List.replicate n 63)
theorem Kd.inj {a b : Kd} (h : a.str = b.str) : a = b := by
  cases a <;> cases b <;> first | rfl | exact absurd h (by decide +kernel)
theorem rows_val (k : Kd) : ∀ L : Rows, valV (rowsK L) (.inr k.str) = ((L.find? fun p => decide (p.1 = k)).map (·.2)).map vt
  | [] => rfl
  | (j, r) :: L => by
    by_cases h : j = k
    · subst h
      rw [show rowsK ((j, r) :: L) = (.inr j.str, vt r) :: rowsK L from rfl, valV_pos rfl, List.find?_cons_of_pos (by simp)]
      rfl
    · rw [show rowsK ((j, r) :: L) = (.inr j.str, vt r) :: rowsK L from rfl, valV_neg (fun e => h (Kd.inj (Sum.inr.inj e))), List.find?_cons_of_neg (by simpa using h)]
      exact rows_val k L
theorem rows_there {L : Rows} (nd : (L.map (·.1)).Nodup) {k : Kd} {r : List Nat} (h : (k, r) ∈ L) : L.find? (fun p => decide (p.1 = k)) = some (k, r) := by
  induction L with
  | nil => cases h
  | cons p L ih =>
    obtain ⟨j, z⟩ := p
    obtain ⟨h1, h2⟩ := List.nodup_cons.mp (show (j :: L.map (·.1)).Nodup from nd)
    rcases List.mem_cons.mp h with e | e
    · cases e
      exact List.find?_cons_of_pos (by simp)
    · rw [List.find?_cons_of_neg (by
        have : j ≠ k := fun z => h1 (List.mem_map.mpr ⟨_, e, z.symm⟩)
        simpa using this)]
      exact ih h2 e
theorem rowOf_there {L : Rows} {n : Nat} (nd : (L.map (·.1)).Nodup) {k : Kd} {r : List Nat} (h : (k, r) ∈ L) : rowOf L n k = r := by
  unfold rowOf
  rw [rows_there nd h]
  rfl
theorem lock_back {H H' : Hp} {d : Addr} {u : HO} {od : Obj} (hd : H d = some u) (s : Same (upd H d (.frz od u)) H') : Same H (upd H' d u) := fun b o e => by
  by_cases h : b = d
  · subst h
    rw [hd] at e
    rw [upd_same]; exact e
  · rw [upd_ne h]
    exact s _ _ (by rw [upd_ne h]; exact e)
/-- the tuple ROW_KINDS of the text -/
structure RowT (K : PySem.W.Frag) (mg : Str → Option Value) (a : Addr) : Prop where
  mg : mg "ROW_KINDS" = some (.ref a)
  sq : ∀ H : Hp, SqT K H a [.str "first", .str "between", .str "last"]
def spThree : Sp := fun vs H Q _ => ∃ (d : Addr) (L : Rows) (n : Nat), vs = [.ref d] ∧ H d = some (.dK (rowsK L)) ∧ L ≠ [] ∧ (L.map (·.1)).Nodup ∧ L.length ≤ 3 ∧ (∀ p ∈ L, RowOk p.2 ∧ p.2.length = n) ∧
  ∀ (t : Addr) (H' : Hp), Same H H' → H' t = some (.tup [vt (rowOf L n .first), vt (rowOf L n .between), vt (rowOf L n .last)]) → Q (.ref t) H'
section
variable {P : Program} {w : World} {K : PySem.W.Frag} {mg : Str → Option Value} {base : Heap} {f : Addr} {fd : FuncData}
theorem ok_three {aR : Addr} (F : Fun K "three_rows" "three_rows" s_three_rows f fd) (M : Mgs mg) (Rk : RowT K mg aR) (Dis_row : Df P w K mg base 2 "is_row" ["value"] spRow) : FnOk P w K mg base CX0 3 f fd ["rows"] spThree := by
  refine F.ok sc_three_rows (fun vs H Q E h => ?_) (fun cdv A outer s H vs Q E hr h => ?_)
  · obtain ⟨d, L, n, rfl, _⟩ := h
    rfl
  obtain ⟨d, L, n, rfl, hd, ne, nd, few, ok, q⟩ := h
  refine ⟨_, (pss_cons (ps_lock (ps_for PassesOwn.never rfl (pi_keys (pv 0)) (pg_name (i := 1) sc_three_rows.nd rfl (.inl rfl))
      (pss_one (ps_if (pt_cmpR op_notIn_seq (pv 1) (pe_glob (v := .ref _) rfl Rk.mg rfl) (by rfl))
      (pss_one ps_never) pss_nil))))
    (pss_cons (ps_if (pt_not (pt_truth (pv 0) (by intro _; rfl)))
      (pss_one ps_never) pss_nil)
    (pss_cons (ps_lock (ps_for PassesOwn.never rfl (pi_keys (pv 0)) (pg_name (i := 1) sc_three_rows.nd rfl (.inl rfl))
      (pss_one (ps_if (pt_not (pt_val (pe_call Dis_row.ok (hr.mono (by omega)) rfl Dis_row.g Dis_row.kp Dis_row.b .nil pass0 (pa_cons (pe_dget (Nat.lt_of_le_of_lt (Nat.add_le_add_left (by decide) _) hr.units) (pv 0) (pv 1) (fun _ _ => rfl)) pa_nil))))
      (pss_one ps_never) pss_nil))))
    (pss_cons (ps_set (i := 2) sc_three_rows.nd rfl (.inl rfl) (pe_callTy (call_listD rfl) rfl M.list (by decide +kernel) (pa_cons (pv 0) pa_nil)))
    (pss_cons (ps_set (i := 3) sc_three_rows.nd rfl (.inr rfl) (pe_callB call_len_str rfl M.len PySem.boot_len (pa_cons (pe_dget (Nat.lt_of_le_of_lt (Nat.add_le_add_left (by decide) _) hr.units) (pv 0) (pe_ix ix_list (pv 2) pe_int (fun _ _ => rfl)) (fun _ _ => rfl)) pa_nil)))
    (pss_cons (ps_for PassesOwn.never rfl (pi_list (pv 2)) (pg_name (i := 1) sc_three_rows.nd rfl (.inl rfl))
      (pss_one (ps_if (pt_cmpR op_ne (pe_callB call_len_str rfl M.len PySem.boot_len (pa_cons (pe_dget (Nat.lt_of_le_of_lt (Nat.add_le_add_left (by decide) _) hr.units) (pv 0) (pv 1) (fun _ _ => rfl)) pa_nil)) (pv 3) (nomark _))
      (pss_one ps_never) pss_nil)))
    (pss_one (ps_ret (pe_callTy call_tuple_of rfl M.tuple (by decide +kernel) (pa_cons (pe_lc (own := [("kind", 4)]) (g := gName 4) (tt := tYes) rfl sc_three_rows.nd (pi_tup (pe_glob (v := .ref _) rfl Rk.mg rfl)) (blkOk_by (N := ["rows", "name", "names", "size", "kind"]) (sc := defScope s_three_rows) (by decide +kernel)) (fun _ _ _ _ _ => (pg_name (i := 4) sc_three_rows.nd rfl (.inl rfl))) (fun _ _ _ _ _ => pts_nil) (fun _ _ _ _ _ => (pe_dget2 (Nat.lt_of_le_of_lt (Nat.add_le_add_left (by decide) _) hr.units) (pv 0) (pv 4) (pe_op op_timesS pe_str (pv 3)) ⟨rfl, rfl, rfl, rfl⟩))) pa_nil)))))))))), ?_⟩
  have lK : (rowsK L).length = L.length := List.length_map _
  refine ⟨d, _, hd, trivial, fun od => ?_⟩
  have efz := upd_same (H := H) (a := d) (o := .frz od (.dK (rowsK L)))
  have back : ∀ H', Same (upd H d (.frz od (.dK (rowsK L)))) H' → Same H (upd H' d (.dK (rowsK L))) := fun H' => lock_back hd
  generalize upd H d (.frz od (.dK (rowsK L))) = H1 at efz back ⊢
  refine ⟨_, rfl, d, od, rfl, .inl ⟨_, efz, ?_⟩⟩
  refine for_it (walk_keys (d := d) (o := od) (kvs := rowsK L)) (fun i σ H' => (∃ o1, σ = [some (.ref d), o1, none, none, none]) ∧ H' = H1) ⟨⟨_, rfl⟩, rfl⟩ (fun i σ H' _ hp => by rw [hp.2]; exact efz) (fun i x σ H' H'' hi hp hy => ?_) (fun σ H' hp => ?_)
  · obtain ⟨⟨o1, rfl⟩, e1⟩ := hp
    obtain ⟨e2, ky, v, hk, rfl⟩ := hy
    subst e2
    unfold rowsK at hk
    rw [List.getElem?_map] at hk
    obtain ⟨⟨k, r⟩, hc, he⟩ := Option.map_eq_some_iff.mp hk
    cases he
    refine ⟨_, rfl, aR, _, rfl, .inr (Rk.sq _), rfl, ?_, ?_⟩
    · rfl
    have e : (if true = true then !inV (.str k.str) [.str "first", .str "between", .str "last"] else inV (.str k.str) [.str "first", .str "between", .str "last"]) = false := by
      cases k <;> decide +kernel
    refine ⟨_, rfl, ?_⟩
    show if (if true = true then !inV (.str k.str) [.str "first", .str "between", .str "last"] else inV (.str k.str) [.str "first", .str "between", .str "last"]) = true then _ else _
    rw [e]
    refine iteF ?_
    exact ⟨⟨_, rfl⟩, e1⟩
  · obtain ⟨⟨o1, rfl⟩, rfl⟩ := hp
    refine ⟨efz, ?_⟩
    have s1 := back H' (Same.refl _)
    have hd1 : (upd H' d (.dK (rowsK L))) d = some (.dK (rowsK L)) := upd_same
    clear back efz
    generalize upd H' d (.dK (rowsK L)) = H2 at s1 hd1
    have nek : (!(rowsK L).isEmpty) = true := by
      cases L with
      | nil => exact absurd rfl ne
      | cons _ _ => rfl
    refine ⟨_, rfl, true, .inr (.inr ⟨_, hd1, nek.symm⟩), ?_⟩
    refine iteF ?_
    have val : ∀ {k : Kd} {r : List Nat}, (k, r) ∈ L → valV (rowsK L) (.inr k.str) = some (vt r) := fun {k r} hm => by
      rw [rows_val, rows_there nd hm]; rfl
    have len : ∀ {k : Kd} {r : List Nat}, (k, r) ∈ L → (tx r).length = n := fun {k r} hm => by
      rw [tx_len]; exact (ok _ hm).2
    have n12 : 1 ≤ n ∧ n ≤ 12 := by
      obtain ⟨p, L', rfl⟩ := List.exists_cons_of_ne_nil ne
      obtain ⟨a, b⟩ := ok p List.mem_cons_self
      have := List.length_pos_iff.mpr a.ne
      have := a.few
      omega
    refine ⟨d, _, hd1, trivial, fun od2 => ?_⟩
    have efz2 := upd_same (H := H2) (a := d) (o := .frz od2 (.dK (rowsK L)))
    have back2 : ∀ H', Same (upd H2 d (.frz od2 (.dK (rowsK L)))) H' → Same H2 (upd H' d (.dK (rowsK L))) := fun H' => lock_back hd1
    generalize upd H2 d (.frz od2 (.dK (rowsK L))) = H3 at efz2 back2 ⊢
    refine ⟨_, rfl, d, od2, rfl, .inl ⟨_, efz2, ?_⟩⟩
    refine for_it (walk_keys (d := d) (o := od2) (kvs := rowsK L)) (fun i σ H' => (∃ o1, σ = [some (.ref d), o1, none, none, none]) ∧ Same H3 H') ⟨⟨_, rfl⟩, Same.refl _⟩ (fun i σ H' _ hp => hp.2 _ _ efz2) (fun i x σ H' H'' hi hp hy => ?_) (fun σ H' hp => ?_)
    · obtain ⟨⟨o1, rfl⟩, sm⟩ := hp
      obtain ⟨e2, ky, v, hk, rfl⟩ := hy
      subst e2
      unfold rowsK at hk
      rw [List.getElem?_map] at hk
      obtain ⟨⟨k, r⟩, hc, he⟩ := Option.map_eq_some_iff.mp hk
      cases he
      have hm := List.mem_of_getElem? hc
      refine ⟨_, rfl, _, rfl, d, vt r, rfl, .inl ⟨_, .inr k.str, .inr ⟨od2, sm _ _ efz2⟩, rfl, (val hm).symm⟩, ?_⟩
      refine ⟨r, rfl, (ok _ hm).1, fun H4 s4 => ?_⟩
      refine ⟨_, rfl, iteF ?_⟩
      exact ⟨⟨_, rfl⟩, sm.trans s4⟩
    obtain ⟨⟨o1, rfl⟩, sm⟩ := hp
    refine ⟨sm _ _ efz2, ?_⟩
    have s3 := s1.trans (back2 H' sm)
    have hd3 : (upd H' d (.dK (rowsK L))) d = some (.dK (rowsK L)) := upd_same
    clear back2 efz2 sm
    generalize upd H' d (.dK (rowsK L)) = H5 at s3 hd3
    refine ⟨_, rfl, d, _, rfl, .inl hd3, fun p np => ?_⟩
    have ndp : d ≠ p := ne_of_none hd3 np
    have k1 := same_new np (.lst ((rowsK L).map fun kv => kV kv.1))
    have ep := upd_same (H := H5) (a := p) (o := .lst ((rowsK L).map fun kv => kV kv.1))
    have s6 := s3.trans k1
    have hd6 := k1 _ _ hd3
    generalize upd H5 p (.lst ((rowsK L).map fun kv => kV kv.1)) = H6 at s6 hd6 ep
    have nmE : ((rowsK L).map fun kv => kV kv.1) = L.map fun p => V.str p.1.str := by
      unfold rowsK; rw [List.map_map]; rfl
    rw [nmE] at ep
    obtain ⟨⟨k0, r0⟩, L', eL⟩ := List.exists_cons_of_ne_nil ne
    have hm0 : (k0, r0) ∈ L := by rw [eL]; exact List.mem_cons_self
    have at0 : atI (L.map fun p => V.str p.1.str) 0 = some (.str k0.str) := by
      rw [eL]; exact atI_nat (j := 0) rfl
    refine ⟨_, rfl, _, rfl, p, _, _, _, rfl, rfl, SqL.of ep, at0, d, vt r0, rfl, .inl ⟨_, .inr k0.str, .inl hd6, rfl, (val hm0).symm⟩, ?_⟩
    refine ⟨_, rfl, small (by rw [len hm0]; omega), ?_⟩
    rw [len hm0]
    refine ⟨_, rfl, p, rfl, ⟨_, SqL.of ep⟩, ?_⟩
    refine for_list (K := K) (a := p) (xs := L.map fun p => V.str p.1.str) (fun j σ Hx => ∃ o1, σ = [some (.ref d), o1, some (.ref p), some (.int (n : Int)), none] ∧ Hx = H6) ⟨_, rfl, rfl⟩ (fun j σ Hx _ hp => by obtain ⟨_, _, e⟩ := hp; rw [e]; exact SqL.of ep) (fun j x σ Hx hx hp => ?_) (fun σ Hx hp => ?_)
    · obtain ⟨o2, rfl, e6⟩ := hp
      subst e6
      rw [List.getElem?_map] at hx
      obtain ⟨⟨k, r⟩, hc, he⟩ := Option.map_eq_some_iff.mp hx
      cases he
      have hm := List.mem_of_getElem? hc
      refine ⟨_, rfl, _, rfl, d, vt r, rfl, .inl ⟨_, .inr k.str, .inl hd6, rfl, (val hm).symm⟩, ?_⟩
      refine ⟨_, rfl, small (by rw [len hm]; omega), ?_⟩
      rw [len hm]
      refine ⟨_, rfl, rfl, _, rfl, ?_⟩
      rw [show decide (V.int (n : Int) = V.int (n : Int)) = true from decide_eq_true rfl]
      refine iteF ?_
      exact ⟨_, rfl, rfl⟩
    obtain ⟨o2, rfl, e6⟩ := hp
    subst e6
    refine ⟨aR, rfl, ⟨_, Rk.sq _⟩, fun D nD => ?_⟩
    have kD := same_new nD (.lst [])
    refine lc_tup (K := K) (a := aR) (xs := [.str "first", .str "between", .str "last"]) (fun j H' => Same Hx H' ∧ H' D = some (.lst (([Kd.first, Kd.between, Kd.last].take j).map fun k => vt (rowOf L n k)))) ⟨kD, upd_same⟩ (fun j H' _ hp => Rk.sq _) (fun j x H7 hx7 hp => ?_) (fun H7 hp => ?_)
    · obtain ⟨sm, eD⟩ := hp
      obtain ⟨kk, rfl, hk⟩ : ∃ kk : Kd, x = .str kk.str ∧ [Kd.first, Kd.between, Kd.last][j]? = some kk := by
        match j, hx7 with
        | 0, h => cases h; exact ⟨.first, rfl, rfl⟩
        | 1, h => cases h; exact ⟨.between, rfl, rfl⟩
        | 2, h => cases h; exact ⟨.last, rfl, rfl⟩
      refine ⟨rfl, kept ?_⟩
      refine ⟨_, rfl, d, rfl, .inl ⟨_, .inl (sm _ _ hd6)⟩, _, rfl, _, rfl, 63, n, ?_, rfl, n12.1, by omega, _, .inl ⟨_, .inr kk.str, .inl (sm _ _ hd6), rfl, rfl⟩, ?_⟩
      · rw [str_q]; rfl
      rw [rows_val]
      have ev : (Option.map vt (Option.map (fun x => x.2) (List.find? (fun p => decide (p.1 = kk)) L))).getD (V.str (tx (List.replicate n 63))) = vt (rowOf L n kk) := by
        unfold rowOf
        cases List.find? (fun p => decide (p.1 = kk)) L <;> rfl
      rw [ev]
      refine ⟨_, eD, ?_, fun b o e => ?_, ?_⟩
      · rw [List.length_map, List.length_take]; exact small1000 (by show min j 3 ≤ 1000; omega)
      · rw [upd_ne (ne_of_none e nD)]; exact sm _ _ e
      · rw [upd_same, take_next hk, List.map_append]; rfl
    · obtain ⟨sm, eD⟩ := hp
      refine ⟨D, _, rfl, .inl ⟨SqL.of eD, fun t nt => ?_⟩⟩
      exact q t _ (s6.trans (sm.trans (same_new nt _))) upd_same
end
/-! ### walks, tree_fits, fits -/
def tst (r x : List Nat) : List Bool := (r.zip x).map fun p => decide (p.1 = 63) || decide (p.1 = p.2)
def fit (r x : List Nat) : Bool := (tst r x).all id
def fit3 (a b c : List Nat) (t : B) : Bool := fit a t.pre && (fit b t.mid && fit c t.post)
theorem walk_zipT {K : PySem.W.Frag} {a b : Addr} {xs ys : List V} {n : Nat} (hn : n = min xs.length ys.length) : Walk (RZ.ItzT K a b) n (fun H => SqT K H a xs ∧ SqT K H b ys) (YPair (fun i => xs[i]?) (fun i => ys[i]?)) :=
  ⟨fun i H hi h => ⟨xs, ys, xs[i]'(by omega), ys[i]'(by omega), h.1, h.2, List.getElem?_eq_getElem _, List.getElem?_eq_getElem _⟩, fun H h => ⟨xs, ys, h.1, h.2, by omega⟩, fun i H v H' hi h q => by
    obtain ⟨T, x, y, e1, e2, e3, e4, e5⟩ := q
    exact ⟨T, x, y, e1, e2, e3, e4 xs h.1, e5 ys h.2⟩⟩
theorem tst_len (r x : List Nat) : (tst r x).length ≤ r.length := by
  unfold tst
  rw [List.length_map, List.length_zip]
  omega
theorem in_two (e l : Nat) : inV (vc e) [vc 63, vc l] = (decide (e = 63) || decide (e = l)) := by
  have q : ∀ a b : Nat, eqV (vc a) (vc b) = decide (b = a) := fun a b => by
    by_cases h : b = a
    · subst h
      rw [decide_eq_true rfl]
      show eqV (.str _) (.str _) = true
      simp [eqV]
    · rw [decide_eq_false h]
      show eqV (.str _) (.str _) = false
      have : ¬ ch a = ch b := fun z => h (ch_inj z).symm
      simp [eqV, this]
  unfold inV
  rw [List.any_cons, List.any_cons, List.any_nil, q, q, Bool.or_false]
def spWalksT : Sp := fun vs H Q _ => ∃ (v : V) (t : B) (p : Addr), vs = [v, .ref p] ∧ BAt H v t ∧ t.size ≤ 50 ∧ H p = some (.tup [.str "first", .str "between", .str "last"]) ∧ ∀ (d : Addr) (H' : Hp), Same H H' → H' d = some (.tup [vt t.pre, vt t.mid, vt t.post]) → Q (.ref d) H'
def spWalks : Sp := fun vs H Q E => ∃ ws rest, vs = ws ++ rest ∧ ws.length = ["tree"].length ∧ rest.length ≤ sizeLine ∧ ∀ p, H p = Option.none → spWalksT (ws ++ [V.ref p]) (upd H p (.tup rest)) Q E
structure DfR (P : Program) (w : World) (K : PySem.W.Frag) (mg : Str → Option Value) (base : Heap) (k : Nat) (nm : Str) (sp : Sp) where
  f : Addr
  ok : FnR P w K mg base CX0 k f sp
  kp : PySem.W.keepIn K (.ref f) = true
  g : mg nm = some (.ref f)
def spTreeFits : Sp := fun vs H Q _ => ∃ (v : V) (t : B) (g : Addr) (a b c : List Nat) (n : Nat), vs = [v, .ref g] ∧ BAt H v t ∧ t.size ≤ 30 ∧ H g = some (.tup [vt a, vt b, vt c]) ∧ a.length = n ∧ b.length = n ∧ c.length = n ∧ n ≤ 12 ∧ ∀ H', Same H H' → Q (.bl (decide (t.size = n) && fit3 a b c t)) H'
def spFits (ks : List Kd) : List V → List V → Hp → VK → Prop := fun vs zs H Q => ∃ (v : V) (t : B) (L : Rows) (n : Nat), vs = [v] ∧ L.map (·.1) = ks ∧ zs = L.map (fun p => vt p.2) ∧ BAt H v t ∧ t.size ≤ 30 ∧ L ≠ [] ∧ (L.map (·.1)).Nodup ∧ L.length ≤ 3 ∧ (∀ p ∈ L, RowOk p.2 ∧ p.2.length = n) ∧
  ∀ H', Same H H' → Q (.bl (decide (t.size = n) && fit3 (rowOf L n .first) (rowOf L n .between) (rowOf L n .last) t)) H'
theorem rowOf_len {L : Rows} {n : Nat} (ok : ∀ p ∈ L, RowOk p.2 ∧ p.2.length = n) (k : Kd) : (rowOf L n k).length = n := by
  unfold rowOf
  cases h : L.find? (fun p => decide (p.1 = k)) with
  | none => exact List.length_replicate
  | some p => exact (ok p (List.mem_of_find?_eq_some h)).2
section
variable {P : Program} {w : World} {K : PySem.W.Frag} {mg : Str → Option Value} {base : Heap} {f : Addr} {fd : FuncData}
theorem sc_walks : FnScope ["tree", "kinds", "kind"] ["tree", "kinds"] (defScope s_walks) := ⟨rfl, rfl, rfl, by decide +kernel, rfl, by decide +kernel, by decide +kernel⟩
theorem ok_walks (F : Fun K "walks" "walks" s_walks f fd) (M : Mgs mg) (Dwalk : Df P w K mg base 62 "walk" ["tree", "kind"] spWalk) : FnR P w K mg base CX0 63 f spWalks := by
  obtain ⟨oc, od, kV, doc, pm, an, cdv, ct, osl, rfl, lk, hcd⟩ := F.ex
  refine StX.fn_star (k := 62) (ps := ["tree"]) (pv := "kinds") (sp := spWalksT) lk hcd sc_walks StX.cxUp_none (fun us rest hl => by match us, hl with | [_], _ => cases rest <;> rfl) fun A outer s H vs Q E hr h => ?_
  obtain ⟨v, t, p, rfl, hv, hz, ep, q⟩ := h
  refine ⟨_, ((pss_one (ps_ret (pe_callTy call_tuple_of rfl M.tuple (by decide +kernel) (pa_cons (pe_lc (own := [("kind", 2)]) (g := gName 2) (tt := tYes) rfl sc_walks.nd (pi_tup (pv 1)) (blkOk_by (N := ["tree", "kinds", "kind"]) (sc := defScope s_walks) (by decide +kernel)) (fun _ _ _ _ _ => (pg_name (i := 2) sc_walks.nd rfl (.inl rfl))) (fun _ _ _ _ _ => pts_nil) (fun _ _ _ _ _ => (pe_call Dwalk.ok (hr.mono (by omega)) rfl Dwalk.g Dwalk.kp Dwalk.b .nil pass0 (pa_cons (pv 0) (pa_cons (pv 2) pa_nil))))) pa_nil)))) : PSs (cxOf CX0 P w K mg base ["tree", "kinds", "kind"] "walks" (defScope s_walks) f cdv A outer s H E).nox (defBody s_walks) _).nox, ?_⟩
  refine ⟨_, rfl, p, rfl, ⟨_, SqT.of ep⟩, fun D nD => ?_⟩
  have k1 := same_new nD (.lst [])
  refine lc_tup (K := K) (a := p) (xs := [.str "first", .str "between", .str "last"]) (fun i H' => Same H H' ∧ H' D = some (.lst ([vt t.pre, vt t.mid, vt t.post].take i))) ⟨k1, upd_same⟩ (fun i H' _ hq => SqT.of (hq.1 _ _ ep)) (fun i x H1 hx hq => ?_) (fun H1 hq => ?_)
  · obtain ⟨s1, e1⟩ := hq
    obtain ⟨kk, rfl, hk⟩ : ∃ kk : Kd, x = .str kk.str ∧ ([vt t.pre, vt t.mid, vt t.post])[i]? = some (vt (t.wk kk)) := by
      match i, hx with
      | 0, h => cases h; exact ⟨.first, rfl, rfl⟩
      | 1, h => cases h; exact ⟨.between, rfl, rfl⟩
      | 2, h => cases h; exact ⟨.last, rfl, rfl⟩
    refine ⟨rfl, kept ?_⟩
    refine ⟨_, rfl, _, rfl, v, t, kk, rfl, hv.same s1, hz, fun H2 s2 => ?_⟩
    refine ⟨_, s2 _ _ e1, ?_, fun b u e => ?_, ?_⟩
    · rw [List.length_take]; exact small1000 (by show min i 3 ≤ 1000; omega)
    · rw [upd_ne (ne_of_none e nD)]; exact s2 _ _ (s1 _ _ e)
    · rw [upd_same, take_next hk]
  · obtain ⟨s1, e1⟩ := hq
    refine ⟨D, _, rfl, .inl ⟨SqL.of e1, fun d nd => ?_⟩⟩
    exact q d _ (s1.trans (same_new nd _)) upd_same
theorem ok_treeFits {aR : Addr} (F : Fun K "tree_fits" "tree_fits" s_tree_fits f fd) (M : Mgs mg) (Rk : RowT K mg aR) (Dsize_of : Df P w K mg base 60 "size_of" ["tree"] (fun vs H Q _ => ∃ (v : V) (t : B), vs = [v] ∧ BAt H v t ∧ t.size < 60 ∧ Q (.int (t.size : Int)) H))
    (Dwalks : DfR P w K mg base 63 "walks" spWalks) : FnOk P w K mg base CX0 64 f fd ["tree", "given"] spTreeFits := by
  refine F.ok sc_tree_fits (fun vs H Q E h => ?_) (fun cdv A outer s H vs Q E hr h => ?_)
  · obtain ⟨v, t, g, a, b, c, n, rfl, _⟩ := h
    rfl
  obtain ⟨v, t, g, a, b, c, n, rfl, hv, hz, eg, la, lb, lc, n12, q⟩ := h
  refine ⟨_, (pss_cons (ps_if (pt_cmpR op_ne (pe_call Dsize_of.ok (hr.mono (by omega)) rfl Dsize_of.g Dsize_of.kp Dsize_of.b .nil pass0 (pa_cons (pv 0) pa_nil)) (pe_callB call_len_str rfl M.len PySem.boot_len (pa_cons (pe_ix ix_tup (pv 1) pe_int (fun _ _ => rfl)) pa_nil)) (nomark _))
      (pss_one (ps_ret pe_bl)) pss_nil)
    (pss_cons (ps_set (i := 2) sc_tree_fits.nd rfl (.inl rfl) (StX.pe_callS2 (E := E0) Dwalks.ok (hr.mono (by omega)) Dwalks.kp rfl Dwalks.g pass0 (pa_cons (pv 0) (StX.pa_star (pe_glob (v := .ref _) rfl Rk.mg rfl) pa_nil))))
    (pss_one (ps_ret (pe_callB (cr_all rfl) rfl M.all (by decide +kernel) (pa_cons (pe_lc2 (own := [("row", 3), ("text", 4), ("sign", 5), ("label", 6)]) (vs1 := [5, 6]) (g := gTup K 2 (gCons (gName 3) (gCons (gName 4) gNil))) (tt := tYes) (g1 := gTup K 2 (gCons (gName 5) (gCons (gName 6) gNil))) (tt1 := tYes) rfl sc_tree_fits.nd (RZ.pi_zipA rfl M.zip (pa_cons (pv 1) (pa_cons (pv 2) pa_nil))) (blkOk_by (N := ["tree", "given", "told", "row", "text", "sign", "label"]) (sc := defScope s_tree_fits) (by decide +kernel)) (by decide) (fun _ _ _ _ _ => (pg_tup rfl (pgs_cons (pg_name (i := 3) sc_tree_fits.nd rfl (.inl rfl)) (pgs_cons (pg_name (i := 4) sc_tree_fits.nd rfl (.inl rfl)) pgs_nil)))) (fun _ _ _ _ _ => pts_nil) (fun _ _ _ _ _ => (pi_zipS rfl M.zip (pa_cons (pv 3) (pa_cons (pv 4) pa_nil)))) (fun _ _ _ _ _ => (pg_tup rfl (pgs_cons (pg_name (i := 5) sc_tree_fits.nd rfl (.inl rfl)) (pgs_cons (pg_name (i := 6) sc_tree_fits.nd rfl (.inl rfl)) pgs_nil)))) (fun _ _ _ _ _ => pts_nil) (fun _ _ _ _ _ => (pe_cmpR (show OpR _ (compareOp .In) (rIn K false) from op_in_seq) (pv 5) (pe_tup (pa_cons pe_str (pa_cons (pv 6) pa_nil))) (by rfl)))) pa_nil)))))), ?_⟩
  let prs : List (List Nat × List Nat) := [(a, t.pre), (b, t.mid), (c, t.post)]
  have prs_len : ∀ i, ((prs.take i).flatMap fun p => tst p.1 p.2).length ≤ 36 := by
    intro i
    have h1 := tst_len a t.pre
    have h2 := tst_len b t.mid
    have h3 := tst_len c t.post
    match i with
    | 0 => exact Nat.zero_le _
    | 1 => show (tst a t.pre ++ []).length ≤ 36; rw [List.append_nil]; omega
    | 2 => show (tst a t.pre ++ (tst b t.mid ++ [])).length ≤ 36; rw [List.append_nil, List.length_append]; omega
    | n + 3 =>
      rw [List.take_of_length_le (show prs.length ≤ n + 3 by show 3 ≤ n + 3; omega)]
      show (tst a t.pre ++ (tst b t.mid ++ (tst c t.post ++ []))).length ≤ 36
      rw [List.append_nil, List.length_append, List.length_append]; omega
  refine ⟨_, rfl, v, t, rfl, hv, by omega, _, rfl, g, _, _, _, rfl, rfl, SqT.of eg, atI_nat (j := 0) rfl, _, rfl, small (by rw [tx_len]; omega), rfl, _, rfl, ?_⟩
  rw [tx_len, la]
  by_cases hs : t.size = n
  · rw [decide_eq_true (show V.int (t.size : Int) = V.int (n : Int) by rw [hs])]
    refine iteF ?_
    rw [decide_eq_true hs] at q
    refine ⟨_, rfl, aR, _, rfl, .inl (Rk.sq _), [v], _, rfl, rfl, (by show 3 ≤ sizeLine; decide), fun p np => ?_⟩
    have k1 := same_new np (.tup [.str "first", .str "between", .str "last"])
    refine ⟨v, t, p, rfl, hv.same k1, by omega, upd_same, fun d H1 s1 ed => ?_⟩
    have s2 := k1.trans s1
    have eg1 := s2 _ _ eg
    clear k1 s1 np
    refine ⟨_, rfl, _, rfl, g, d, _, _, rfl, .inr ⟨SqT.of eg1, SqT.of ed, fun D nD => ?_⟩⟩
    have kD := same_new nD (.lst [])
    refine lc2_it (walk_zipT (K := K) (a := g) (b := d) (xs := [vt a, vt b, vt c]) (ys := [vt t.pre, vt t.mid, vt t.post]) rfl) (fun i H' => Same H1 H' ∧ H' D = some (.lst (((prs.take i).flatMap fun p => tst p.1 p.2).map V.bl))) ⟨kD, upd_same⟩ (fun i H' _ hp => ⟨SqT.of (hp.1 _ _ eg1), SqT.of (hp.1 _ _ ed)⟩) (fun i x H2 H2' hi hp hy => ?_) (fun H2 hp => ?_)
    · obtain ⟨s3, eD⟩ := hp
      obtain ⟨T, x, y, rfl, nT, rfl, hx, hy⟩ := hy
      obtain ⟨r, z, rfl, rfl, hpz⟩ : ∃ r z, x = vt r ∧ y = vt z ∧ prs[i]? = some (r, z) := by
        match i, hx, hy with
        | 0, h, g => cases h; cases g; exact ⟨_, _, rfl, rfl, rfl⟩
        | 1, h, g => cases h; cases g; exact ⟨_, _, rfl, rfl, rfl⟩
        | 2, h, g => cases h; cases g; exact ⟨_, _, rfl, rfl, rfl⟩
      have kT := same_new nT (.tup [vt r, vt z])
      have rl : r.length = n := by
        match i, hpz with
        | 0, h => cases h; exact la
        | 1, h => cases h; exact lb
        | 2, h => cases h; exact lc
      have il : i < 3 := hi
      have pl := prs_len i
      refine ⟨T, _, rfl, SqT.of upd_same, rfl, _, _, rfl, _, _, rfl, rfl, rfl, kept ?_⟩
      refine ⟨_, rfl, _, rfl, _, _, rfl, ?_⟩
      refine in_it (walk_zipS (x := tx r) (y := tx z) rfl) (fun j H' => Same H1 H' ∧ H' D = some (.lst ((((prs.take i).flatMap fun p => tst p.1 p.2) ++ (tst r z).take j).map V.bl))) ⟨s3.trans kT, by rw [List.take_zero, List.append_nil]; exact kT _ _ eD⟩ (fun _ _ _ _ => trivial) (fun j y H3 H3' hj hp hy => ?_) (fun H3 hp => ?_)
      · obtain ⟨s4, eD3⟩ := hp
        obtain ⟨q, e, l, rfl, nq, rfl, he, hl⟩ := hy
        have he' : r[j]? = some e := by rw [← he]; simp [tx]
        have hl' : z[j]? = some l := by rw [← hl]; simp [tx]
        have hz : (tst r z)[j]? = some (decide (e = 63) || decide (e = l)) := by
          unfold tst
          rw [List.getElem?_map, List.getElem?_zip_eq_some (z := (e, l)) |>.mpr ⟨he', hl'⟩]
          rfl
        have kq := same_new nq (.tup [vc e, vc l])
        refine ⟨q, _, rfl, SqT.of upd_same, rfl, _, _, rfl, _, _, rfl, rfl, rfl, kept ?_⟩
        refine ⟨_, rfl, _, rfl, (by show 2 ≤ sizeLine; decide), fun m nm => ⟨m, _, rfl, .inr (SqT.of upd_same), rfl, rfl, ?_⟩⟩
        have ev : (if false = true then !inV (.str ⟨#[e]⟩) [V.str (Str.ofString "?"), .str ⟨#[l]⟩] else inV (.str ⟨#[e]⟩) [V.str (Str.ofString "?"), .str ⟨#[l]⟩]) = (decide (e = 63) || decide (e = l)) := by
          rw [str_q]
          exact in_two e l
        show ∃ acc, _
        rw [ev]
        have km := same_new nm (.tup [V.str (Str.ofString "?"), vc l])
        refine ⟨_, km _ _ (kq _ _ eD3), ?_, fun b' o e' => ?_, ?_⟩
        · rw [List.length_map, List.length_append, List.length_take]
          have := tst_len r z
          exact small1000 (by omega)
        · rw [upd_ne (ne_of_none e' nD)]; exact km _ _ (kq _ _ (s4 _ _ e'))
        · rw [upd_same, take_next hz]
          simp only [List.map_append, List.map_cons, List.map_nil, List.append_assoc]
      · obtain ⟨s4, eD3⟩ := hp
        refine ⟨s4, ?_⟩
        rw [eD3, take_next hpz, List.flatMap_append]
        have e1 : (tst r z).take (min (tx r).cps.size (tx z).cps.size) = tst r z := by
          refine List.take_of_length_le ?_
          unfold tst
          rw [List.length_map, List.length_zip, tx_size, tx_size]
          exact Nat.le_refl _
        rw [e1]
        show _ = some (HO.lst (List.map V.bl (_ ++ (tst r z ++ []))))
        rw [List.append_nil]
    · obtain ⟨s3, eD⟩ := hp
      refine ⟨D, _, rfl, SqL.of eD, ?_⟩
      have ea : ((prs.take (min [vt a, vt b, vt c].length [vt t.pre, vt t.mid, vt t.post].length)).flatMap fun p => tst p.1 p.2).all id = fit3 a b c t := by
        show (tst a t.pre ++ (tst b t.mid ++ (tst c t.post ++ []))).all id = _
        rw [List.append_nil, List.all_append, List.all_append]
        rfl
      rw [ea]
      exact q _ (s2.trans s3)
  · rw [decide_eq_false (fun z => hs (by have := V.int.inj z; omega))]
    refine iteT ?_
    rw [decide_eq_false hs] at q
    exact q H (Same.refl _)
theorem rows_zip (L : Rows) : (((L.map (·.1)).map Kd.str).zip (L.map fun p => vt p.2)).map (fun x => ((.inr x.1 : Key), x.2)) = rowsK L := by
  induction L with
  | nil => rfl
  | cons p L ih => exact congrArg (_ :: ·) ih
end
/-! ### shapes, labelled -/
inductive S where
  | nil
  | node (l r : S)
def S.size : S → Nat
  | .nil => 0
  | .node l r => 1 + l.size + r.size
inductive ShAt (H : Hp) : V → S → Prop
  | nil : ShAt H .non .nil
  | node {a : Addr} {l r : V} {tl tr : S} : H a = some (.tup [l, r]) → ShAt H l tl → ShAt H r tr → ShAt H (.ref a) (.node tl tr)
theorem ShAt.keep {H H' : Hp} (k : KeepT H H') {v : V} {t : S} (h : ShAt H v t) : ShAt H' v t := by
  induction h with
  | nil => exact .nil
  | node e _ _ h1 h2 => exact .node (k _ _ e) h1 h2
theorem ShAt.inv {H : Hp} {v : V} {t : S} (h : ShAt H v t) : (v = .non ∧ t = .nil) ∨ ∃ a l r tl tr, v = .ref a ∧ t = .node tl tr ∧ H a = some (.tup [l, r]) ∧ ShAt H l tl ∧ ShAt H r tr := by
  cases h with
  | nil => exact .inl ⟨rfl, rfl⟩
  | node e h1 h2 => exact .inr ⟨_, _, _, _, _, rfl, rfl, e, h1, h2⟩
theorem ShAt.same {H H' : Hp} (k : Same H H') {v : V} {t : S} (h : ShAt H v t) : ShAt H' v t := h.keep (Tw.Same.keepT k)
theorem at_last2 {l r : V} : atI [l, r] (-1) = some r := by rfl
theorem tx_mid (l : List Nat) (i j : Nat) (h : i ≤ j) (hj : j ≤ l.length) : cutS (tx l) (some (i : Int)) (some (j : Int)) = tx ((l.drop i).take (j - i)) := by
  unfold cutS tx
  show (⟨_⟩ : Str) = ⟨_⟩
  rw [HT.sIx_nat, HT.sIx_nat]
  show (⟨((l.drop (min i l.length)).take (min j l.length - min i l.length)).toArray⟩ : Str) = _
  rw [Nat.min_eq_left (show i ≤ l.length by omega), Nat.min_eq_left hj]
/-- a tree's shape -/
def B.shp : B → S
  | .nil => .nil
  | .node l _ r => .node l.shp r.shp
def spSSize (n : Nat) : Sp := fun vs H Q _ => ∃ (v : V) (t : S), vs = [v] ∧ ShAt H v t ∧ t.size < n ∧ Q (.int (t.size : Int)) H
def spLab (n : Nat) : Sp := fun vs H Q _ => ∃ (v : V) (t : S) (ls : List Nat), vs = [v, vt ls] ∧ ShAt H v t ∧ t.size < n ∧ t.size ≤ 20 ∧ ls.length = t.size ∧
  ∀ (u : V) (b : B) (H' : Hp), Same H H' → BAt H' u b → b.pre = ls → b.shp = t → Q u H'
def spShape (n : Nat) : Sp := fun vs H Q _ => ∃ (D : Deck) (c : Nat) (m y : Nat), vs = [.ref D.dk, .int (m : Int), .int (y : Int)] ∧ DeckOk H D c ∧ c + m < 1000000 ∧ m < n ∧ m ≤ 20 ∧ y < 4 ∧
  ∀ (u : V) (t : S) (H' : Hp), SameD D H H' → DeckOk H' D (c + m) → ShAt H' u t → t.size = m → Q u H'
section
variable {P : Program} {w : World} {K : PySem.W.Frag} {mg : Str → Option Value} {base : Heap} {f : Addr} {fd : FuncData}
theorem ok_ssize (F : Fun K "_law_size" "_law_size" s__law_size f fd) (b : Binds K fd ["_law_tree_here"] []) (g : mg "_law_size" = some (.ref f)) : ∀ n : Nat, FnOk P w K mg base CX0 n f fd ["_law_tree_here"] (spSSize n)
  | 0 => by
    have no : ∀ vs H Q E, ¬ spSSize 0 vs H Q E := fun vs H Q E h => by
      obtain ⟨v, t, _, _, h1, _⟩ := h
      omega
    exact ⟨fun vs H Q E h => absurd h (no vs H Q E), fun A outer s H args us vs Q E _ _ _ _ h => absurd h (no vs H Q E)⟩
  | n + 1 => by
    have Dself : Df P w K mg base n "_law_size" ["_law_tree_here"] (spSSize n) := ⟨f, fd, ok_ssize F b g n, b, F.kp, g⟩
    refine F.ok sc__law_size (fun vs H Q E h => ?_) (fun cdv A outer s H vs Q E hr h => ?_)
    · obtain ⟨v, t, rfl, _⟩ := h
      rfl
    obtain ⟨v, t, rfl, hv, hn, q⟩ := h
    refine ⟨_, (pss_one (ps_ret (pe_ifExp (pt_cmpR op_isN (pv 0) pe_non (nomark _)) pe_int (pe_op op_add (pe_op op_add pe_int (pe_call Dself.ok (hr.mono (by omega)) rfl Dself.g Dself.kp Dself.b .nil pass0 (pa_cons (pe_ix ix_tup (pv 0) pe_int (fun _ _ => rfl)) pa_nil))) (pe_call Dself.ok (hr.mono (by omega)) rfl Dself.g Dself.kp Dself.b .nil pass0 (pa_cons (pe_ix ix_tup (pv 0) (pe_un un_neg pe_int) (fun _ _ => rfl)) pa_nil)))))), ?_⟩
    rcases hv.inv with ⟨rfl, rfl⟩ | ⟨a, l, r, tl, tr, rfl, rfl, ea, hl, hr'⟩
    · exact ⟨_, rfl, rfl, _, rfl, iteT q⟩
    · refine ⟨_, rfl, rfl, _, rfl, iteF ?_⟩
      have sz : 1 + tl.size + tr.size < n + 1 := hn
      refine ⟨_, rfl, a, _, _, _, rfl, rfl, SqT.of ea, atI_nat (j := 0) rfl, l, tl, rfl, hl, by omega, _, _, rfl, rfl, ?_⟩
      refine ⟨_, rfl, _, rfl, a, _, _, _, rfl, rfl, SqT.of ea, at_last2, r, tr, rfl, hr', by omega, _, _, rfl, rfl, ?_⟩
      have e : ((S.node tl tr).size : Int) = 1 + (tl.size : Int) + (tr.size : Int) := by
        show ((1 + tl.size + tr.size : Nat) : Int) = _
        omega
      rw [e] at q
      exact q
theorem ok_lab (F : Fun K "_law_labelled" "_law_labelled" s__law_labelled f fd) (b : Binds K fd ["_law_shape_here", "_law_letters"] []) (g : mg "_law_labelled" = some (.ref f)) (D_law_size : Df P w K mg base 30 "_law_size" ["_law_tree_here"] (spSSize 30)) : ∀ n : Nat, FnOk P w K mg base CX0 (30 + n) f fd ["_law_shape_here", "_law_letters"] (spLab n)
  | 0 => by
    have no : ∀ vs H Q E, ¬ spLab 0 vs H Q E := fun vs H Q E h => by
      obtain ⟨v, t, _, _, _, h1, _⟩ := h
      omega
    exact ⟨fun vs H Q E h => absurd h (no vs H Q E), fun A outer s H args us vs Q E _ _ _ _ h => absurd h (no vs H Q E)⟩
  | n + 1 => by
    have Dself : Df P w K mg base (30 + n) "_law_labelled" ["_law_shape_here", "_law_letters"] (spLab n) := ⟨f, fd, ok_lab F b g D_law_size n, b, F.kp, g⟩
    refine F.ok (k := 30 + n) sc__law_labelled (fun vs H Q E h => ?_) (fun cdv A outer s H vs Q E hr h => ?_)
    · obtain ⟨v, t, ls, rfl, _⟩ := h
      rfl
    obtain ⟨v, t, ls, rfl, hv, hn, h20, hl, q⟩ := h
    refine ⟨_, (pss_cons (ps_if (pt_cmpR op_isN (pv 0) pe_non (nomark _))
      (pss_one (ps_ret pe_non)) pss_nil)
    (pss_cons (ps_set (i := 2) sc__law_labelled.nd rfl (.inl rfl) (pe_call D_law_size.ok (hr.mono (by omega)) rfl D_law_size.g D_law_size.kp D_law_size.b .nil pass0 (pa_cons (pe_ix ix_tup (pv 0) pe_int (fun _ _ => rfl)) pa_nil)))
    (pss_one (ps_ret (pe_tup (pa_cons (pe_call Dself.ok (hr.mono (by omega)) rfl Dself.g Dself.kp Dself.b .nil pass0 (pa_cons (pe_ix ix_tup (pv 0) pe_int (fun _ _ => rfl)) (pa_cons (pe_slice sl_str (pv 1) (po_some pe_int) (po_some (pe_op op_add (pv 2) pe_int))) pa_nil))) (pa_cons (pe_ix ix_str (pv 1) pe_int (fun _ _ => rfl)) (pa_cons (pe_call Dself.ok (hr.mono (by omega)) rfl Dself.g Dself.kp Dself.b .nil pass0 (pa_cons (pe_ix ix_tup (pv 0) (pe_un un_neg pe_int) (fun _ _ => rfl)) (pa_cons (pe_slice sl_str (pv 1) (po_some (pe_op op_add (pv 2) pe_int)) po_none) pa_nil))) pa_nil)))))))), ?_⟩
    rcases hv.inv with ⟨rfl, rfl⟩ | ⟨a, l, r, tl, tr, rfl, rfl, ea, hL, hR⟩
    · refine ⟨_, rfl, rfl, _, rfl, iteT ?_⟩
      exact q .non .nil H (Same.refl _) .nil (List.length_eq_zero_iff.mp hl).symm rfl
    · refine ⟨_, rfl, rfl, _, rfl, iteF ?_⟩
      have sz : 1 + tl.size + tr.size < n + 1 := hn
      have s20 : 1 + tl.size + tr.size ≤ 20 := h20
      have hl : ls.length = 1 + tl.size + tr.size := hl
      obtain ⟨x, rest, rfl⟩ := List.exists_cons_of_length_pos (show 0 < ls.length by omega)
      have rl : rest.length = tl.size + tr.size := by rw [List.length_cons] at hl; omega
      refine ⟨_, rfl, a, _, _, _, rfl, rfl, SqT.of ea, atI_nat (j := 0) rfl, l, tl, rfl, hL, by omega, ?_⟩
      have lz : (tx (x :: rest)).length ≤ sizeLine := small (by rw [tx_len]; omega)
      refine ⟨_, rfl, a, _, _, _, rfl, rfl, SqT.of ea, atI_nat (j := 0) rfl, ?_⟩
      refine ⟨_, rfl, 1, rfl, _, rfl, _, _, rfl, rfl, ((tl.size + 1 : Nat) : Int), rfl, _, rfl, lz, ?_⟩
      rw [show (1 : Int) = ((1 : Nat) : Int) from rfl, tx_mid _ _ _ (by omega) (by rw [List.length_cons]; omega)]
      show spLab n [l, vt ((rest.take (tl.size + 1 - 1)))] H _ E0
      rw [Nat.add_sub_cancel]
      refine ⟨l, tl, rest.take tl.size, rfl, hL, by omega, by omega, by rw [List.length_take]; omega, fun u1 b1 H1 s1 h1 e1 j1 => ?_⟩
      refine ⟨_, rfl, _, _, _, rfl, rfl, lz, atI_nat (j := 0) rfl, ?_⟩
      refine ⟨_, rfl, _, rfl, a, _, _, _, rfl, rfl, SqT.of (s1 _ _ ea), at_last2, ?_⟩
      refine ⟨_, rfl, _, rfl, _, _, rfl, rfl, ((tl.size + 1 : Nat) : Int), rfl, _, rfl, lz, ?_⟩
      rw [tx_from]
      show spLab n [r, vt (rest.drop tl.size)] H1 _ E0
      refine ⟨r, tr, rest.drop tl.size, rfl, hR.same s1, by omega, by omega, by rw [List.length_drop]; omega, fun u2 b2 H2 s2 h2 e2 j2 => ⟨(by show 3 ≤ sizeLine; decide), fun p np => ?_⟩⟩
      have k3 := same_new np (.tup [u1, vc x, u2])
      refine q (.ref p) (.node b1 x b2) _ (s1.trans (s2.trans k3)) (.node upd_same ((h1.same s2).same k3) (h2.same k3)) ?_ (by show S.node b1.shp b2.shp = _; rw [j1, j2])
      show x :: (b1.pre ++ b2.pre) = _
      rw [e1, e2, List.take_append_drop]
theorem ok_shape (F : Fun K "_law_shape" "_law_shape" s__law_shape f fd) (b : Binds K fd ["_law_deck_here", "_law_many", "_law_way"] []) (g : mg "_law_shape" = some (.ref f)) (D_law_draw : Df P w K mg base 1 "_law_draw" ["_law_deck_here", "_law_many"] spDraw) : ∀ n : Nat, FnOk P w K mg base CX0 (1 + n) f fd ["_law_deck_here", "_law_many", "_law_way"] (spShape n)
  | 0 => by
    have no : ∀ vs H Q E, ¬ spShape 0 vs H Q E := fun vs H Q E h => by
      obtain ⟨D, c, m, y, _, _, _, h1, _⟩ := h
      omega
    exact ⟨fun vs H Q E h => absurd h (no vs H Q E), fun A outer s H args us vs Q E _ _ _ _ h => absurd h (no vs H Q E)⟩
  | n + 1 => by
    have Dself : Df P w K mg base (1 + n) "_law_shape" ["_law_deck_here", "_law_many", "_law_way"] (spShape n) := ⟨f, fd, ok_shape F b g D_law_draw n, b, F.kp, g⟩
    refine F.ok (k := 1 + n) sc__law_shape (fun vs H Q E h => ?_) (fun cdv A outer s H vs Q E hr h => ?_)
    · obtain ⟨D, c, m, y, rfl, _⟩ := h
      rfl
    obtain ⟨D, c, m, y, rfl, d, hc, hn, h20, y4, q⟩ := h
    refine ⟨_, (pss_cons (ps_if (pt_cmpR op_eq (pv 1) pe_int (nomark _))
      (pss_one (ps_ret pe_non)) pss_nil)
    (pss_cons (ps_set (i := 3) sc__law_shape.nd rfl (.inl rfl) (pe_ix ix_list (pe_lst (pa_cons (pe_call D_law_draw.ok (hr.mono (by omega)) rfl D_law_draw.g D_law_draw.kp D_law_draw.b .nil pass0 (pa_cons (pv 0) (pa_cons (pv 1) pa_nil))) (pa_cons pe_int (pa_cons (pe_op op_sub (pv 1) pe_int) (pa_cons (pe_op op_mul (pe_op op_sub (pv 1) pe_int) (pe_op op_mod (pv 1) pe_int)) pa_nil))))) (pv 2) (fun _ _ => rfl)))
    (pss_one (ps_ret (pe_tup (pa_cons (pe_call Dself.ok (hr.mono (by omega)) rfl Dself.g Dself.kp Dself.b .nil pass0 (pa_cons (pv 0) (pa_cons (pv 3) (pa_cons (pv 2) pa_nil)))) (pa_cons (pe_call Dself.ok (hr.mono (by omega)) rfl Dself.g Dself.kp Dself.b .nil pass0 (pa_cons (pv 0) (pa_cons (pe_op op_sub (pe_op op_sub (pv 1) pe_int) (pv 3)) (pa_cons (pv 2) pa_nil)))) pa_nil))))))), ?_⟩
    refine ⟨_, rfl, rfl, _, rfl, ?_⟩
    by_cases h0 : m = 0
    · subst h0
      refine iteT ?_
      exact q .non .nil H (SameD.refl _ _) d .nil rfl
    · rw [decide_eq_false (show ¬ V.int (m : Int) = V.int 0 from fun z => h0 (by have := V.int.inj z; omega))]
      refine iteF ?_
      refine ⟨_, rfl, _, rfl, D, c, _, rfl, d, by omega, by omega, by omega, fun i H1 i0 i1 d1 s1 => ?_⟩
      refine ⟨_, rfl, _, _, rfl, rfl, ?_⟩
      refine ⟨_, rfl, _, _, rfl, rfl, _, rfl, _, _, rfl, rfl, (show (0 : Int) < 2 by decide), _, _, rfl, rfl, .inr ⟨by omega, by omega⟩, ?_⟩
      refine ⟨(by show 4 ≤ sizeLine; decide), fun p np => ?_⟩
      have k1 := same_new np (.lst [V.int i, .int 0, .int ((m : Int) - 1), .int (((m : Int) - 1) * ((m : Int) % 2))])
      obtain ⟨sp, hat, lo, hi⟩ : ∃ sp : Nat, atI [V.int i, .int 0, .int ((m : Int) - 1), .int (((m : Int) - 1) * ((m : Int) % 2))] (y : Int) = some (.int (sp : Int)) ∧ 0 ≤ sp ∧ sp < m := by
        have h4 : y = 0 ∨ y = 1 ∨ y = 2 ∨ y = 3 := by omega
        rcases h4 with rfl | rfl | rfl | rfl
        · exact ⟨i.toNat, by rw [atI_nat (j := 0) rfl, Int.toNat_of_nonneg i0], Nat.zero_le _, by omega⟩
        · exact ⟨0, atI_nat (j := 1) rfl, Nat.zero_le _, by omega⟩
        · exact ⟨m - 1, by rw [atI_nat (j := 2) rfl, show ((m : Int) - 1) = ((m - 1 : Nat) : Int) by omega], Nat.zero_le _, by omega⟩
        · rcases (show m % 2 = 0 ∨ m % 2 = 1 by omega) with e | e
          · exact ⟨0, by rw [atI_nat (j := 3) rfl, show (m : Int) % 2 = 0 by omega, Int.mul_zero]; rfl, Nat.zero_le _, by omega⟩
          · exact ⟨m - 1, by rw [atI_nat (j := 3) rfl, show (m : Int) % 2 = 1 by omega, Int.mul_one, show ((m : Int) - 1) = ((m - 1 : Nat) : Int) by omega], Nat.zero_le _, by omega⟩
      refine ⟨_, rfl, p, _, _, _, rfl, rfl, SqL.of upd_same, hat, ?_⟩
      have d2 := d1.same k1
      have sA := s1.trans (SameD.of k1)
      generalize upd H1 p (.lst [V.int i, .int 0, .int ((m : Int) - 1), .int (((m : Int) - 1) * ((m : Int) % 2))]) = H2 at d2 sA
      refine ⟨_, rfl, _, rfl, _, rfl, D, c + 1, sp, y, rfl, d2, by omega, by omega, by omega, y4, fun u1 t1 H3 s3 d3 h1 e1 => ?_⟩
      refine ⟨_, rfl, _, rfl, _, _, rfl, rfl, _, rfl, _, _, rfl, rfl, _, rfl, D, c + 1 + sp, m - 1 - sp, y, ?_, d3, by omega, by omega, by omega, y4, fun u2 t2 H4 s4 d4 h2 e2 => ⟨(by show 2 ≤ sizeLine; decide), fun z nz => ?_⟩⟩
      · rw [show ((m - 1 - sp : Nat) : Int) = (m : Int) - 1 - (sp : Int) by omega]; rfl
      have kz := same_new nz (.tup [u1, u2])
      have d5 := d4.same kz
      rw [show c + 1 + sp + (m - 1 - sp) = c + m by omega] at d5
      refine q (.ref z) (.node t1 t2) _ (sA.trans (s3.trans (s4.trans (SameD.of kz)))) d5 (.node upd_same ((h1.keep (s4.keepT d3)).same kz) (h2.same kz)) ?_
      show 1 + t1.size + t2.size = m
      omega
end
/-! ### _law_tree, _law_walks -/
def lowT (t : B) : Prop := ∀ c ∈ t.pre, 97 ≤ c ∧ c ≤ 122
def spTree : Sp := fun vs H Q _ => ∃ (D : Deck) (n m : Nat), vs = [.ref D.dk, .int (m : Int)] ∧ DeckOk H D n ∧ n + 60 < 1000000 ∧ 0 < m ∧ m ≤ 12 ∧
  ∀ (u : V) (t : B) (c : Nat) (H' : Hp), n ≤ c → c ≤ n + 60 → DeckOk H' D c → SameD D H H' → BAt H' u t → t ≠ .nil → t.size ≤ m → lowT t → Q u H'
theorem some_low {y : Nat} (h : y < 4) : ∃ ls : List Nat, atI [V.str (Str.ofString "a"), .str (Str.ofString "ab"), .str (Str.ofString "abc"), .str (Str.ofString "abcdefghijklmnopqrstuvwxyz")] (y : Int) = some (vt ls) ∧ ls ≠ [] ∧ ls.length ≤ 26 ∧ ∀ c ∈ ls, 97 ≤ c ∧ c ≤ 122 := by
  have h4 : y = 0 ∨ y = 1 ∨ y = 2 ∨ y = 3 := by omega
  rcases h4 with rfl | rfl | rfl | rfl
  · exact ⟨(Str.ofString "a").cps.toList, atI_nat (j := 0) rfl, by decide +kernel, by decide +kernel, by decide +kernel⟩
  · exact ⟨(Str.ofString "ab").cps.toList, atI_nat (j := 1) rfl, by decide +kernel, by decide +kernel, by decide +kernel⟩
  · exact ⟨(Str.ofString "abc").cps.toList, atI_nat (j := 2) rfl, by decide +kernel, by decide +kernel, by decide +kernel⟩
  · exact ⟨(Str.ofString "abcdefghijklmnopqrstuvwxyz").cps.toList, atI_nat (j := 3) rfl, by decide +kernel, by decide +kernel, by decide +kernel⟩
theorem all_vc {l : List Nat} : ∀ zs : List V, (∀ x ∈ zs, x ∈ l.map vc) → ∃ cs : List Nat, zs = cs.map vc ∧ ∀ c ∈ cs, c ∈ l
  | [], _ => ⟨[], rfl, fun c h => nomatch h⟩
  | x :: zs, h => by
    obtain ⟨cs, e, hc⟩ := all_vc zs fun y hy => h y (List.mem_cons_of_mem _ hy)
    obtain ⟨c, h1, rfl⟩ := List.mem_map.mp (h x List.mem_cons_self)
    exact ⟨c :: cs, by rw [e]; rfl, fun d hd => by
      rcases List.mem_cons.mp hd with rfl | hd
      · exact h1
      · exact hc d hd⟩
section
variable {P : Program} {w : World} {K : PySem.W.Frag} {mg : Str → Option Value} {base : Heap} {f : Addr} {fd : FuncData}
theorem ok_tree (F : Fun K "_law_tree" "_law_tree" s__law_tree f fd) (M : Mgs mg) (D_law_draw : Df P w K mg base 1 "_law_draw" ["_law_deck_here", "_law_many"] spDraw) (D_law_mixed : Df P w K mg base 2 "_law_mixed" ["_law_deck_here", "_law_row"] spMixed)
    (D_law_labelled : Df P w K mg base 51 "_law_labelled" ["_law_shape_here", "_law_letters"] (spLab 21)) (D_law_shape : Df P w K mg base 22 "_law_shape" ["_law_deck_here", "_law_many", "_law_way"] (spShape 21)) : FnOk P w K mg base CX0 52 f fd ["_law_deck_here", "_law_most"] spTree := by
  refine F.ok sc__law_tree (fun vs H Q E h => ?_) (fun cdv A outer s H vs Q E hr h => ?_)
  · obtain ⟨D, n, m, rfl, _⟩ := h
    rfl
  obtain ⟨D, n, m, rfl, d, hn, m0, m12, q⟩ := h
  refine ⟨_, (pss_cons (ps_set (i := 2) sc__law_tree.nd rfl (.inl rfl) (pe_op op_add pe_int (pe_call D_law_draw.ok (hr.mono (by omega)) rfl D_law_draw.g D_law_draw.kp D_law_draw.b .nil pass0 (pa_cons (pv 0) (pa_cons (pv 1) pa_nil)))))
    (pss_cons (ps_set (i := 3) sc__law_tree.nd rfl (.inr rfl) (pe_ix ix_list (pe_lst (pa_cons pe_str (pa_cons pe_str (pa_cons pe_str (pa_cons pe_str pa_nil))))) (pe_call D_law_draw.ok (hr.mono (by omega)) rfl D_law_draw.g D_law_draw.kp D_law_draw.b .nil pass0 (pa_cons (pv 0) (pa_cons pe_int pa_nil))) (fun _ _ => rfl)))
    (pss_cons (ps_set (i := 5) sc__law_tree.nd rfl (.inl rfl) (pe_bm PySem.F.plainAttrs_str PySem.F.slot_str_join PySem.F.type_str_join mt_join pe_str (pa_cons (pe_lc (own := [("_law_node", 4)]) (g := gName 4) (tt := tYes) rfl sc__law_tree.nd (pi_range1 rfl M.range (pa_cons (pv 2) pa_nil)) (blkOk_by (N := ["_law_deck_here", "_law_most", "_law_many", "_law_some", "_law_node", "_law_letters"]) (sc := defScope s__law_tree) (by decide +kernel)) (fun _ _ _ _ _ => (pg_name (i := 4) sc__law_tree.nd rfl (.inl rfl))) (fun _ _ _ _ _ => pts_nil) (fun _ _ _ _ _ => (pe_ix ix_str (pv 3) (pe_call D_law_draw.ok (hr.mono (by omega)) rfl D_law_draw.g D_law_draw.kp D_law_draw.b .nil pass0 (pa_cons (pv 0) (pa_cons (pe_callB call_len_str rfl M.len PySem.boot_len (pa_cons (pv 3) pa_nil)) pa_nil))) (fun _ _ => rfl)))) pa_nil)))
    (pss_cons (ps_if (pt_cmpR op_eq (pe_call D_law_draw.ok (hr.mono (by omega)) rfl D_law_draw.g D_law_draw.kp D_law_draw.b .nil pass0 (pa_cons (pv 0) (pa_cons pe_int pa_nil))) pe_int (nomark _))
      (pss_one (ps_set (i := 5) sc__law_tree.nd rfl (.inl rfl) (pe_slice sl_str (pe_bm PySem.F.plainAttrs_str PySem.F.slot_str_join PySem.F.type_str_join mt_join pe_str (pa_cons (pe_call D_law_mixed.ok (hr.mono (by omega)) rfl D_law_mixed.g D_law_mixed.kp D_law_mixed.b .nil pass0 (pa_cons (pv 0) (pa_cons (pe_callTy (call_signs rfl) rfl M.list (by decide +kernel) (pa_cons pe_str pa_nil)) pa_nil))) pa_nil)) po_none (po_some (pv 2))))) pss_nil)
    (pss_one (ps_ret (pe_call D_law_labelled.ok (hr.mono (by omega)) rfl D_law_labelled.g D_law_labelled.kp D_law_labelled.b .nil pass0 (pa_cons (pe_call D_law_shape.ok (hr.mono (by omega)) rfl D_law_shape.g D_law_shape.kp D_law_shape.b .nil pass0 (pa_cons (pv 0) (pa_cons (pv 2) (pa_cons (pe_op op_mul (pe_op op_mod (pe_call D_law_draw.ok (hr.mono (by omega)) rfl D_law_draw.g D_law_draw.kp D_law_draw.b .nil pass0 (pa_cons (pv 0) (pa_cons pe_int pa_nil))) pe_int) (pe_callTy call_int1 rfl M.int (by decide +kernel) (pa_cons (pe_cmpR op_gt (pv 2) pe_int (nomark _)) pa_nil))) pa_nil)))) (pa_cons (pv 5) pa_nil))))))))), ?_⟩
  refine ⟨_, rfl, _, rfl, D, n, _, rfl, d, by omega, by omega, by omega, fun i H1 i0 i1 d1 s1 => ?_⟩
  obtain ⟨z, rfl⟩ : ∃ z : Nat, i = (z : Int) := ⟨i.toNat, by omega⟩
  refine ⟨_, _, rfl, rfl, ?_⟩
  refine ⟨(by show 4 ≤ sizeLine; decide), fun p np => ?_⟩
  have k1 := same_new np (.lst [V.str (Str.ofString "a"), .str (Str.ofString "ab"), .str (Str.ofString "abc"), .str (Str.ofString "abcdefghijklmnopqrstuvwxyz")])
  have ep := upd_same (H := H1) (a := p) (o := .lst [V.str (Str.ofString "a"), .str (Str.ofString "ab"), .str (Str.ofString "abc"), .str (Str.ofString "abcdefghijklmnopqrstuvwxyz")])
  have op := d1.new np
  have d2 := d1.same k1
  have s2 := s1.trans (SameD.of k1)
  generalize upd H1 p (.lst [V.str (Str.ofString "a"), .str (Str.ofString "ab"), .str (Str.ofString "abc"), .str (Str.ofString "abcdefghijklmnopqrstuvwxyz")]) = H2 at ep d2 s2
  refine ⟨_, rfl, D, n + 1, _, rfl, d2, by omega, by decide, by decide, fun j H3 j0 j1 d3 s3 => ?_⟩
  obtain ⟨y, rfl⟩ : ∃ y : Nat, j = (y : Int) := ⟨j.toNat, by omega⟩
  obtain ⟨ls, hat, lne, l26, low⟩ := some_low (show y < 4 by omega)
  refine ⟨p, _, _, _, rfl, rfl, SqL.of (s3.at op ep), hat, ?_⟩
  have s4 := s2.trans s3
  have l0 : 0 < ls.length := List.length_pos_iff.mpr lne
  have hz : (1 : Int) + (z : Int) = ((z + 1 : Nat) : Int) := by omega
  refine ⟨rfl, _, rfl, (1 : Int) + (z : Int), rfl, (by omega), (by omega), fun L nL => ?_⟩
  rw [show ((1 : Int) + (z : Int)).toNat = z + 1 by omega]
  have nLH : H L = none := s4.free d3 nL
  refine lc_range (lo := 0) (n := z + 1) (fun j H' => ∃ xs : List Nat, xs.length = j ∧ DeckOk H' D (n + 2 + j) ∧ SameD D H H' ∧ H' L = some (.lst (xs.map vc)) ∧ Off D L ∧ ∀ c ∈ xs, 97 ≤ c ∧ c ≤ 122)
    ⟨[], rfl, d3.same (same_new nL _), s4.put nLH _, upd_same, d3.new nL, fun c h => nomatch h⟩ (fun j H' hj hp => ?_) (fun H4 hp => ?_)
  · obtain ⟨xs, hx, d4, s5, eL, oL, lo⟩ := hp
    have lz : (tx ls).length ≤ sizeLine := small (by rw [tx_len]; omega)
    refine ⟨rfl, kept ?_⟩
    refine ⟨_, rfl, _, rfl, _, rfl, _, rfl, lz, D, n + 2 + j, _, rfl, d4, by omega, by rw [tx_len]; omega, by rw [tx_len]; omega, fun i H5 i0 i1 d5 s6 => ?_⟩
    rw [tx_len] at i1
    have hi : i.toNat < ls.length := by omega
    refine ⟨_, _, _, rfl, rfl, lz, at_ge (xs := ls) i0 hi, ?_⟩
    refine ⟨_, s6.at oL eL, ?_, xs ++ [ls[i.toNat]], by rw [List.length_append, hx]; rfl, d5.put oL _, ?_, ?_, oL, fun c hc => ?_⟩
    · rw [List.length_map]; exact small1000 (by omega)
    · exact (s5.trans s6).put nLH _
    · rw [upd_same, List.map_append]; rfl
    · rcases List.mem_append.mp hc with hc | hc
      · exact lo c hc
      · rw [List.mem_singleton.mp hc]
        exact low _ (List.getElem_mem hi)
  obtain ⟨xs, hx, d4, s5, eL, oL, lo⟩ := hp
  have m12' : z + 1 ≤ 12 := by omega
  have eL2 : H4 L = some (.lst ((xs.map ch).map V.str)) := by rw [eL, map_vc]
  refine ⟨_, L, xs.map ch, rfl, rfl, .inl (SqL.of eL2), tx_joinOk _ (by omega), ?_⟩
  rw [tx_join]
  refine ⟨_, rfl, D, n + 2 + (z + 1), _, rfl, d4, by omega, by decide, by decide, fun i H5 i0 i1 d5 s6 => ⟨rfl, _, rfl, ?_⟩⟩
  have s7 := s5.trans s6
  -- the end
  refine ite2 (fun _ => ?_) (fun _ => ?_)
  · refine ⟨rfl, _, rfl, Str.ofString "abcdefghijklmnopqrstuvwxyz", rfl, (by decide +kernel), fun ra nra => ?_⟩
    have e26 : (Str.ofString "abcdefghijklmnopqrstuvwxyz").cps.toList.length = 26 := by decide +kernel
    have low26 : ∀ c ∈ (Str.ofString "abcdefghijklmnopqrstuvwxyz").cps.toList, 97 ≤ c ∧ c ≤ 122 := by decide +kernel
    have kA := same_new nra (.lst ((Str.ofString "abcdefghijklmnopqrstuvwxyz").cps.toList.map vc))
    have era := upd_same (H := H5) (a := ra) (o := .lst ((Str.ofString "abcdefghijklmnopqrstuvwxyz").cps.toList.map vc))
    have ora := d5.new nra
    have dA := d5.same kA
    generalize (Str.ofString "abcdefghijklmnopqrstuvwxyz").cps.toList = AL at e26 low26 kA era dA ⊢
    have sA := s7.trans (SameD.of kA)
    refine ⟨D, n + 2 + (z + 1) + 1, ra, AL.map vc, rfl, dA, by rw [List.length_map]; omega, era, ora, by rw [List.length_map]; omega, fun p9 zs H6 dM sM np9 ep9 pm op9 => ?_⟩
    obtain ⟨cs, rfl, hcs⟩ := all_vc zs fun x hx => pm.mem_iff.mp hx
    have lc : cs.length = 26 := by
      have := pm.length_eq
      rw [List.length_map, List.length_map] at this
      omega
    rw [List.length_map, e26] at dM
    have ep8 : H6 p9 = some (.lst ((cs.map ch).map V.str)) := by rw [ep9, map_vc]
    refine ⟨_, p9, cs.map ch, rfl, rfl, .inl (SqL.of ep8), tx_joinOk _ (by omega), ?_⟩
    rw [tx_join]
    refine ⟨_, rfl, (1 : Int) + (z : Int), rfl, _, rfl, small (by rw [tx_len]; omega), ?_⟩
    rw [hz, tx_to]
    have SX := sA.trans sM
    have LX : (cs.take (z + 1)).length = z + 1 := by rw [List.length_take]; omega
    have OX : ∀ c ∈ cs.take (z + 1), 97 ≤ c ∧ c ≤ 122 := fun c hc => low26 c (hcs c (List.mem_of_mem_take hc))
    refine ⟨_, rfl, _, rfl, _, rfl, D, (n + 2 + (z + 1) + 1 + 26), _, rfl, dM, by omega, by decide, by decide, fun i9 H7 i90 i91 d7 s8 => ?_⟩
    refine ⟨_, _, rfl, rfl, (show (0 : Int) < 4 by decide), _, rfl, _, _, rfl, rfl, .inr ⟨_, rfl, _, _, rfl, rfl, .inl ⟨by omega, by omega⟩, ?_⟩⟩
    have pz : decide ((1 : Int) + (z : Int) > 0) = true := decide_eq_true (by omega)
    refine ⟨D, (n + 2 + (z + 1) + 1 + 26) + 1, z + 1, (i9 % 4).toNat, ?_, d7, by omega, by omega, by omega, by omega, fun u1 t1 H8 s9 d8 h1 e1 => ?_⟩
    · show [V.ref D.dk, V.int (1 + (z : Int)), V.int (i9 % 4 * (if decide ((1 : Int) + (z : Int) > 0) = true then 1 else 0))] = _
      rw [pz, if_pos rfl, Int.mul_one, hz, Int.toNat_of_nonneg (by omega)]
    refine ⟨_, rfl, u1, t1, _, rfl, h1, by omega, by omega, by rw [e1]; exact LX, fun u2 b H9 sB hb eb _ => ?_⟩
    refine q u2 b ((n + 2 + (z + 1) + 1 + 26) + 1 + (z + 1)) H9 (by omega) (by omega) (d8.same sB) (SX.trans (s8.trans (s9.trans (SameD.of sB)))) hb (fun e => ?_) ?_ (fun c hc => ?_)
    · have := congrArg List.length eb
      rw [e, LX] at this
      exact absurd this (by show ¬ (0 = z + 1); omega)
    · rw [← b.pre_len, eb, LX]; omega
    · rw [eb] at hc
      exact OX c hc
  · refine ⟨_, rfl, _, rfl, _, rfl, D, (n + 2 + (z + 1) + 1), _, rfl, d5, by omega, by decide, by decide, fun i9 H7 i90 i91 d7 s8 => ?_⟩
    refine ⟨_, _, rfl, rfl, (show (0 : Int) < 4 by decide), _, rfl, _, _, rfl, rfl, .inr ⟨_, rfl, _, _, rfl, rfl, .inl ⟨by omega, by omega⟩, ?_⟩⟩
    have pz : decide ((1 : Int) + (z : Int) > 0) = true := decide_eq_true (by omega)
    refine ⟨D, (n + 2 + (z + 1) + 1) + 1, z + 1, (i9 % 4).toNat, ?_, d7, by omega, by omega, by omega, by omega, fun u1 t1 H8 s9 d8 h1 e1 => ?_⟩
    · show [V.ref D.dk, V.int (1 + (z : Int)), V.int (i9 % 4 * (if decide ((1 : Int) + (z : Int) > 0) = true then 1 else 0))] = _
      rw [pz, if_pos rfl, Int.mul_one, hz, Int.toNat_of_nonneg (by omega)]
    refine ⟨_, rfl, u1, t1, _, rfl, h1, by omega, by omega, by rw [e1]; exact hx, fun u2 b H9 sB hb eb _ => ?_⟩
    refine q u2 b ((n + 2 + (z + 1) + 1) + 1 + (z + 1)) H9 (by omega) (by omega) (d8.same sB) (s7.trans (s8.trans (s9.trans (SameD.of sB)))) hb (fun e => ?_) ?_ (fun c hc => ?_)
    · have := congrArg List.length eb
      rw [e, hx] at this
      exact absurd this (by show ¬ (0 = z + 1); omega)
    · rw [← b.pre_len, eb, hx]; omega
    · rw [eb] at hc
      exact lo c hc
end
/-! ### _law_walks, _law_hidden -/
def spLWalks (n : Nat) : Sp := fun vs H Q _ => ∃ (v : V) (t : B), vs = [v] ∧ BAt H v t ∧ t.size < n ∧ t.size ≤ 20 ∧ ∀ (d : Addr) (H' : Hp), Same H H' → H' d = some (.tup [vt t.pre, vt t.mid, vt t.post]) → Q (.ref d) H'
def spHid : Sp := fun vs H Q _ => ∃ (D : Deck) (n : Nat) (r : List Nat), vs = [.ref D.dk, vt r] ∧ DeckOk H D n ∧ n + 20 < 1000000 ∧ RowOk r ∧
  ∀ (z : List Nat) (c : Nat) (H' : Hp), n ≤ c → c ≤ n + 13 → DeckOk H' D c → SameD D H H' → RowOk z → z.length = r.length → Q (vt z) H'
theorem B.post_len (t : B) : t.post.length = t.size := t.wk_len .last
section
variable {P : Program} {w : World} {K : PySem.W.Frag} {mg : Str → Option Value} {base : Heap} {f : Addr} {fd : FuncData}
theorem ok_lwalks (F : Fun K "_law_walks" "_law_walks" s__law_walks f fd) (b : Binds K fd ["_law_tree_here"] []) (g : mg "_law_walks" = some (.ref f)) : ∀ n : Nat, FnOk P w K mg base CX0 n f fd ["_law_tree_here"] (spLWalks n)
  | 0 => by
    have no : ∀ vs H Q E, ¬ spLWalks 0 vs H Q E := fun vs H Q E h => by
      obtain ⟨v, t, _, _, h1, _⟩ := h
      omega
    exact ⟨fun vs H Q E h => absurd h (no vs H Q E), fun A outer s H args us vs Q E _ _ _ _ h => absurd h (no vs H Q E)⟩
  | n + 1 => by
    have Dself : Df P w K mg base n "_law_walks" ["_law_tree_here"] (spLWalks n) := ⟨f, fd, ok_lwalks F b g n, b, F.kp, g⟩
    refine F.ok sc__law_walks (fun vs H Q E h => ?_) (fun cdv A outer s H vs Q E hr h => ?_)
    · obtain ⟨v, t, rfl, _⟩ := h
      rfl
    obtain ⟨v, t, rfl, hv, hn, h20, q⟩ := h
    refine ⟨_, (pss_cons (ps_if (pt_cmpR op_isN (pv 0) pe_non (nomark _))
      (pss_one (ps_ret (pe_tup (pa_cons pe_str (pa_cons pe_str (pa_cons pe_str pa_nil)))))) pss_nil)
    (pss_cons (ps_par (i := 1) (j := 2) (by rfl) sc__law_walks.nd rfl rfl (by decide) rfl rfl (pa_cons (pe_call Dself.ok (hr.mono (by omega)) rfl Dself.g Dself.kp Dself.b .nil pass0 (pa_cons (pe_ix ix_tup (pv 0) pe_int (fun _ _ => rfl)) pa_nil)) (pa_cons (pe_call Dself.ok (hr.mono (by omega)) rfl Dself.g Dself.kp Dself.b .nil pass0 (pa_cons (pe_ix ix_tup (pv 0) pe_int (fun _ _ => rfl)) pa_nil)) pa_nil)) (by rfl))
    (pss_cons (ps_set (i := 3) sc__law_walks.nd rfl (.inl rfl) (pe_ix ix_tup (pv 0) pe_int (fun _ _ => rfl)))
    (pss_one (ps_ret (pe_tup (pa_cons (pe_op op_add_str (pe_op op_add_str (pv 3) (pe_ix ix_tup (pv 1) pe_int (fun _ _ => rfl))) (pe_ix ix_tup (pv 2) pe_int (fun _ _ => rfl))) (pa_cons (pe_op op_add_str (pe_op op_add_str (pe_ix ix_tup (pv 1) pe_int (fun _ _ => rfl)) (pv 3)) (pe_ix ix_tup (pv 2) pe_int (fun _ _ => rfl))) (pa_cons (pe_op op_add_str (pe_op op_add_str (pe_ix ix_tup (pv 1) pe_int (fun _ _ => rfl)) (pe_ix ix_tup (pv 2) pe_int (fun _ _ => rfl))) (pv 3)) pa_nil))))))))), ?_⟩
    rcases hv.inv with ⟨rfl, rfl⟩ | ⟨a, l, r, x, tl, tr, rfl, rfl, ea, hl, hr'⟩
    · refine ⟨_, rfl, rfl, _, rfl, iteT ⟨(by show 3 ≤ sizeLine; decide), fun p np => ?_⟩⟩
      refine q p _ (same_new np _) ?_
      rw [upd_same, str_0]
      rfl
    · refine ⟨_, rfl, rfl, _, rfl, iteF ?_⟩
      have sz : tl.size + 1 + tr.size < n + 1 := hn
      have s20 : tl.size + 1 + tr.size ≤ 20 := h20
      refine ⟨_, rfl, a, _, _, _, rfl, rfl, SqT.of ea, atI_nat (j := 0) rfl, l, tl, rfl, hl, by omega, by omega, fun d1 H1 s1 e1 => ?_⟩
      refine ⟨_, rfl, a, _, _, _, rfl, rfl, SqT.of (s1 _ _ ea), atI_nat (j := 2) rfl, r, tr, rfl, hr'.same s1, by omega, by omega, fun d2 H2 s2 e2 => ⟨_, _, rfl, ?_⟩⟩
      have ea2 := s2 _ _ (s1 _ _ ea)
      have e1' := s2 _ _ e1
      have l1 := tl.pre_len
      have l2 := tl.mid_len
      have l3 := tl.post_len
      have r1 := tr.pre_len
      have r2 := tr.mid_len
      have r3 := tr.post_len
      refine ⟨_, rfl, a, _, _, _, rfl, rfl, SqT.of ea2, atI_nat (j := 1) rfl, ?_⟩
      refine ⟨_, rfl, _, rfl, d1, _, _, _, rfl, rfl, SqT.of e1', atI_nat (j := 0) rfl, ?_⟩
      refine ⟨tx [x], tx tl.pre, rfl, rfl, small (by rw [tx_len, tx_len]; show 1 + _ ≤ 1000; omega), ?_⟩
      rw [tx_app]
      refine ⟨_, rfl, d2, _, _, _, rfl, rfl, SqT.of e2, atI_nat (j := 0) rfl, _, _, rfl, rfl, small (by rw [tx_len, tx_len, List.length_append]; show 1 + _ + _ ≤ 1000; omega), ?_⟩
      rw [tx_app]
      refine ⟨_, rfl, d1, _, _, _, rfl, rfl, SqT.of e1', atI_nat (j := 1) rfl, _, rfl, _, tx [x], rfl, rfl, small (by rw [tx_len, tx_len]; show _ + 1 ≤ 1000; omega), ?_⟩
      rw [tx_app]
      refine ⟨_, rfl, d2, _, _, _, rfl, rfl, SqT.of e2, atI_nat (j := 1) rfl, _, _, rfl, rfl, small (by rw [tx_len, tx_len, List.length_append]; show _ + 1 + _ ≤ 1000; omega), ?_⟩
      rw [tx_app]
      refine ⟨_, rfl, d1, _, _, _, rfl, rfl, SqT.of e1', atI_nat (j := 2) rfl, _, rfl, d2, _, _, _, rfl, rfl, SqT.of e2, atI_nat (j := 2) rfl, _, _, rfl, rfl, small (by rw [tx_len, tx_len]; omega), ?_⟩
      rw [tx_app]
      refine ⟨_, rfl, _, tx [x], rfl, rfl, small (by rw [tx_len, tx_len, List.length_append]; show _ + _ + 1 ≤ 1000; omega), ?_⟩
      rw [tx_app]
      refine ⟨(by show 3 ≤ sizeLine; decide), fun p np => q p _ (s1.trans (s2.trans (same_new np _))) ?_⟩
      rw [upd_same]
      show some (HO.tup [vt ([x] ++ tl.pre ++ tr.pre), vt (tl.mid ++ [x] ++ tr.mid), vt (tl.post ++ tr.post ++ [x])]) = some (HO.tup [vt (x :: (tl.pre ++ tr.pre)), vt (tl.mid ++ x :: tr.mid), vt (tl.post ++ tr.post ++ [x])])
      rw [List.append_assoc tl.mid]
      rfl
theorem ok_hidden (F : Fun K "_law_hidden" "_law_hidden" s__law_hidden f fd) (M : Mgs mg) (D_law_draw : Df P w K mg base 1 "_law_draw" ["_law_deck_here", "_law_many"] spDraw) : FnOk P w K mg base CX0 2 f fd ["_law_deck_here", "_law_row"] spHid := by
  refine F.ok sc__law_hidden (fun vs H Q E h => ?_) (fun cdv A outer s H vs Q E hr h => ?_)
  · obtain ⟨D, n, r, rfl, _⟩ := h
    rfl
  obtain ⟨D, n, r, rfl, d, hn, ok, q⟩ := h
  have r0 : 0 < r.length := List.length_pos_iff.mpr ok.ne
  have r12 := ok.few
  refine ⟨_, (pss_cons (ps_set (i := 2) sc__law_hidden.nd rfl (.inl rfl) (pe_call D_law_draw.ok (hr.mono (by omega)) rfl D_law_draw.g D_law_draw.kp D_law_draw.b .nil pass0 (pa_cons (pv 0) (pa_cons pe_int pa_nil))))
    (pss_cons (ps_if (pt_cmpR op_eq (pv 2) pe_int (nomark _))
      (pss_one (ps_ret (pv 1))) pss_nil)
    (pss_cons (ps_if (pt_cmpR op_eq (pv 2) pe_int (nomark _))
      (pss_one (ps_ret (pe_op op_timesS pe_str (pe_callB call_len_str rfl M.len PySem.boot_len (pa_cons (pv 1) pa_nil))))) pss_nil)
    (pss_one (ps_ret (pe_bm PySem.F.plainAttrs_str PySem.F.slot_str_join PySem.F.type_str_join mt_join pe_str (pa_cons (pe_lc (own := [("_law_sign", 3)]) (g := gName 3) (tt := tYes) rfl sc__law_hidden.nd (pi_str (pv 1)) (blkOk_by (N := ["_law_deck_here", "_law_row", "_law_way", "_law_sign"]) (sc := defScope s__law_hidden) (by decide +kernel)) (fun _ _ _ _ _ => (pg_name (i := 3) sc__law_hidden.nd rfl (.inl rfl))) (fun _ _ _ _ _ => pts_nil) (fun _ _ _ _ _ => (pe_ix (show IxR _ (rIxL K) from ix_list) (pe_lst (pa_cons (pv 3) (pa_cons pe_str pa_nil))) (pe_callTy call_int1 rfl M.int (by decide +kernel) (pa_cons (pe_cmpR op_eq (pe_call D_law_draw.ok (hr.mono (by omega)) rfl D_law_draw.g D_law_draw.kp D_law_draw.b .nil pass0 (pa_cons (pv 0) (pa_cons pe_int pa_nil))) pe_int (nomark _)) pa_nil)) (fun _ _ => rfl)))) pa_nil))))))), ?_⟩
  refine ⟨_, rfl, D, n, _, rfl, d, by omega, by decide, by decide, fun i H1 i0 i1 d1 s1 => ?_⟩
  refine ⟨_, rfl, rfl, _, rfl, ite2 (fun _ => ?_) (fun _ => ?_)⟩
  · exact ⟨_, rfl, q r (n + 1) H1 (by omega) (by omega) d1 s1 ok rfl⟩
  refine ⟨_, rfl, rfl, _, rfl, ite2 (fun _ => ?_) (fun _ => ?_)⟩
  · refine ⟨_, rfl, _, rfl, small (by rw [tx_len]; omega), 63, r.length, ?_, rfl, by omega, by omega, ?_⟩
    · rw [str_q]; rfl
    · exact q (List.replicate r.length 63) (n + 1) H1 (by omega) (by omega) d1 s1 ⟨by intro e; have := congrArg List.length e; rw [List.length_replicate] at this; exact absurd this (by show ¬ (r.length = 0); omega), by rw [List.length_replicate]; exact r12, fun c hc => .inl (List.eq_of_mem_replicate hc)⟩ List.length_replicate
  refine ⟨rfl, _, rfl, _, rfl, fun L nL => ?_⟩
  have nLH : H L = none := s1.free d1 nL
  refine lc_text (x := tx r) (fun j H' => ∃ xs : List Nat, xs.length = j ∧ DeckOk H' D (n + 1 + j) ∧ SameD D H H' ∧ H' L = some (.lst (xs.map vc)) ∧ Off D L ∧ ∀ c ∈ xs, sgn c) ⟨[], rfl, d1.same (same_new nL _), s1.put nLH _, upd_same, d1.new nL, fun c h => nomatch h⟩ (fun j c H' hc hp => ?_) (fun H4 hp => ?_)
  · obtain ⟨xs, hx, d4, s5, eL, oL, lo⟩ := hp
    have hc : r[j]? = some c := hc
    have hj := (List.getElem?_eq_some_iff.mp hc).1
    have sg := ok.all c (List.mem_of_getElem? hc)
    refine ⟨rfl, kept ?_⟩
    refine ⟨_, rfl, (by show 2 ≤ sizeLine; decide), fun p np => ?_⟩
    have kp := same_new np (.lst [vc c, V.str (Str.ofString "?")])
    have ep := upd_same (H := H') (a := p) (o := .lst [vc c, V.str (Str.ofString "?")])
    have op := d4.new np
    have eL2 := kp _ _ eL
    have d5 := d4.same kp
    have s6 := s5.trans (SameD.of kp)
    generalize upd H' p (.lst [vc c, V.str (Str.ofString "?")]) = H5 at ep eL2 d5 s6
    refine ⟨_, rfl, D, n + 1 + j, _, rfl, d5, by omega, by decide, by decide, fun i9 H6 i90 i91 d6 s7 => ?_⟩
    have out : ∀ e : Nat, sgn e → ∃ acc, H6 L = some (.lst acc) ∧ acc.length < sizeLine ∧ (∃ xs : List Nat, xs.length = j + 1 ∧ DeckOk (upd H6 L (.lst (acc ++ [vc e]))) D (n + 1 + (j + 1)) ∧ SameD D H (upd H6 L (.lst (acc ++ [vc e]))) ∧ upd H6 L (.lst (acc ++ [vc e])) L = some (.lst (xs.map vc)) ∧ Off D L ∧ ∀ c ∈ xs, sgn c) := fun e he => by
      refine ⟨_, s7.at oL eL2, ?_, xs ++ [e], by rw [List.length_append, hx]; rfl, d6.put oL _, (s6.trans s7).put nLH _, by rw [upd_same, List.map_append]; rfl, oL, fun c hc => ?_⟩
      · rw [List.length_map]; exact small1000 (by omega)
      · rcases List.mem_append.mp hc with hc | hc
        · exact lo c hc
        · rw [List.mem_singleton.mp hc]; exact he
    refine ⟨rfl, .inr ⟨_, rfl, ?_⟩⟩
    by_cases hb : i9 = 0
    · rw [show (if decide (V.int i9 = V.int 0) = true then (1 : Int) else 0) = 1 by rw [hb]; rfl]
      refine ⟨p, _, 1, V.str (Str.ofString "?"), rfl, rfl, SqL.of (s7.at op ep), atI_nat (j := 1) rfl, ?_⟩
      rw [str_q]
      exact out 63 (.inl rfl)
    · rw [show (if decide (V.int i9 = V.int 0) = true then (1 : Int) else 0) = 0 by rw [decide_eq_false (fun z => hb (V.int.inj z))]; rfl]
      exact ⟨p, _, 0, vc c, rfl, rfl, SqL.of (s7.at op ep), atI_nat (j := 0) rfl, out c sg⟩
  obtain ⟨xs, hx, d4, s5, eL, oL, lo⟩ := hp
  have hx : xs.length = r.length := hx
  have eL2 : H4 L = some (.lst ((xs.map ch).map V.str)) := by rw [eL, map_vc]
  refine ⟨_, L, xs.map ch, rfl, rfl, .inl (SqL.of eL2), tx_joinOk _ (by omega), ?_⟩
  rw [tx_join]
  exact q xs (n + 1 + r.length) H4 (by omega) (by omega) d4 s5 ⟨fun e => by rw [e] at hx; exact absurd hx (by show ¬ (0 = r.length); omega), by omega, lo⟩ hx
end
/-! ### a token at a def's start; common_letters -/
section
variable {X : Cx}
/-- a name is set to what wants a token -/
theorem pst_setT {i : Nat} {x : Str} {e : Expr} {te : TE} {pos pos' : Pos} (hN : X.N.Nodup) (hi : X.N[i]? = some x) (hx : Loc X.env.scope x) (he : PET X e te) (hs : swapsWith e (some (.Name x pos')) pos.line X.env = pure false := by rfl)
    (hf : X.fn x = true ∨ X.env.scope.names.lookup x = some .local := by first | exact .inl rfl | exact .inr rfl) : PST X (.Assign [.Name x pos'] e pos) (tAsg te (gName i)) := by
  intro pins s σ H D tk I h
  refine wpAny_Assign_Name ?_ hs
  refine thn (he pins s σ H _ tk I h) fun v s1 q => ?_
  obtain ⟨y, G, J, r, q⟩ := q
  exact store_ok J hN hi hx r (fun z K => ⟨_, G, K, q⟩) hf
end
section
variable {X : Cx}
theorem PSsT.nox {st : List Stmt} {t : TS} (h : PSsT X.nox st t) : PSsT X st t := fun pins s σ H D r0 I q =>
  wpAny_mono (h pins s σ H D r0 (I.wish _) q) (fun _ _ w => w.unwish) fun _ _ w => w.elim
end
/-- a def without cells whose body wants a token out: its parameters gave one -/
theorem Fun.okT {P : Program} {w : World} {K : PySem.W.Frag} {mg : Str → Option Value} {base : Heap} {x qual : Str} {st : Stmt} {f : Addr} {fd : FuncData} {N ps : List Str} {k : Nat} {sp : Sp} (F : Fun K x qual st f fd) (S : FnScope N ps (defScope st))
    (noCell : ∀ y ∈ (defScope st).names, y.2 ≠ .cell) (one : 1 ≤ ps.length) (len : ∀ vs H Q E, sp vs H Q E → vs.length = ps.length)
    (body : ∀ (cdv : Value) (A : Around) (outer : List Env) (s : Shared) (H : Hp) (vs : List V) (Q : VK) (E : XK), Room k (A.deeper (envOfC qual (defScope st) s.heap.objs.size f cdv)) → sp vs H Q E →
      ∃ t, PSsT (cxOf CX0 P w K mg base N qual (defScope st) f cdv A outer s H E).nox (defBody st) t ∧ t { nx := fun _ H' => Q .non H', rt := Q } (start N vs) H) : FnOk P w K mg base CX0 (k + 1) f fd ps sp := by
  obtain ⟨oc, od, kV, doc, pm, an, cdv, ct, osl, e, look, code⟩ := F.ex
  subst e
  refine fn_ofT look code S noCell one len fun A outer s H vs Q E room q => ?_
  obtain ⟨t, rule, read⟩ := body cdv A outer s H vs Q E room q
  exact ⟨t, PSsT.nox rule, read⟩
/-! ### the letters that three signs allow -/
def alph : List Nat := (List.range 26).map (· + 97)
theorem str_al : Str.ofString "abcdefghijklmnopqrstuvwxyz" = tx alph := by decide +kernel
def knownL (l : List Nat) : List Nat := l.filter fun c => decide (c ≠ 63)
def comm (l : List Nat) : List Nat := match knownL l with
  | [] => alph
  | c :: r => if c :: r = List.replicate (r.length + 1) c then [c] else []
theorem repl_del (a : Nat) : ∀ l : List Nat, PySem.StrLaws.replL [a] [] l = l.filter fun c => decide (c ≠ a)
  | [] => by rw [PySem.StrLaws.replL_nil]; rfl
  | c :: r => by
    by_cases h : c = a
    · subst h
      rw [PySem.StrLaws.replL_hit (by simp) rfl]
      show [] ++ PySem.StrLaws.replL [c] [] r = _
      rw [List.nil_append, repl_del c r, List.filter_cons_of_neg (by simp)]
    · rw [PySem.StrLaws.replL_miss (by show ¬ [c] = [a]; exact fun z => h (List.cons.inj z).1), repl_del a r, List.filter_cons_of_pos (by simpa using h)]
theorem del_tx (a : Nat) (l : List Nat) : Txt.replace (tx l) (ch a) (tx []) = tx (l.filter fun c => decide (c ≠ a)) := by
  refine TL.ext_tl ?_
  show (Txt.replace (tx l) (ch a) (tx [])).cps.toList = _
  rw [PySem.StrLaws.replace_list (show 1 ≤ (ch a).length from Nat.le_refl _)]
  exact repl_del a l
def spComm : Sp := fun vs H Q _ => ∃ l : List Nat, vs = [vt l] ∧ l.length ≤ 100 ∧ Q (vt (comm l)) H
section
variable {P : Program} {w : World} {K : PySem.W.Frag} {mg : Str → Option Value} {base : Heap} {f : Addr} {fd : FuncData}
theorem ok_comm {k : Nat} {tL : Tok} (F : Fun K "common_letters" "common_letters" s_common_letters f fd) (M : Mgs mg) (mLET : mg "LETTERS" = some (.str "abcdefghijklmnopqrstuvwxyz" tL)) : FnOk P w K mg base CX0 (k + 1) f fd ["signs"] spComm := by
  refine Tw.Fun.okT F sc_common_letters (by decide +kernel) (by decide) (fun vs H Q E h => ?_) (fun cdv A outer s H vs Q E hr h => ?_)
  · obtain ⟨l, rfl, _⟩ := h
    rfl
  obtain ⟨l, rfl, hl, q⟩ := h
  refine ⟨_, (psst_cons (pst_setT (i := 1) sc_common_letters.nd rfl (.inl rfl) (CwR.pet_replC (pv 0)))
    (PSsT.of (pss_cons (ps_if (pt_cmpR op_eq (pv 1) pe_str (nomark _))
      (pss_one (ps_ret (pe_glob (v := .str _) rfl mLET ⟨_, rfl⟩))) pss_nil)
    (pss_one (ps_ret (pe_ifExp (pt_cmpR op_eq (pv 1) (pe_op op_timesS (pe_ix ix_str (pv 1) pe_int (fun _ _ => rfl)) (pe_callB call_len_str rfl M.len PySem.boot_len (pa_cons (pv 1) pa_nil))) (nomark _)) (pe_ix ix_str (pv 1) pe_int (fun _ _ => rfl)) pe_str)))))), ?_⟩
  refine ⟨_, rfl, tx l, rfl, ?_, ?_⟩
  · rw [str_0, tx_len]; show l.length + (l.length + 1) * 0 ≤ 16777216; omega
  rw [str_0, str_q, del_tx]
  show tSeq _ _ _ [_, some (vt (knownL l))] H
  have kl : (knownL l).length ≤ l.length := List.length_filter_le _ _
  unfold comm at q
  cases hk : knownL l with
  | nil =>
    rw [hk] at q
    have q : Q (vt alph) H := q
    refine ⟨_, rfl, rfl, _, rfl, iteS rfl ?_⟩
    show Q (V.str (Str.ofString "abcdefghijklmnopqrstuvwxyz")) H
    rw [str_al]
    exact q
  | cons c r =>
    rw [hk] at q kl
    have q : Q (vt (if c :: r = List.replicate (r.length + 1) c then [c] else [])) H := q
    have kl' : r.length + 1 ≤ l.length := kl
    refine ⟨_, rfl, rfl, _, rfl, iteR (fun z => List.cons_ne_nil _ _ (tx_inj z)) ?_⟩
    have lz : (tx (c :: r)).length ≤ sizeLine := small (by rw [tx_len, List.length_cons]; omega)
    refine ⟨_, rfl, _, rfl, _, _, _, rfl, rfl, lz, atI_nat (j := 0) rfl, _, rfl, _, rfl, lz, c, r.length + 1, rfl, rfl, by omega, by omega, rfl, _, rfl, ?_⟩
    by_cases h : c :: r = List.replicate (r.length + 1) c
    · rw [if_pos h] at q
      rw [decide_eq_true (show V.str (tx (c :: r)) = V.str (tx (List.replicate (r.length + 1) c)) from congrArg (fun z => V.str (tx z)) h)]
      exact iteT ⟨_, rfl, _, _, _, rfl, rfl, lz, atI_nat (j := 0) rfl, q⟩
    · rw [if_neg h] at q
      rw [decide_eq_false (fun z => h (tx_inj (V.str.inj z)))]
      exact iteF q
end
/-! ### allowed_splits -/
abbrev St4 := Nat × Nat × Nat × Nat
structure G3 where
  a : List Nat
  b : List Nat
  c : List Nat
abbrev Split := List Nat × St4 × St4
def stV (t : St4) : List V := [.int (t.1 : Int), .int (t.2.1 : Int), .int (t.2.2.1 : Int), .int (t.2.2.2 : Int)]
def leftS (t : St4) (s : Nat) : St4 := (s, t.2.1 + 1, t.2.2.1, t.2.2.2)
def rightS (t : St4) (s : Nat) : St4 := (t.1 - 1 - s, t.2.1 + 1 + s, t.2.2.1 + s + 1, t.2.2.2 + s)
def letS (G : G3) (t : St4) (s : Nat) : List Nat := comm [G.a.getD t.2.1 63, G.b.getD (t.2.2.1 + s) 63, G.c.getD (t.2.2.2 + t.1 - 1) 63]
def splAt (G : G3) (t : St4) (s : Nat) : List Split := if letS G t s = [] then [] else [(letS G t s, leftS t s, rightS t s)]
def spl (G : G3) (t : St4) : List Split := (List.range t.1).flatMap (splAt G t)
structure OkS (n : Nat) (t : St4) : Prop where
  i : t.2.1 + t.1 ≤ n
  j : t.2.2.1 + t.1 ≤ n
  k : t.2.2.2 + t.1 ≤ n
theorem OkS.left {n : Nat} {t : St4} (h : OkS n t) {s : Nat} (hs : s < t.1) : OkS n (leftS t s) := by
  obtain ⟨m, i, j, k⟩ := t
  obtain ⟨h1, h2, h3⟩ := h
  refine ⟨?_, ?_, ?_⟩ <;> simp only [leftS] at * <;> omega
theorem OkS.right {n : Nat} {t : St4} (h : OkS n t) {s : Nat} (hs : s < t.1) : OkS n (rightS t s) := by
  obtain ⟨m, i, j, k⟩ := t
  obtain ⟨h1, h2, h3⟩ := h
  refine ⟨?_, ?_, ?_⟩ <;> simp only [rightS] at * <;> omega
theorem spl_mem {G : G3} {t : St4} {x : Split} (h : x ∈ spl G t) : ∃ s, s < t.1 ∧ x.1 = letS G t s ∧ x.1 ≠ [] ∧ x.2.1 = leftS t s ∧ x.2.2 = rightS t s := by
  obtain ⟨s, hs, hx⟩ := List.mem_flatMap.mp h
  unfold splAt at hx
  split at hx
  · cases hx
  · next hn =>
    rw [List.mem_singleton.mp hx]
    exact ⟨s, List.mem_range.mp hs, rfl, hn, rfl, rfl⟩
theorem comm_len (l : List Nat) : (comm l).length ≤ 26 := by
  unfold comm
  split
  · decide
  · split
    · exact Nat.le_add_left _ _
    · exact Nat.zero_le _
inductive SpAt (H : Hp) : List V → List Split → Prop
  | nil : SpAt H [] []
  | cons {p l r : Addr} {x : Split} {us : List V} {xs : List Split} : H p = some (.tup [vt x.1, .ref l, .ref r]) → H l = some (.tup (stV x.2.1)) → H r = some (.tup (stV x.2.2)) → SpAt H us xs → SpAt H (.ref p :: us) (x :: xs)
theorem SpAt.keep {H H' : Hp} (k : KeepT H H') {us : List V} {xs : List Split} (h : SpAt H us xs) : SpAt H' us xs := by
  induction h with
  | nil => exact .nil
  | cons e1 e2 e3 _ ih => exact .cons (k _ _ e1) (k _ _ e2) (k _ _ e3) ih
theorem SpAt.app {H : Hp} {us vs : List V} {xs ys : List Split} (h : SpAt H us xs) (g : SpAt H vs ys) : SpAt H (us ++ vs) (xs ++ ys) := by
  induction h with
  | nil => exact g
  | cons e1 e2 e3 _ ih => exact .cons e1 e2 e3 ih
theorem SpAt.len {H : Hp} {us : List V} {xs : List Split} (h : SpAt H us xs) : us.length = xs.length := by
  induction h with
  | nil => rfl
  | cons _ _ _ _ ih => exact congrArg Nat.succ ih
theorem SpAt.get {H : Hp} {us : List V} {xs : List Split} (h : SpAt H us xs) : ∀ {i : Nat} {u : V}, us[i]? = some u → ∃ (p l r : Addr) (x : Split), u = .ref p ∧ xs[i]? = some x ∧ H p = some (.tup [vt x.1, .ref l, .ref r]) ∧ H l = some (.tup (stV x.2.1)) ∧ H r = some (.tup (stV x.2.2)) := by
  induction h with
  | nil => intro i u e; simp at e
  | cons e1 e2 e3 _ ih =>
    intro i u e
    match i, e with
    | 0, e => cases e; exact ⟨_, _, _, _, rfl, rfl, e1, e2, e3⟩
    | i + 1, e => exact ih e
theorem spl_len (G : G3) (t : St4) : ∀ s : Nat, ((List.range s).flatMap (splAt G t)).length ≤ s
  | 0 => Nat.le_refl _
  | s + 1 => by
    rw [List.range_succ, List.flatMap_append, List.length_append]
    have h := spl_len G t s
    have : ([s].flatMap (splAt G t)).length ≤ 1 := by
      show (splAt G t s ++ []).length ≤ 1
      rw [List.append_nil]
      unfold splAt
      split
      · exact Nat.zero_le _
      · exact Nat.le_refl _
    omega
theorem getD_at {l : List Nat} {i : Nat} (h : i < l.length) : atI l (i : Int) = some (l.getD i 63) := by
  rw [List.getD_eq_getElem?_getD, List.getElem?_eq_getElem h]
  exact atI_nat (List.getElem?_eq_getElem h)
def G3.tup (G : G3) : List V := [vt G.a, vt G.b, vt G.c]
structure G3.Ok (G : G3) (n : Nat) : Prop where
  a : G.a.length = n
  b : G.b.length = n
  c : G.c.length = n
  few : n ≤ 12
def spAllowed : Sp := fun vs H Q _ => ∃ (g t : Addr) (G : G3) (n : Nat) (st : St4), vs = [.ref g, .ref t] ∧ H g = some (.tup G.tup) ∧ G.Ok n ∧ H t = some (.tup (stV st)) ∧ OkS n st ∧
  ∀ (p : Addr) (us : List V) (H' : Hp), Same H H' → H p = none → H' p = some (.lst us) → SpAt H' us (spl G st) → Q (.ref p) H'
theorem same_none {H H' : Hp} (s : Same H H') {p : Addr} (h : H' p = none) : H p = none := by
  cases z : H p with
  | none => rfl
  | some o => rw [s _ _ z] at h; cases h
theorem same_put {H H' : Hp} (s : Same H H') {p : Addr} (h : H p = none) (o : HO) : Same H (upd H' p o) := fun b u e => by
  rw [upd_ne (fun z => by rw [z, h] at e; cases e)]
  exact s b u e
section
variable {P : Program} {w : World} {K : PySem.W.Frag} {mg : Str → Option Value} {base : Heap} {f : Addr} {fd : FuncData}
theorem ok_allowed (F : Fun K "allowed_splits" "allowed_splits" s_allowed_splits f fd) (M : Mgs mg) (Dcommon_letters : Df P w K mg base 1 "common_letters" ["signs"] spComm) : FnOk P w K mg base CX0 2 f fd ["given", "stretch"] spAllowed := by
  refine F.ok sc_allowed_splits (fun vs H Q E h => ?_) (fun cdv A outer s H vs Q E hr h => ?_)
  · obtain ⟨g, t, G, n, st, rfl, _⟩ := h
    rfl
  obtain ⟨g, t, G, n, ⟨m, i, j, k⟩, rfl, eg, gok, et, ⟨h1, h2, h3⟩, q⟩ := h
  have h1 : i + m ≤ n := h1
  have h2 : j + m ≤ n := h2
  have h3 : k + m ≤ n := h3
  have n12 := gok.few
  refine ⟨_, (pss_cons (ps_asg (pv 1) (pg_tup rfl (pgs_cons (pg_name (i := 2) sc_allowed_splits.nd rfl (.inl rfl)) (pgs_cons (pg_name (i := 3) sc_allowed_splits.nd rfl (.inl rfl)) (pgs_cons (pg_name (i := 4) sc_allowed_splits.nd rfl (.inl rfl)) (pgs_cons (pg_name (i := 5) sc_allowed_splits.nd rfl (.inl rfl)) pgs_nil))))))
    (pss_cons (ps_set (i := 6) sc_allowed_splits.nd rfl (.inl rfl) (pe_lst pa_nil))
    (pss_cons (ps_for PassesOwn.never rfl (pi_range1 rfl M.range (pa_cons (pv 2) pa_nil)) (pg_name (i := 7) sc_allowed_splits.nd rfl (.inl rfl))
      (pss_cons (ps_set (i := 8) sc_allowed_splits.nd rfl (.inl rfl) (pe_call Dcommon_letters.ok (hr.mono (by omega)) rfl Dcommon_letters.g Dcommon_letters.kp Dcommon_letters.b .nil pass0 (pa_cons (pe_op op_add_str (pe_op op_add_str (pe_ix ix_str (pe_ix ix_tup (pv 0) pe_int (fun _ _ => rfl)) (pv 3) (fun _ _ => rfl)) (pe_ix ix_str (pe_ix ix_tup (pv 0) pe_int (fun _ _ => rfl)) (pe_op op_add (pv 4) (pv 7)) (fun _ _ => rfl))) (pe_ix ix_str (pe_ix ix_tup (pv 0) pe_int (fun _ _ => rfl)) (pe_op op_sub (pe_op op_add (pv 5) (pv 2)) pe_int) (fun _ _ => rfl))) pa_nil)))
    (pss_one (ps_if (pt_truth (pv 8) (by intro _; rfl))
      (pss_cons (ps_set (i := 9) sc_allowed_splits.nd rfl (.inl rfl) (pe_tup (pa_cons (pv 7) (pa_cons (pe_op op_add (pv 3) pe_int) (pa_cons (pv 4) (pa_cons (pv 5) pa_nil))))))
    (pss_cons (ps_set (i := 10) sc_allowed_splits.nd rfl (.inl rfl) (pe_tup (pa_cons (pe_op op_sub (pe_op op_sub (pv 2) pe_int) (pv 7)) (pa_cons (pe_op op_add (pe_op op_add (pv 3) pe_int) (pv 7)) (pa_cons (pe_op op_add (pe_op op_add (pv 4) (pv 7)) pe_int) (pa_cons (pe_op op_add (pv 5) (pv 7)) pa_nil))))))
    (pss_one (ps_expr (pe_bm PySem.F.plainAttrs_list PySem.F.slot_list_append PySem.F.type_list_append mt_append (pv 6) (pa_cons (pe_tup (pa_cons (pv 8) (pa_cons (pv 9) (pa_cons (pv 10) pa_nil)))) pa_nil)))))) pss_nil))))
    (pss_one (ps_ret (pv 6)))))), ?_⟩
  refine ⟨_, rfl, t, _, rfl, SqT.of et, rfl, _, _, rfl, _, _, rfl, _, _, rfl, _, _, rfl, rfl, ?_⟩
  refine ⟨(by show 0 ≤ sizeLine; decide), fun L nL => ?_⟩
  have kL := same_new nL (.lst [])
  refine ⟨_, rfl, (m : Int), rfl, by omega, by omega, ?_⟩
  rw [Int.toNat_natCast]
  refine for_range (lo := 0) (n := m) (fun s σ H' => ∃ (o7 o8 o9 o10 : Option V) (us : List V), σ = [some (.ref g), some (.ref t), some (.int (m : Int)), some (.int (i : Int)), some (.int (j : Int)), some (.int (k : Int)), some (.ref L), o7, o8, o9, o10] ∧ Same H H' ∧ H' L = some (.lst us) ∧ SpAt H' us ((List.range s).flatMap (splAt G (m, i, j, k)))) ⟨_, _, _, _, [], rfl, kL, upd_same, .nil⟩ (fun s σ H1 hs hp => ?_) (fun σ H1 hp => ?_)
  · obtain ⟨o7, o8, o9, o10, us, rfl, sm, eL, sp⟩ := hp
    have eg1 := sm _ _ eg
    have hl : us.length ≤ 12 := by
      rw [sp.len]
      have := spl_len G (m, i, j, k) s
      omega
    have la : (tx G.a).length ≤ sizeLine := small (by rw [tx_len, gok.a]; omega)
    have lb : (tx G.b).length ≤ sizeLine := small (by rw [tx_len, gok.b]; omega)
    have lc : (tx G.c).length ≤ sizeLine := small (by rw [tx_len, gok.c]; omega)
    have ha : atI G.a (i : Int) = some (G.a.getD i 63) := getD_at (by rw [gok.a]; omega)
    have hb : atI G.b ((j : Int) + (0 + (s : Int))) = some (G.b.getD (j + s) 63) := by
      rw [show (j : Int) + (0 + (s : Int)) = ((j + s : Nat) : Int) by omega]
      exact getD_at (by rw [gok.b]; omega)
    have hc : atI G.c ((k : Int) + (m : Int) - 1) = some (G.c.getD (k + m - 1) 63) := by
      rw [show (k : Int) + (m : Int) - 1 = ((k + m - 1 : Nat) : Int) by omega]
      exact getD_at (by rw [gok.c]; omega)
    refine ⟨_, rfl, g, _, _, _, rfl, rfl, SqT.of eg1, atI_nat (j := 0) rfl, _, rfl, _, _, _, rfl, rfl, la, ha, ?_⟩
    refine ⟨_, rfl, g, _, _, _, rfl, rfl, SqT.of eg1, atI_nat (j := 1) rfl, _, rfl, _, rfl, _, _, rfl, rfl, _, _, _, rfl, rfl, lb, hb, tx [G.a.getD i 63], tx [G.b.getD (j + s) 63], rfl, rfl, small (by rw [tx_len, tx_len]; show 1 + 1 ≤ 1000; decide), ?_⟩
    rw [tx_app]
    refine ⟨_, rfl, g, _, _, _, rfl, rfl, SqT.of eg1, atI_nat (j := 2) rfl, _, rfl, _, rfl, _, _, rfl, rfl, _, _, rfl, rfl, _, _, _, rfl, rfl, lc, hc, _, tx [G.c.getD (k + m - 1) 63], rfl, rfl, small (by rw [tx_len, tx_len]; show 2 + 1 ≤ 1000; decide), ?_⟩
    rw [tx_app]
    refine ⟨[G.a.getD i 63, G.b.getD (j + s) 63, G.c.getD (k + m - 1) 63], rfl, (by show 3 ≤ 100; decide), ?_⟩
    show gName 8 (vt (letS G (m, i, j, k) s)) _ H1 _
    have cl := comm_len [G.a.getD i 63, G.b.getD (j + s) 63, G.c.getD (k + m - 1) 63]
    refine ⟨_, rfl, !(letS G (m, i, j, k) s).isEmpty, ⟨small (by rw [tx_len]; exact Nat.le_trans cl (by decide)), ?_⟩, ?_⟩
    · rw [tx_len]
      cases letS G (m, i, j, k) s with
      | nil => rfl
      | cons _ _ => exact (bne_iff_ne.mpr (by show ¬ (((_ + 1 : Nat) : Int) = 0); omega)).symm
    have hst : [s].flatMap (splAt G (m, i, j, k)) = splAt G (m, i, j, k) s := List.append_nil _
    cases hL : letS G (m, i, j, k) s with
    | nil =>
      refine iteF ?_
      refine ⟨_, _, _, _, us, rfl, sm, eL, ?_⟩
      rw [List.range_succ, List.flatMap_append, hst]
      unfold splAt
      rw [hL, if_pos rfl, List.append_nil]
      exact sp
    | cons c0 r0 =>
      refine iteT ?_
      refine ⟨_, rfl, _, rfl, _, _, rfl, rfl, _, rfl, _, rfl, (by show 4 ≤ sizeLine; decide), fun l nl => ?_⟩
      have vl : [V.int (0 + (s : Int)), .int ((i : Int) + 1), .int (j : Int), .int (k : Int)] = stV (leftS (m, i, j, k) s) := by
        simp [stV, leftS]
      have vr : [V.int ((m : Int) - 1 - (0 + (s : Int))), .int ((i : Int) + 1 + (0 + (s : Int))), .int ((j : Int) + (0 + (s : Int)) + 1), .int ((k : Int) + (0 + (s : Int)))] = stV (rightS (m, i, j, k) s) := by
        unfold stV rightS
        simp only [Int.zero_add]
        rw [show ((m - 1 - s : Nat) : Int) = (m : Int) - 1 - (s : Int) by omega]
        rfl
      have k1 := same_new nl (.tup (stV (leftS (m, i, j, k) s)))
      have el := upd_same (H := H1) (a := l) (o := .tup (stV (leftS (m, i, j, k) s)))
      have sm2 := sm.trans k1
      have eL2 := k1 _ _ eL
      have sp2 := sp.keep (Tw.Same.keepT k1)
      rw [← vl] at k1 el sm2 eL2 sp2
      refine ⟨_, rfl, _, _, rfl, rfl, _, rfl, _, _, rfl, rfl, _, rfl, _, _, rfl, rfl, _, rfl, _, _, rfl, rfl, _, rfl, _, rfl, _, _, rfl, rfl, _, _, rfl, rfl, _, rfl, _, rfl, _, _, rfl, rfl, (by show 4 ≤ sizeLine; decide), fun r nr => ?_⟩
      have k2 := same_new nr (.tup (stV (rightS (m, i, j, k) s)))
      have er := upd_same (H := upd H1 l (.tup [V.int (0 + (s : Int)), .int ((i : Int) + 1), .int (j : Int), .int (k : Int)])) (a := r) (o := .tup (stV (rightS (m, i, j, k) s)))
      rw [← vr] at k2 er
      have el := k2 _ _ el
      have sm3 := sm2.trans k2
      have eL3 := k2 _ _ eL2
      have sp3 := sp2.keep (Tw.Same.keepT k2)
      refine ⟨_, rfl, .inl ⟨rfl, _, SqL.of eL3⟩, _, rfl, _, rfl, _, rfl, (by show 3 ≤ sizeLine; decide), fun p np => ?_⟩
      have k3 := same_new np (.tup [vt (c0 :: r0), .ref l, .ref r])
      have ep := upd_same (H := upd (upd H1 l (.tup [V.int (0 + (s : Int)), .int ((i : Int) + 1), .int (j : Int), .int (k : Int)])) r (.tup [V.int ((m : Int) - 1 - (0 + (s : Int))), .int ((i : Int) + 1 + (0 + (s : Int))), .int ((j : Int) + (0 + (s : Int)) + 1), .int ((k : Int) + (0 + (s : Int)))])) (a := p) (o := .tup [vt (c0 :: r0), .ref l, .ref r])
      have el := k3 _ _ el
      have er := k3 _ _ er
      have sm4 := sm3.trans k3
      have eL4 := k3 _ _ eL3
      have sp4 := sp3.keep (Tw.Same.keepT k3)
      have el := el.trans (congrArg (fun z => some (HO.tup z)) vl)
      have er := er.trans (congrArg (fun z => some (HO.tup z)) vr)
      refine ⟨L, us, _, rfl, rfl, eL4, small1000 (by omega), _, _, _, _, us ++ [.ref p], rfl, same_put sm4 nL _, upd_same, ?_⟩
      rw [List.range_succ, List.flatMap_append, hst]
      have one : splAt G (m, i, j, k) s = [(c0 :: r0, leftS (m, i, j, k) s, rightS (m, i, j, k) s)] := by
        unfold splAt
        rw [hL, if_neg (List.cons_ne_nil _ _)]
      rw [one]
      refine (sp4.app (.cons ep el er .nil)).keep fun b xs e => ?_
      rw [upd_ne (fun z => by rw [z, eL4] at e; cases e)]
      exact e
  · obtain ⟨o7, o8, o9, o10, us, rfl, sm, eL, sp⟩ := hp
    exact ⟨_, rfl, q L us H1 sm nL eL sp⟩
end
/-! ### how many trees fit a stretch: cnt; add_counts, counts_of -/
def cntF (G : G3) : Nat → St4 → Nat
  | 0, _ => 0
  | f + 1, t => if t.1 = 0 then 1 else ((spl G t).map fun x => x.1.length * cntF G f x.2.1 * cntF G f x.2.2).sum
def cnt (G : G3) (t : St4) : Nat := cntF G (t.1 + 1) t
theorem spl_small {G : G3} {t : St4} {x : Split} (h : x ∈ spl G t) : x.2.1.1 + x.2.2.1 + 1 = t.1 := by
  obtain ⟨s, hs, _, _, e1, e2⟩ := spl_mem h
  rw [e1, e2]
  simp only [leftS, rightS]
  omega
theorem cntF_any (G : G3) : ∀ (f g : Nat) (t : St4), t.1 < f → t.1 < g → cntF G f t = cntF G g t
  | 0, _, _, h, _ => absurd h (Nat.not_lt_zero _)
  | _, 0, _, _, h => absurd h (Nat.not_lt_zero _)
  | f + 1, g + 1, t, h1, h2 => by
    show (if t.1 = 0 then 1 else _) = if t.1 = 0 then 1 else _
    split
    · rfl
    · refine congrArg List.sum (List.map_congr_left fun x hx => ?_)
      have := spl_small hx
      rw [cntF_any G f g x.2.1 (by omega) (by omega), cntF_any G f g x.2.2 (by omega) (by omega)]
def term (G : G3) (x : Split) : Nat := x.1.length * cnt G x.2.1 * cnt G x.2.2
theorem cnt_eq (G : G3) (t : St4) : cnt G t = if t.1 = 0 then 1 else ((spl G t).map (term G)).sum := by
  show (if t.1 = 0 then 1 else _) = _
  split
  · rfl
  · refine congrArg List.sum (List.map_congr_left fun x hx => ?_)
    have := spl_small hx
    unfold term cnt
    rw [cntF_any G t.1 (x.2.1.1 + 1) x.2.1 (by omega) (by omega), cntF_any G t.1 (x.2.2.1 + 1) x.2.2 (by omega) (by omega)]
theorem sum_bound {m : Nat} : ∀ l : List Nat, (∀ x ∈ l, x ≤ m) → l.sum ≤ l.length * m
  | [], _ => Nat.zero_le _
  | x :: l, h => by
    have h1 := h x List.mem_cons_self
    have h2 := sum_bound l fun y hy => h y (List.mem_cons_of_mem _ hy)
    rw [List.sum_cons, List.length_cons, Nat.add_mul]
    omega
theorem cnt_le (G : G3) : ∀ (m : Nat) (t : St4), t.1 = m → m ≤ 12 → cnt G t ≤ 312 ^ m := by
  intro m
  induction m using Nat.strongRecOn with
  | ind m ih =>
    intro t ht h12
    rw [cnt_eq]
    split
    · exact Nat.pos_of_ne_zero (by simp)
    · next h0 =>
      have lt := spl_len G t t.1
      have b := sum_bound (m := 26 * 312 ^ (m - 1)) ((spl G t).map (term G)) fun y hy => by
        obtain ⟨x, hx, rfl⟩ := List.mem_map.mp hy
        have sm := spl_small hx
        obtain ⟨s, _, e1, _⟩ := spl_mem hx
        have c1 := ih x.2.1.1 (by omega) x.2.1 rfl (by omega)
        have c2 := ih x.2.2.1 (by omega) x.2.2 rfl (by omega)
        have c0 : x.1.length ≤ 26 := by rw [e1]; exact comm_len _
        have e : 312 ^ x.2.1.1 * 312 ^ x.2.2.1 = 312 ^ (m - 1) := by rw [← Nat.pow_add]; congr 1; omega
        unfold term
        rw [Nat.mul_assoc, ← e]
        exact Nat.mul_le_mul c0 (Nat.mul_le_mul c1 c2)
      rw [List.length_map] at b
      have e : 312 ^ m = 12 * (26 * 312 ^ (m - 1)) := by
        obtain ⟨k, rfl⟩ : ∃ k, m = k + 1 := ⟨m - 1, by omega⟩
        rw [Nat.add_sub_cancel, Nat.pow_succ]
        omega
      rw [e]
      exact Nat.le_trans b (Nat.mul_le_mul_right _ (Nat.le_trans lt (by omega)))
theorem cnt_small (G : G3) {t : St4} (h : t.1 ≤ 5) : cnt G t < 2 ^ 42 := by
  have := cnt_le G t.1 t rfl (by omega)
  have h2 : 312 ^ t.1 ≤ 312 ^ 5 := Nat.pow_le_pow_right (by decide) h
  exact Nat.lt_of_le_of_lt (Nat.le_trans this h2) (by decide)
theorem mul_ok {a x y : Nat} (ha : a ≤ 26) (h : x < 2 ^ 42 ∨ y < 2 ^ 42) : CMul ((a : Int) * (x : Int)) (y : Int) := by
  rcases h with h | h
  · refine .inl ⟨?_, ?_⟩
    · have : (0 : Int) ≤ (a : Int) * (x : Int) := Int.mul_nonneg (by omega) (by omega)
      omega
    · have h1 : a * x ≤ 26 * x := Nat.mul_le_mul_right _ ha
      have h2 : ((a * x : Nat) : Int) = (a : Int) * (x : Int) := by rw [Int.natCast_mul]
      rw [← h2]
      omega
  · exact .inr ⟨by omega, by omega⟩
/-! the dict of counts -/
def keyS (t : St4) : List Key := [.inl (t.1 : Int), .inl (t.2.1 : Int), .inl (t.2.2.1 : Int), .inl (t.2.2.2 : Int)]
theorem key_vals (t : St4) : (keyS t).map kV = stV t := rfl
theorem key_inj {t u : St4} (h : keyS t = keyS u) : t = u := by
  obtain ⟨m, i, j, k⟩ := t
  obtain ⟨m', i', j', k'⟩ := u
  simp only [keyS, List.cons.injEq, Sum.inl.injEq, and_true] at h
  obtain ⟨h1, h2, h3, h4⟩ := h
  have e1 : m = m' := by omega
  have e2 : i = i' := by omega
  have e3 : j = j' := by omega
  have e4 : k = k' := by omega
  rw [e1, e2, e3, e4]
abbrev Kvs := List (List Key × V)
structure Tab (G : G3) (n : Nat) (kvs : Kvs) : Prop where
  all : ∀ p ∈ kvs, ∃ t, OkS n t ∧ p = (keyS t, V.int (cnt G t : Int))
  nd : (kvs.map (·.1)).Nodup
  cl : ∀ (t : St4) (v : V), (keyS t, v) ∈ kvs → ∀ x ∈ spl G t, (keyS x.2.1, V.int (cnt G x.2.1 : Int)) ∈ kvs ∧ (keyS x.2.2, V.int (cnt G x.2.2 : Int)) ∈ kvs
theorem val_of {kvs : Kvs} (nd : (kvs.map (·.1)).Nodup) {k : List Key} {v : V} (h : (k, v) ∈ kvs) : valV kvs k = some v := by
  induction kvs with
  | nil => cases h
  | cons p kvs ih =>
    obtain ⟨h1, h2⟩ := List.nodup_cons.mp (show (p.1 :: kvs.map (·.1)).Nodup from nd)
    rcases List.mem_cons.mp h with e | e
    · subst e
      exact valV_pos rfl
    · rw [valV_neg (fun z => h1 (List.mem_map.mpr ⟨_, e, z.symm⟩))]
      exact ih h2 e
theorem val_some {kvs : Kvs} {k : List Key} {v : V} (h : valV kvs k = some v) : (k, v) ∈ kvs := by
  unfold valV at h
  obtain ⟨p, hp, e⟩ := Option.map_eq_some_iff.mp h
  have h1 := List.mem_of_find?_eq_some hp
  have h2 := List.find?_some hp
  have e1 : p.1 = k := of_decide_eq_true h2
  rw [← e1, ← e]
  exact h1
theorem Tab.get {G : G3} {n : Nat} {kvs : Kvs} (T : Tab G n kvs) {t : St4} {v : V} (h : (keyS t, v) ∈ kvs) : v = .int (cnt G t : Int) := by
  obtain ⟨u, _, e⟩ := T.all _ h
  have e1 := congrArg Prod.fst e
  have e2 := congrArg Prod.snd e
  have : t = u := key_inj e1
  subst this
  exact e2
theorem Tab.val {G : G3} {n : Nat} {kvs : Kvs} (T : Tab G n kvs) {t : St4} (h : (keyS t, V.int (cnt G t : Int)) ∈ kvs) : valV kvs (keyS t) = some (.int (cnt G t : Int)) := val_of T.nd h
/-- a key's code, below 13^4 -/
def code (k : List Key) : Nat := match k with
  | [.inl m, .inl i, .inl j, .inl l] => ((m.toNat * 13 + i.toNat) * 13 + j.toNat) * 13 + l.toNat
  | _ => 0
theorem code_lt {n : Nat} {t : St4} (h : OkS n t) (h12 : n ≤ 12) : code (keyS t) < 28561 := by
  obtain ⟨m, i, j, k⟩ := t
  obtain ⟨h1, h2, h3⟩ := h
  simp only at h1 h2 h3
  show ((((m : Int).toNat * 13 + (i : Int).toNat) * 13 + (j : Int).toNat) * 13 + (k : Int).toNat) < 28561
  simp only [Int.toNat_natCast]
  omega
theorem code_inj {n : Nat} {t u : St4} (h : OkS n t) (g : OkS n u) (h12 : n ≤ 12) (e : code (keyS t) = code (keyS u)) : t = u := by
  obtain ⟨m, i, j, k⟩ := t
  obtain ⟨m', i', j', k'⟩ := u
  obtain ⟨h1, h2, h3⟩ := h
  obtain ⟨g1, g2, g3⟩ := g
  simp only at h1 h2 h3 g1 g2 g3
  have e : ((((m : Int).toNat * 13 + (i : Int).toNat) * 13 + (j : Int).toNat) * 13 + (k : Int).toNat) = ((((m' : Int).toNat * 13 + (i' : Int).toNat) * 13 + (j' : Int).toNat) * 13 + (k' : Int).toNat) := e
  simp only [Int.toNat_natCast] at e
  have e1 : m = m' := by omega
  have e2 : i = i' := by omega
  have e3 : j = j' := by omega
  have e4 : k = k' := by omega
  rw [e1, e2, e3, e4]
theorem nodup_le {α : Type} [DecidableEq α] : ∀ {l m : List α}, l.Nodup → (∀ x ∈ l, x ∈ m) → l.length ≤ m.length
  | [], m, _, _ => Nat.zero_le _
  | x :: l, m, nd, h => by
    obtain ⟨n1, n2⟩ := List.nodup_cons.mp nd
    have hx := h x List.mem_cons_self
    have := nodup_le (l := l) (m := m.erase x) n2 fun y hy => (List.mem_erase_of_ne (fun z : y = x => n1 (z ▸ hy))).mpr (h y (List.mem_cons_of_mem _ hy))
    rw [List.length_erase_of_mem hx] at this
    have : 0 < m.length := List.length_pos_of_mem hx
    rw [List.length_cons]
    omega
theorem Tab.len {G : G3} {n : Nat} {kvs : Kvs} (T : Tab G n kvs) (h12 : n ≤ 12) : kvs.length ≤ 28561 := by
  have nd : ((kvs.map (·.1)).map code).Nodup := by
    have nd := T.nd
    have all : ∀ k ∈ kvs.map (·.1), ∃ t, OkS n t ∧ k = keyS t := fun k hk => by
      obtain ⟨p, hp, rfl⟩ := List.mem_map.mp hk
      obtain ⟨t, ok, e⟩ := T.all p hp
      exact ⟨t, ok, by rw [e]⟩
    generalize kvs.map (·.1) = ks at nd all
    induction ks with
    | nil => exact List.nodup_nil
    | cons k ks ih =>
      obtain ⟨h1, h2⟩ := List.nodup_cons.mp nd
      refine List.nodup_cons.mpr ⟨fun hm => ?_, ih h2 fun x hx => all x (List.mem_cons_of_mem _ hx)⟩
      obtain ⟨k', hk', e⟩ := List.mem_map.mp hm
      obtain ⟨t, ok, rfl⟩ := all k List.mem_cons_self
      obtain ⟨u, ok', rfl⟩ := all k' (List.mem_cons_of_mem _ hk')
      have : u = t := code_inj ok' ok h12 e
      subst this
      exact h1 hk'
  have := nodup_le (m := List.range 28561) nd fun x hx => by
    obtain ⟨k, hk, rfl⟩ := List.mem_map.mp hx
    obtain ⟨p, hp, rfl⟩ := List.mem_map.mp hk
    obtain ⟨t, ok, e⟩ := T.all p hp
    rw [e]
    exact List.mem_range.mpr (code_lt ok h12)
  rw [List.length_map, List.length_map, List.length_range] at this
  exact this
theorem Tab.put {G : G3} {n : Nat} {kvs : Kvs} (T : Tab G n kvs) {t : St4} (ok : OkS n t) (hc : ∀ x ∈ spl G t, (keyS x.2.1, V.int (cnt G x.2.1 : Int)) ∈ kvs ∧ (keyS x.2.2, V.int (cnt G x.2.2 : Int)) ∈ kvs) :
    Tab G n (putK kvs (keyS t) (.int (cnt G t : Int))) ∧ (∀ p ∈ kvs, p ∈ putK kvs (keyS t) (.int (cnt G t : Int))) ∧ (keyS t, V.int (cnt G t : Int)) ∈ putK kvs (keyS t) (.int (cnt G t : Int)) := by
  cases h : valV kvs (keyS t) with
  | none =>
    rw [putK_new _ h]
    refine ⟨⟨fun p hp => ?_, ?_, fun u v hu x hx => ?_⟩, fun p hp => List.mem_append_left _ hp, List.mem_append_right _ List.mem_cons_self⟩
    · rcases List.mem_append.mp hp with hp | hp
      · exact T.all p hp
      · rw [List.mem_singleton.mp hp]
        exact ⟨t, ok, rfl⟩
    · rw [List.map_append]
      refine List.nodup_append.mpr ⟨T.nd, List.nodup_cons.mpr ⟨by simp, List.nodup_nil⟩, fun a ha b hb => ?_⟩
      rw [List.mem_singleton.mp hb]
      rintro rfl
      obtain ⟨p, hp, e⟩ := List.mem_map.mp ha
      have e : p.1 = keyS t := e
      have : valV kvs (keyS t) = some p.2 := val_of T.nd (by rw [← e]; exact hp)
      rw [h] at this
      cases this
    · rcases List.mem_append.mp hu with hu | hu
      · obtain ⟨a, b⟩ := T.cl u v hu x hx
        exact ⟨List.mem_append_left _ a, List.mem_append_left _ b⟩
      · have e := congrArg Prod.fst (List.mem_singleton.mp hu)
        have : u = t := key_inj e
        subst this
        obtain ⟨a, b⟩ := hc x hx
        exact ⟨List.mem_append_left _ a, List.mem_append_left _ b⟩
  | some v =>
    have hm := val_some h
    have ev := T.get hm
    subst ev
    have e : putK kvs (keyS t) (.int (cnt G t : Int)) = kvs := by
      unfold putK
      rw [valV_any, h, if_pos (show (some (V.int (cnt G t : Int))).isSome = true from rfl)]
      have : ∀ kv ∈ kvs, (fun kv : List Key × V => if kv.1 = keyS t then (kv.1, V.int (cnt G t : Int)) else kv) kv = kv := fun kv hkv => by
        show (if kv.1 = keyS t then (kv.1, V.int (cnt G t : Int)) else kv) = kv
        split
        · next e1 =>
          have : valV kvs kv.1 = some kv.2 := val_of T.nd hkv
          rw [e1, h] at this
          rw [Option.some.inj this]
        · rfl
      rw [List.map_congr_left this]
      exact List.map_id' kvs
    rw [e]
    exact ⟨T, fun p hp => hp, hm⟩
theorem seq_cut {t u : TS} {D : Ends} {σ : L2.St} {H : Hp} (I : L2.St → Hp → Prop) (h2 : ∀ σ' H', I σ' H' → u D σ' H') (h1 : (∀ σ' H', I σ' H' → u D σ' H') → t { D with nx := u D } σ H) : tSeq t u D σ H := h1 h2
theorem seq_cutN {t u : TS} {D : Ends} {r1 : VK} {r2 r3 : L2.St → Hp → Prop} {σ : L2.St} {H : Hp} (I : L2.St → Hp → Prop) (h2 : ∀ σ' H', I σ' H' → u D σ' H') (h1 : (∀ σ' H', I σ' H' → u D σ' H') → t { D with nx := u D } σ H) : (Ends.mk (tSeq t u D) r1 r2 r3).nx σ H := h1 h2
theorem small1000' {n : Nat} (h : n ≤ 28561) : n < sizeLine := Nat.lt_of_le_of_lt h (by decide)
/-- all stands still but the dict at d -/
def SameB (d : Addr) (H H' : Hp) : Prop := ∀ b o, b ≠ d → H b = some o → H' b = some o
theorem SameB.trans {d : Addr} {H H1 H2 : Hp} (a : SameB d H H1) (b : SameB d H1 H2) : SameB d H H2 := fun c o h e => b c o h (a c o h e)
theorem SameB.of {d : Addr} {H H' : Hp} (h : Same H H') : SameB d H H' := fun b o _ e => h b o e
theorem SameB.tup {d : Addr} {H H' : Hp} {kvs : Kvs} (s : SameB d H H') (hd : H d = some (.dT kvs)) {b : Addr} {xs : List V} (e : H b = some (.tup xs)) : H' b = some (.tup xs) := s b _ (fun z => by rw [z, hd] at e; cases e) e
theorem SameB.keepT {d : Addr} {H H' : Hp} {kvs : Kvs} (s : SameB d H H') (hd : H d = some (.dT kvs)) : KeepT H H' := fun b xs e => s.tup hd e
def spAdd (N : Nat) : Sp := fun vs H Q _ => ∃ (g t d : Addr) (G : G3) (n : Nat) (st : St4) (kvs : Kvs), vs = [.ref g, .ref t, .ref d] ∧ H g = some (.tup G.tup) ∧ G.Ok n ∧ H t = some (.tup (stV st)) ∧ OkS n st ∧ st.1 < N ∧ H d = some (.dT kvs) ∧ Tab G n kvs ∧
  ∀ (kvs' : Kvs) (H' : Hp), SameB d H H' → H' d = some (.dT kvs') → Tab G n kvs' → (∀ p ∈ kvs, p ∈ kvs') → (keyS st, V.int (cnt G st : Int)) ∈ kvs' → Q .non H'
section
variable {P : Program} {w : World} {K : PySem.W.Frag} {mg : Str → Option Value} {base : Heap} {f : Addr} {fd : FuncData}
theorem ok_add (F : Fun K "add_counts" "add_counts" s_add_counts f fd) (M : Mgs mg) (b : Binds K fd ["given", "stretch", "counts"] []) (g : mg "add_counts" = some (.ref f)) (Dallowed_splits : Df P w K mg base 2 "allowed_splits" ["given", "stretch"] spAllowed) : ∀ N : Nat, FnOk P w K mg base CX0 (2 + N) f fd ["given", "stretch", "counts"] (spAdd N)
  | 0 => by
    have no : ∀ vs H Q E, ¬ spAdd 0 vs H Q E := fun vs H Q E h => by
      obtain ⟨g, t, d, G, n, st, kvs, _, _, _, _, _, h1, _⟩ := h
      omega
    exact ⟨fun vs H Q E h => absurd h (no vs H Q E), fun A outer s H args us vs Q E _ _ _ _ h => absurd h (no vs H Q E)⟩
  | N + 1 => by
    have Dself : Df P w K mg base (2 + N) "add_counts" ["given", "stretch", "counts"] (spAdd N) := ⟨f, fd, ok_add F M b g Dallowed_splits N, b, F.kp, g⟩
    refine F.ok (k := 2 + N) sc_add_counts (fun vs H Q E h => ?_) (fun cdv A outer s H vs Q E hr h => ?_)
    · obtain ⟨g, t, d, G, n, st, kvs, rfl, _⟩ := h
      rfl
    obtain ⟨g, t, d, G, n, st, kvs, rfl, eg, gok, et, ok, hN, ed, T, q⟩ := h
    have n12 := gok.few
    refine ⟨_, (pss_cons (ps_if (pt_cmp (pc_din (Nat.lt_of_le_of_lt (Nat.add_le_add_left (by decide) _) hr.units) (pv 1) (pv 2)))
      (pss_one ps_retN) pss_nil)
    (pss_cons (ps_set (i := 3) sc_add_counts.nd rfl (.inl rfl) (pe_ifExp (pt_cmpR op_eq (pe_ix ix_tup (pv 1) pe_int (fun _ _ => rfl)) pe_int (nomark _)) pe_int pe_int))
    (pss_cons (ps_for PassesOwn.never rfl (pi_list (pe_call Dallowed_splits.ok (hr.mono (by omega)) rfl Dallowed_splits.g Dallowed_splits.kp Dallowed_splits.b .nil pass0 (pa_cons (pv 0) (pa_cons (pv 1) pa_nil)))) (pg_tup rfl (pgs_cons (pg_name (i := 4) sc_add_counts.nd rfl (.inl rfl)) (pgs_cons (pg_name (i := 5) sc_add_counts.nd rfl (.inl rfl)) (pgs_cons (pg_name (i := 6) sc_add_counts.nd rfl (.inl rfl)) pgs_nil))))
      (pss_cons (ps_expr (pe_call Dself.ok (hr.mono (by omega)) rfl Dself.g Dself.kp Dself.b .nil pass0 (pa_cons (pv 0) (pa_cons (pv 5) (pa_cons (pv 2) pa_nil)))))
    (pss_cons (ps_expr (pe_call Dself.ok (hr.mono (by omega)) rfl Dself.g Dself.kp Dself.b .nil pass0 (pa_cons (pv 0) (pa_cons (pv 6) (pa_cons (pv 2) pa_nil)))))
    (pss_one (ps_aug (i := 3) sc_add_counts.nd rfl (.inl rfl) (pe_op op_mul (pe_op op_mul (pe_callB call_len_str rfl M.len PySem.boot_len (pa_cons (pv 4) pa_nil)) (pe_dget (Nat.lt_of_le_of_lt (Nat.add_le_add_left (by decide) _) hr.units) (pv 2) (pv 5) (fun _ _ => rfl))) (pe_dget (Nat.lt_of_le_of_lt (Nat.add_le_add_left (by decide) _) hr.units) (pv 2) (pv 6) (fun _ _ => rfl))) ip_add)))))
    (pss_one (ps_dput (Nat.lt_of_le_of_lt (Nat.add_le_add_left (by decide) _) hr.units) (pv 2) (pv 1) (pv 3) rfl))))), ?_⟩
    refine ⟨_, rfl, _, rfl, d, valV kvs (keyS st), rfl, .inr ⟨kvs, keyS st, t, .inl ed, rfl, et, rfl⟩, _, rfl, ?_⟩
    cases hv : valV kvs (keyS st) with
    | some v =>
      refine iteT ?_
      have hm := val_some hv
      have ev := T.get hm
      subst ev
      exact q kvs H (fun b o _ e => e) ed T (fun p hp => hp) hm
    | none =>
      refine iteF ?_
      refine seq_cutN (fun σ H' => σ = [some (.ref g), some (.ref t), some (.ref d), some (.int ((if st.1 = 0 then 1 else 0 : Nat) : Int)), none, none, none] ∧ H' = H) (fun σ H1 hp => ?_) (fun fin => ?_)
      · obtain ⟨rfl, rfl⟩ := hp
        refine ⟨_, rfl, _, rfl, g, t, G, n, st, rfl, eg, gok, et, ok, fun p us H2 s2 np ep sp => ?_⟩
        refine ⟨p, rfl, ⟨_, SqL.of ep⟩, ?_⟩
        have npd : p ≠ d := fun z => by rw [z, ed] at np; cases np
        refine for_list (K := K) (a := p) (xs := us) (fun x σ H' => ∃ (o4 o5 o6 : Option V) (kv' : Kvs), σ = [some (.ref g), some (.ref t), some (.ref d), some (.int (((if st.1 = 0 then 1 else 0) + (((spl G st).take x).map (term G)).sum : Nat) : Int)), o4, o5, o6] ∧ SameB d H2 H' ∧ H' d = some (.dT kv') ∧ Tab G n kv' ∧ (∀ p ∈ kvs, p ∈ kv') ∧ ∀ y ∈ (spl G st).take x, (keyS y.2.1, V.int (cnt G y.2.1 : Int)) ∈ kv' ∧ (keyS y.2.2, V.int (cnt G y.2.2 : Int)) ∈ kv')
          ⟨_, _, _, kvs, rfl, fun b o _ e => e, s2 _ _ ed, T, fun p hp => hp, fun y hy => nomatch hy⟩ (fun x σ H' _ hp => by obtain ⟨_, _, _, _, _, s3, _⟩ := hp; exact SqL.of (s3 _ _ npd ep)) (fun x u σ H' hx hp => ?_) (fun σ H' hp => ?_)
        · obtain ⟨o4, o5, o6, kv', rfl, s3, ed3, T3, sup3, cl3⟩ := hp
          obtain ⟨pp, l, r, xx, rfl, exx, e1, e2, e3⟩ := sp.get hx
          have ed2 := s2 _ _ ed
          have e1' := s3.tup ed2 e1
          have e2' := s3.tup ed2 e2
          have e3' := s3.tup ed2 e3
          have eg' := s3.tup ed2 (s2 _ _ eg)
          have hm := List.mem_of_getElem? exx
          have sm := spl_small hm
          obtain ⟨sx, hsx, q1, q2, q3, q4⟩ := spl_mem hm
          have okl : OkS n xx.2.1 := by rw [q3]; exact ok.left hsx
          have okr : OkS n xx.2.2 := by rw [q4]; exact ok.right hsx
          refine ⟨pp, _, rfl, SqT.of e1', rfl, _, _, rfl, _, _, rfl, _, _, rfl, rfl, ?_⟩
          refine ⟨_, rfl, _, rfl, _, rfl, g, l, d, G, n, xx.2.1, kv', rfl, eg', gok, e2', okl, by omega, ed3, T3, fun kv4 H4 s4 ed4 T4 sup4 m4 => ?_⟩
          have eg4 := s4.tup ed3 eg'
          have e24 := s4.tup ed3 e2'
          have e34 := s4.tup ed3 e3'
          refine ⟨_, rfl, _, rfl, _, rfl, g, r, d, G, n, xx.2.2, kv4, rfl, eg4, gok, e34, okr, by omega, ed4, T4, fun kv5 H5 s5 ed5 T5 sup5 m5 => ?_⟩
          have e25 := s5.tup ed4 e24
          have e35 := s5.tup ed4 e34
          have g1 : DGet H5 d (.ref l) (some (.int (cnt G xx.2.1 : Int))) := .inr ⟨kv5, keyS xx.2.1, l, .inl ed5, rfl, e25, (T5.val (sup5 _ m4)).symm⟩
          have g2 : DGet H5 d (.ref r) (some (.int (cnt G xx.2.2 : Int))) := .inr ⟨kv5, keyS xx.2.2, r, .inl ed5, rfl, e35, (T5.val m5).symm⟩
          have nx : spl G st ≠ [] := fun z => by rw [z] at hm; cases hm
          have st12 : st.1 ≤ 12 := by have := ok.i; omega
          have l26 : xx.1.length ≤ 26 := by rw [q1]; exact comm_len _
          refine ⟨_, rfl, _, rfl, _, rfl, small (by rw [tx_len]; omega), _, rfl, _, rfl, d, _, rfl, g1, _, _, rfl, rfl, .inl ⟨by rw [tx_len]; omega, by rw [tx_len]; omega⟩, _, rfl, _, rfl, d, _, rfl, g2, _, _, rfl, rfl, ?_, ?_⟩
          · rw [tx_len]
            refine mul_ok l26 ?_
            rcases (show xx.2.1.1 ≤ 5 ∨ xx.2.2.1 ≤ 5 by omega) with z | z
            · exact .inl (cnt_small G z)
            · exact .inr (cnt_small G z)
          have e : (((if st.1 = 0 then 1 else 0) + (((spl G st).take x).map (term G)).sum : Nat) : Int) + ((tx xx.1).length : Int) * (cnt G xx.2.1 : Int) * (cnt G xx.2.2 : Int) = (((if st.1 = 0 then 1 else 0) + (((spl G st).take (x + 1)).map (term G)).sum : Nat) : Int) := by
            rw [take_next exx, List.map_append, List.sum_append, tx_len, show ([xx].map (term G)).sum = xx.1.length * cnt G xx.2.1 * cnt G xx.2.2 from Nat.add_zero _]
            generalize (if st.1 = 0 then 1 else 0 : Nat) = z0
            rw [← Int.natCast_mul, ← Int.natCast_mul]
            omega
          refine ⟨_, _, rfl, rfl, some (vt xx.1), some (.ref l), some (.ref r), kv5, ?_, s3.trans (s4.trans s5), ed5, T5, fun p hp => sup5 p (sup4 p (sup3 p hp)), fun y hy => ?_⟩
          rotate_left
          · rw [take_next exx] at hy
            rcases List.mem_append.mp hy with hy | hy
            · obtain ⟨a, b⟩ := cl3 y hy
              exact ⟨sup5 _ (sup4 _ a), sup5 _ (sup4 _ b)⟩
            · rw [List.mem_singleton.mp hy]
              exact ⟨sup5 _ m4, m5⟩
          exact congrArg (fun z => [some (.ref g), some (.ref t), some (.ref d), some (V.int z), some (vt xx.1), some (.ref l), some (.ref r)]) e
        · obtain ⟨o4, o5, o6, kv', rfl, s3, ed3, T3, sup3, cl3⟩ := hp
          have et3 := s3.tup (s2 _ _ ed) (s2 _ _ et)
          have ll := sp.len
          rw [ll, List.take_length] at cl3 ⊢
          have e : ((if st.1 = 0 then 1 else 0) + ((spl G st).map (term G)).sum : Nat) = cnt G st := by
            rw [cnt_eq]
            by_cases z : st.1 = 0
            · rw [if_pos z, if_pos z]
              have : spl G st = [] := by unfold spl; rw [z]; rfl
              rw [this]
              rfl
            · rw [if_neg z, if_neg z, Nat.zero_add]
          rw [e]
          obtain ⟨T4, sup4, m4⟩ := T3.put ok cl3
          refine ⟨_, rfl, _, rfl, _, rfl, d, _, rfl, .inr ⟨kv', keyS st, t, ed3, rfl, et3, small1000' (T3.len n12), rfl⟩, ?_⟩
          exact q _ _ (fun b o hb e => by rw [upd_ne hb]; exact s3 b o hb (s2 _ _ e)) upd_same T4 (fun p hp => sup4 p (sup3 p hp)) m4
      · refine ⟨_, rfl, t, _, _, _, rfl, rfl, SqT.of et, atI_nat (j := 0) rfl, rfl, _, rfl, ?_⟩
        by_cases z : st.1 = 0
        · rw [decide_eq_true (show V.int (st.1 : Int) = V.int 0 by rw [z]; rfl)]
          refine iteT (fin _ _ ⟨?_, rfl⟩)
          rw [if_pos z]
          rfl
        · rw [decide_eq_false (show ¬ V.int (st.1 : Int) = V.int 0 from fun e => z (by have := V.int.inj e; omega))]
          refine iteF (fin _ _ ⟨?_, rfl⟩)
          rw [if_neg z]
          rfl
end
/-! ### whole_of, counts_of, count_trees -/
/-- f(k = v, ..), no values before -/
def tCallKw0 (m : Nat) (sp : List V → List V → Hp → VK → Prop) (tk : TA) : TE := fun σ H Q => tk σ H fun zs H2 => zs.length = m ∧ sp [] zs H2 Q
theorem pe_callKw0 {X : Cx} {k : Nat} {f : Addr} {ks : List Str} {sp : List V → List V → Hp → VK → Prop} {x : Str} {p pos : Pos} {kws : List Keyword} {tk : TA} (F : FnKw X.prog X.w X.K X.mg X.base k f 0 ks sp) (room : Room k X.A) (isG : Gl X x) (at0 : X.mg x = some (.ref f)) (kp : PySem.W.keepIn X.K (.ref f) = true)
    (kargs : PK X kws tk) (all : (backToKw pos (keywordEach kws X.env)).all (·.1.isSome) = true := by rfl) (names : (backToKw pos (keywordEach kws X.env)).filterMap (·.1) = ks := by rfl)
    (nd : (x == ("__debug__" : Str)) = false := by decide) (plain : ((backTo pos (starEach [] X.env)).any (·.1) || (backToKw pos (keywordEach kws X.env)).any (·.1.isNone)) = false := by rfl) :
    PE X (.Call (.Name x p) [] kws pos) (tCallKw0 ks.length sp tk) := by
  refine ⟨fun pins s σ H Q I h => wpAny_Call_Name_kw (ld_glob I isG at0 ?_ nd)⟩
  refine PySem.W.callWith_KW0 (h₀ := X.base) I.ok.mod.kin kp all ?_ plain
  refine thn (kargs.run pos pins s σ H _ I h) fun ws z ⟨zs, G, J, rz, lz, q⟩ => ⟨J.kIn, ?_⟩
  rw [names]
  refine wpAny_call (codeAny_mono (F X.A X.stack z G [] ws [] zs Q room J.env0 .nil rfl rz lz q) fun r z' hq => ?_)
  match r, hq with
  | .ok (.ret u), hq => exact J.after hq
abbrev wholeS (n : Nat) : St4 := (n, 0, 0, 0)
theorem whole_ok (n : Nat) : OkS n (wholeS n) := ⟨Nat.le_of_eq (Nat.zero_add n), Nat.le_of_eq (Nat.zero_add n), Nat.le_of_eq (Nat.zero_add n)⟩
def spWhole : Sp := fun vs H Q _ => ∃ (g : Addr) (G : G3) (n : Nat), vs = [.ref g] ∧ H g = some (.tup G.tup) ∧ G.Ok n ∧ ∀ (t : Addr) (H' : Hp), Same H H' → H' t = some (.tup (stV (wholeS n))) → Q (.ref t) H'
def spCounts : Sp := fun vs H Q _ => ∃ (g : Addr) (G : G3) (n : Nat), vs = [.ref g] ∧ H g = some (.tup G.tup) ∧ G.Ok n ∧
  ∀ (d : Addr) (kvs : Kvs) (H' : Hp), Same H H' → H d = none → H' d = some (.dT kvs) → Tab G n kvs → (keyS (wholeS n), V.int (cnt G (wholeS n) : Int)) ∈ kvs → Q (.ref d) H'
def g3 (L : Rows) (n : Nat) : G3 := ⟨rowOf L n .first, rowOf L n .between, rowOf L n .last⟩
/-- rows that are given by name -/
structure Named (ks : List Kd) (zs : List V) (L : Rows) (n : Nat) : Prop where
  ks : L.map (·.1) = ks
  zs : zs = L.map fun p => vt p.2
  ne : L ≠ []
  nd : (L.map (·.1)).Nodup
  few : L.length ≤ 3
  ok : ∀ p ∈ L, RowOk p.2 ∧ p.2.length = n
theorem Named.g {ks : List Kd} {zs : List V} {L : Rows} {n : Nat} (h : Named ks zs L n) : (g3 L n).Ok n := by
  obtain ⟨p, L', e⟩ := List.exists_cons_of_ne_nil h.ne
  obtain ⟨a, b⟩ := h.ok p (by rw [e]; exact List.mem_cons_self)
  have := a.few
  exact ⟨rowOf_len h.ok .first, rowOf_len h.ok .between, rowOf_len h.ok .last, by omega⟩
def spCountT (ks : List Kd) : List V → List V → Hp → VK → Prop := fun vs zs H Q => vs = [] ∧ ∃ (L : Rows) (n : Nat), Named ks zs L n ∧ ∀ H', Same H H' → Q (.int (cnt (g3 L n) (wholeS n) : Int)) H'
section
variable {P : Program} {w : World} {K : PySem.W.Frag} {mg : Str → Option Value} {base : Heap} {f : Addr} {fd : FuncData}
theorem ok_whole {k : Nat} (F : Fun K "whole_of" "whole_of" s_whole_of f fd) (M : Mgs mg) : FnOk P w K mg base CX0 (k + 1) f fd ["given"] spWhole := by
  refine F.ok sc_whole_of (fun vs H Q E h => ?_) (fun cdv A outer s H vs Q E hr h => ?_)
  · obtain ⟨g, G, n, rfl, _⟩ := h
    rfl
  obtain ⟨g, G, n, rfl, eg, gok, q⟩ := h
  refine ⟨_, (pss_one (ps_ret (pe_tup (pa_cons (pe_callB call_len_str rfl M.len PySem.boot_len (pa_cons (pe_ix ix_tup (pv 0) pe_int (fun _ _ => rfl)) pa_nil)) (pa_cons pe_int (pa_cons pe_int (pa_cons pe_int pa_nil))))))), ?_⟩
  refine ⟨_, rfl, g, _, _, _, rfl, rfl, SqT.of eg, atI_nat (j := 0) rfl, _, rfl, small (by rw [tx_len, gok.a]; exact Nat.le_trans gok.few (by decide)), (by show 4 ≤ sizeLine; decide), fun p np => ?_⟩
  refine q p _ (same_new np _) ?_
  rw [upd_same, tx_len, gok.a]
  rfl
theorem ok_counts (F : Fun K "counts_of" "counts_of" s_counts_of f fd) (Dwhole_of : Df P w K mg base 1 "whole_of" ["given"] spWhole) (Dadd_counts : Df P w K mg base 16 "add_counts" ["given", "stretch", "counts"] (spAdd 14)) : FnOk P w K mg base CX0 17 f fd ["given"] spCounts := by
  refine F.ok sc_counts_of (fun vs H Q E h => ?_) (fun cdv A outer s H vs Q E hr h => ?_)
  · obtain ⟨g, G, n, rfl, _⟩ := h
    rfl
  obtain ⟨g, G, n, rfl, eg, gok, q⟩ := h
  have n12 := gok.few
  refine ⟨_, (pss_cons (ps_set (i := 1) sc_counts_of.nd rfl (.inl rfl) pe_dnewT)
    (pss_cons (ps_expr (pe_call Dadd_counts.ok (hr.mono (by omega)) rfl Dadd_counts.g Dadd_counts.kp Dadd_counts.b .nil pass0 (pa_cons (pv 0) (pa_cons (pe_call Dwhole_of.ok (hr.mono (by omega)) rfl Dwhole_of.g Dwhole_of.kp Dwhole_of.b .nil pass0 (pa_cons (pv 0) pa_nil)) (pa_cons (pv 1) pa_nil)))))
    (pss_one (ps_ret (pv 1))))), ?_⟩
  refine fun d nd => ?_
  have k1 := same_new nd (.dT [])
  have ed := upd_same (H := H) (a := d) (o := .dT [])
  have eg1 := k1 _ _ eg
  refine ⟨_, rfl, _, rfl, g, G, n, rfl, eg1, gok, fun t H2 s2 et => ?_⟩
  refine ⟨_, rfl, g, t, d, G, n, wholeS n, [], rfl, s2 _ _ eg1, gok, et, whole_ok n, (by show n < 14; omega), s2 _ _ ed, ⟨fun p hp => (nomatch hp), List.nodup_nil, fun t v hp => (nomatch hp)⟩, fun kvs H3 s3 ed3 T _ m => ?_⟩
  refine ⟨_, rfl, q d kvs H3 (fun b o e => ?_) nd ed3 T m⟩
  exact s3 b o (fun z => by rw [z, nd] at e; cases e) (s2 _ _ (k1 _ _ e))
theorem sc_count_trees : FnScope ["rows", "given"] ["rows"] (defScope s_count_trees) := ⟨rfl, rfl, rfl, by decide +kernel, rfl, by decide +kernel, by decide +kernel⟩
theorem ok_countT {ks : List Kd} (h3 : ks.length ≤ 3) (F : Fun K "count_trees" "count_trees" s_count_trees f fd) (Bk : KwBind fd [] "rows" (ks.map Kd.str)) (Dthree_rows : Df P w K mg base 3 "three_rows" ["rows"] spThree) (Dwhole_of : Df P w K mg base 1 "whole_of" ["given"] spWhole) (Dcounts_of : Df P w K mg base 17 "counts_of" ["given"] spCounts) :
    FnKw P w K mg base 18 f 0 (ks.map Kd.str) (spCountT ks) := by
  refine fnKw (k := 17) (ps := []) F Bk (by rw [List.length_map]; omega) sc_count_trees fun cdv A outer s H vs zs d Q hr hd hl h => ?_
  obtain ⟨H0, n0, eH, rfl, L, n, nm, q⟩ := h
  refine ⟨_, (pss_cons (ps_set (i := 1) sc_count_trees.nd rfl (.inl rfl) (pe_call Dthree_rows.ok (hr.mono (by omega)) rfl Dthree_rows.g Dthree_rows.kp Dthree_rows.b .nil pass0 (pa_cons (pv 0) pa_nil)))
    (pss_one (ps_ret (pe_dget (Nat.lt_of_le_of_lt (Nat.add_le_add_left (by decide) _) hr.units) (pe_call Dcounts_of.ok (hr.mono (by omega)) rfl Dcounts_of.g Dcounts_of.kp Dcounts_of.b .nil pass0 (pa_cons (pv 1) pa_nil)) (pe_call Dwhole_of.ok (hr.mono (by omega)) rfl Dwhole_of.g Dwhole_of.kp Dwhole_of.b .nil pass0 (pa_cons (pv 1) pa_nil)) (fun _ _ => rfl))))), ?_⟩
  have e1 := nm.ks
  have e2 := nm.zs
  subst e1 e2
  rw [rows_zip] at hd eH
  have k0 := same_new n0 (.dK (rowsK L))
  rw [← eH] at k0
  refine ⟨_, rfl, d, L, n, rfl, hd, nm.ne, nm.nd, nm.few, nm.ok, fun g H1 s1 eg => ?_⟩
  refine ⟨_, rfl, g, g3 L n, n, rfl, eg, nm.g, fun c kvs H2 s2 nc ec T m => ?_⟩
  refine ⟨_, rfl, g, g3 L n, n, rfl, s2 _ _ eg, nm.g, fun t H3 s3 et => ?_⟩
  exact ⟨c, _, rfl, .inr ⟨kvs, keyS (wholeS n), t, .inl (s3 _ _ ec), rfl, et, (T.val m).symm⟩, q H3 (k0.trans (s1.trans (s2.trans s3)))⟩
end
/-! ### sorted(xs) of any data -/
theorem each_of {xs : List V} {us : List Value} (r : Vals xs us) : ∀ {bs : List (V × PyData)}, bs.map (·.1) = xs → PySem.W.EachIs (fun v (b : V × PyData) => RelV b.1 v) us bs := by
  induction r with
  | nil =>
    intro bs e
    cases bs with
    | nil => exact .nil
    | cons b bs => cases e
  | cons h _ ih =>
    intro bs e
    cases bs with
    | nil => cases e
    | cons b bs =>
      obtain ⟨e1, e2⟩ := List.cons.inj (show b.1 :: bs.map (·.1) = _ from e)
      exact .cons (by rw [e1]; exact h) (ih e2)
theorem each_back {us : List Value} {bs : List (V × PyData)} (h : PySem.W.EachIs (fun v (b : V × PyData) => RelV b.1 v) us bs) : Vals (bs.map (·.1)) us := by
  induction h with
  | nil => exact .nil
  | cons h _ ih => exact .cons h ih
theorem each_reads {S : Value → V × PyData → Prop} {T : Value → V × PyData → Prop} {us : List Value} {bs : List (V × PyData)} (h : PySem.W.EachIs S us bs) (f : ∀ v b, b ∈ bs → S v b → T v b) : PySem.W.EachIs T us bs := by
  induction h with
  | nil => exact .nil
  | cons h _ ih => exact .cons (f _ _ List.mem_cons_self h) (ih fun v b hb => f v b (List.mem_cons_of_mem _ hb))
def rSortDat (K : PySem.W.Frag) : List V → Hp → VK → Prop := fun vs H Q => ∃ (a : Addr) (bs : List (V × PyData)), vs = [V.ref a] ∧ SqL K H a (bs.map (·.1)) ∧ (∀ b ∈ bs, Dp K H b.1 b.2) ∧ PySem.W.AllAlike (bs.map (·.2)) ∧ PySem.W.Sortable (bs.map (·.2)) ∧ (∀ b ∈ bs, b.2.depth ≤ 50) ∧
  ∀ p : Addr, H p = none → Q (.ref p) (upd H p (.lst ((bs.mergeSort (PySem.W.dataLe false (·.2))).map (·.1))))
theorem cr_sortDat {X : Cx} (hu : X.A.units + 64 < cLine) : CallR X (.builtin "sorted") (rSortDat X.K) := by
  intro pins s σ H vs us Q I r h
  obtain ⟨a, bs, rfl, hs, hd, al, so, dp, q⟩ := h
  obtain ⟨its, rv, hl, hz⟩ := I.list hs
  obtain ⟨u, rfl, ru⟩ := vals1 r
  obtain rfl : u = Value.ref a := ru
  have e := each_of rv rfl
  have er : PySem.W.EachIs (fun v (b : V × PyData) => ∃ as, Reads s.heap v b.2 as) its bs := each_reads e fun v b hb rel => Dp.reads I b.2 b.1 v (hd b hb) rel
  rw [List.length_map] at hz
  refine PySem.W.sorted_data (enc := fun b : V × PyData => b.2) hl.isList e er al so hz (fun b hb => by have := dp b hb; omega) fun out lo eo => ?_
  obtain ⟨ep, at_⟩ := PyProof.Rows.sortedAll_at s.heap its out.toArray
  have rel := each_back eo
  have few : ((bs.mergeSort (PySem.W.dataLe false (·.2))).map (·.1)).length ≤ sizeLine := by rw [rel.length, lo]; exact hz
  refine ⟨.ref _, upd H (s.heap.objs.size + 1) (.lst ((bs.mergeSort (PySem.W.dataLe false (·.2))).map (·.1))), I.laid (t' := s.toks) (fun _ _ => PyProof.Rows.sortedAll_old) (Nat.le_succ _) ⟨few, out, ep, rel, ?_⟩, rfl, q _ (I.hok.fresh (Nat.le_succ _))⟩
  exact at_
/-! ### live_splits, choices -/
/-- an expression's truth as a test -/
def tTr (K : PySem.W.Frag) (te : TE) : TT := fun σ H Q => te σ H fun x H' => ∃ k, TruV K x H' k ∧ Q k H'
def isLive (G : G3) (x : Split) : Bool := decide (cnt G x.2.1 ≠ 0) && decide (cnt G x.2.2 ≠ 0)
def live (G : G3) (t : St4) : List Split := (spl G t).filter (isLive G)
/-- the dict of counts, whole for the stretch -/
structure Has (G : G3) (n : Nat) (st : St4) (H : Hp) (d : Addr) : Prop where
  ex : ∃ kvs : Kvs, H d = some (.dT kvs) ∧ Tab G n kvs ∧ (keyS st, V.int (cnt G st : Int)) ∈ kvs
theorem Has.same {G : G3} {n : Nat} {st : St4} {H H' : Hp} {d : Addr} (h : Has G n st H d) (s : Same H H') : Has G n st H' d := by
  obtain ⟨kvs, e, T, m⟩ := h.ex
  exact ⟨kvs, s _ _ e, T, m⟩
theorem Has.get {G : G3} {n : Nat} {st : St4} {H : Hp} {d : Addr} (h : Has G n st H d) {t : Addr} (e : H t = some (.tup (stV st))) : DGet H d (.ref t) (some (.int (cnt G st : Int))) := by
  obtain ⟨kvs, ed, T, m⟩ := h.ex
  exact .inr ⟨kvs, keyS st, t, .inl ed, rfl, e, (T.val m).symm⟩
theorem Has.left {G : G3} {n : Nat} {st : St4} {H : Hp} {d : Addr} (h : Has G n st H d) {x : Split} (hx : x ∈ spl G st) : Has G n x.2.1 H d ∧ Has G n x.2.2 H d := by
  obtain ⟨kvs, ed, T, m⟩ := h.ex
  obtain ⟨a, b⟩ := T.cl st _ m x hx
  exact ⟨⟨kvs, ed, T, a⟩, ⟨kvs, ed, T, b⟩⟩
theorem filt_next {α : Type} {l : List α} {i : Nat} {c : α} (p : α → Bool) (h : l[i]? = some c) : (l.take (i + 1)).filter p = (l.take i).filter p ++ (if p c = true then [c] else []) := by
  rw [take_next h, List.filter_append, List.filter_cons, List.filter_nil]
def spLive : Sp := fun vs H Q _ => ∃ (g d t : Addr) (G : G3) (n : Nat) (st : St4), vs = [.ref g, .ref d, .ref t] ∧ H g = some (.tup G.tup) ∧ G.Ok n ∧ H t = some (.tup (stV st)) ∧ OkS n st ∧ Has G n st H d ∧
  ∀ (p : Addr) (us : List V) (H' : Hp), Same H H' → H' p = some (.lst us) → SpAt H' us (live G st) → Q (.ref p) H'
section
variable {P : Program} {w : World} {K : PySem.W.Frag} {mg : Str → Option Value} {base : Heap} {f : Addr} {fd : FuncData}
theorem ok_live (F : Fun K "live_splits" "live_splits" s_live_splits f fd) (M : Mgs mg) (Dallowed_splits : Df P w K mg base 2 "allowed_splits" ["given", "stretch"] spAllowed) : FnOk P w K mg base CX0 3 f fd ["given", "counts", "stretch"] spLive := by
  refine F.ok sc_live_splits (fun vs H Q E h => ?_) (fun cdv A outer s H vs Q E hr h => ?_)
  · obtain ⟨g, d, t, G, n, st, rfl, _⟩ := h
    rfl
  obtain ⟨g, d, t, G, n, st, rfl, eg, gok, et, ok, hd, q⟩ := h
  have n12 := gok.few
  refine ⟨_, (pss_cons (ps_set (i := 3) sc_live_splits.nd rfl (.inl rfl) (pe_call Dallowed_splits.ok (hr.mono (by omega)) rfl Dallowed_splits.g Dallowed_splits.kp Dallowed_splits.b .nil pass0 (pa_cons (pv 0) (pa_cons (pv 2) pa_nil))))
    (pss_one (ps_ret (pe_lc (own := [("letters", 4), ("left", 5), ("right", 6)]) (g := gTup K 3 (gCons (gName 4) (gCons (gName 5) (gCons (gName 6) gNil)))) (tt := tAnd (tTr K (tDGet (tVar 1) (tVar 5))) (tTr K (tDGet (tVar 1) (tVar 6)))) rfl sc_live_splits.nd (pi_list (pv 3)) (blkOk_by (N := ["given", "counts", "stretch", "splits", "letters", "left", "right"]) (sc := defScope s_live_splits) (by decide +kernel)) (fun _ _ _ _ _ => (pg_tup rfl (pgs_cons (pg_name (i := 4) sc_live_splits.nd rfl (.inl rfl)) (pgs_cons (pg_name (i := 5) sc_live_splits.nd rfl (.inl rfl)) (pgs_cons (pg_name (i := 6) sc_live_splits.nd rfl (.inl rfl)) pgs_nil))))) (fun _ _ _ _ _ => pts_one (PW.pt (pw_and (pt_truth (pe_dget (Nat.lt_of_le_of_lt (Nat.add_le_add_left (by decide) _) hr.units) (pv 1) (pv 5) (fun _ _ => rfl)) (by intro _; rfl)) (pw_and1 (pt_truth (pe_dget (Nat.lt_of_le_of_lt (Nat.add_le_add_left (by decide) _) hr.units) (pv 1) (pv 6) (fun _ _ => rfl)) (by intro _; rfl)))))) (fun _ _ _ _ _ => (pe_tup (pa_cons (pv 4) (pa_cons (pv 5) (pa_cons (pv 6) pa_nil))))))))), ?_⟩
  refine ⟨_, rfl, _, rfl, g, t, G, n, st, rfl, eg, gok, et, ok, fun p us H1 s1 np ep sp => ?_⟩
  refine ⟨_, rfl, p, rfl, ⟨_, SqL.of ep⟩, fun D nD => ?_⟩
  have q1 := same_new nD (.lst [])
  have hd1 := hd.same s1
  have ll := sp.len
  have sl := spl_len G st st.1
  have st12 : st.1 ≤ 12 := by have := ok.i; omega
  refine lc_list (K := K) (a := p) (xs := us) (fun i H' => Same H1 H' ∧ ∃ vs, H' D = some (.lst vs) ∧ SpAt H' vs (((spl G st).take i).filter (isLive G))) ⟨q1, [], upd_same, .nil⟩ (fun i H' _ hp => SqL.of (hp.1 _ _ ep)) (fun i x H' hx hp => ?_) (fun H' hp => ?_)
  · obtain ⟨sm, vs, eD, sv⟩ := hp
    obtain ⟨pp, l, r, xx, rfl, exx, e1, e2, e3⟩ := sp.get hx
    have e1' := sm _ _ e1
    have e2' := sm _ _ e2
    have e3' := sm _ _ e3
    obtain ⟨hl, hr2⟩ := (hd1.same sm).left (List.mem_of_getElem? exx)
    have vl : vs.length ≤ 12 := by
      rw [sv.len]
      refine Nat.le_trans (List.length_filter_le _ _) ?_
      rw [List.length_take]
      have : (spl G st).length ≤ st.1 := sl
      omega
    have hf := filt_next (isLive G) exx
    refine ⟨pp, _, rfl, SqT.of e1', rfl, _, _, rfl, _, _, rfl, _, _, rfl, rfl, rfl, ?_⟩
    refine ⟨_, rfl, _, rfl, d, _, rfl, hl.get e2', decide (cnt G xx.2.1 ≠ 0), ?_, ?_⟩
    · show _ = ((cnt G xx.2.1 : Int) != 0)
      by_cases z : cnt G xx.2.1 = 0
      · rw [z]; rfl
      · rw [decide_eq_true z]; exact (bne_iff_ne.mpr (by omega)).symm
    cases hA : decide (cnt G xx.2.1 ≠ 0) with
    | false =>
      refine iteF ?_
      have no : isLive G xx = false := by unfold isLive; rw [hA]; rfl
      rw [show ((spl G st).take (i + 1)).filter (isLive G) = ((spl G st).take i).filter (isLive G) by rw [hf, no]; exact List.append_nil _]
      first | exact ⟨sm, vs, eD, sv⟩ | exact iteF ⟨sm, vs, eD, sv⟩
    | true =>
      refine iteT ⟨_, rfl, _, rfl, d, _, rfl, hr2.get e3', decide (cnt G xx.2.2 ≠ 0), ?_, ?_⟩
      · show _ = ((cnt G xx.2.2 : Int) != 0)
        by_cases z : cnt G xx.2.2 = 0
        · rw [z]; rfl
        · rw [decide_eq_true z]; exact (bne_iff_ne.mpr (by omega)).symm
      cases hB : decide (cnt G xx.2.2 ≠ 0) with
      | false =>
        have no : isLive G xx = false := by unfold isLive; rw [hA, hB]; rfl
        rw [show ((spl G st).take (i + 1)).filter (isLive G) = ((spl G st).take i).filter (isLive G) by rw [hf, no]; exact List.append_nil _]
        first | exact ⟨sm, vs, eD, sv⟩ | exact iteF ⟨sm, vs, eD, sv⟩
      | true =>
        have yes : isLive G xx = true := by unfold isLive; rw [hA, hB]; rfl
        rw [show ((spl G st).take (i + 1)).filter (isLive G) = ((spl G st).take i).filter (isLive G) ++ [xx] by rw [hf, yes]; rfl]
        refine ⟨_, rfl, _, rfl, _, rfl, (by show 3 ≤ sizeLine; decide), fun z nz => ?_⟩
        have k1 := same_new nz (.tup [vt xx.1, .ref l, .ref r])
        have eD1 := k1 _ _ eD
        have sm1 := sm.trans k1
        have sv1 := sv.keep (Tw.Same.keepT k1)
        refine ⟨_, eD1, small1000 (by omega), fun b o e => by rw [upd_ne (ne_of_none e nD)]; exact sm1 _ _ e, vs ++ [.ref z], upd_same, ?_⟩
        refine (sv1.app (.cons upd_same (k1 _ _ e2') (k1 _ _ e3') .nil)).keep fun b xs e => ?_
        rw [upd_ne (fun z' => by rw [z', eD1] at e; cases e)]
        exact e
  · obtain ⟨sm, vs, eD, sv⟩ := hp
    have : (spl G st).take us.length = spl G st := by rw [ll, List.take_length]
    rw [this] at sv
    exact q D vs H' (s1.trans sm) eD sv
end
/-! ### choices -/
abbrev Choice := Nat × St4 × St4
def chOf (x : Split) : List Choice := x.1.map fun c => (c, x.2.1, x.2.2)
def rawC (l : List Split) : List Choice := l.flatMap chOf
def intsD (t : St4) : PyData := .tuple [.int (t.1 : Int), .int (t.2.1 : Int), .int (t.2.2.1 : Int), .int (t.2.2.2 : Int)]
def chD (c : Choice) : PyData := .tuple [.str (ch c.1), intsD c.2.1, intsD c.2.2]
def chs (G : G3) (t : St4) : List Choice := (rawC (live G t)).mergeSort (PySem.W.dataLe false chD)
def AtC (H : Hp) (v : V) (c : Choice) : Prop := ∃ p l r : Addr, v = .ref p ∧ H p = some (.tup [vc c.1, .ref l, .ref r]) ∧ H l = some (.tup (stV c.2.1)) ∧ H r = some (.tup (stV c.2.2))
theorem AtC.keep {H H' : Hp} (k : KeepT H H') {v : V} {c : Choice} (h : AtC H v c) : AtC H' v c := by
  obtain ⟨p, l, r, e, a, b, d⟩ := h
  exact ⟨p, l, r, e, k _ _ a, k _ _ b, k _ _ d⟩
inductive ChAt (H : Hp) : List V → List Choice → Prop
  | nil : ChAt H [] []
  | cons {v : V} {c : Choice} {us : List V} {cs : List Choice} : AtC H v c → ChAt H us cs → ChAt H (v :: us) (c :: cs)
theorem ChAt.keep {H H' : Hp} (k : KeepT H H') {us : List V} {cs : List Choice} (h : ChAt H us cs) : ChAt H' us cs := by
  induction h with
  | nil => exact .nil
  | cons e _ ih => exact .cons (e.keep k) ih
theorem ChAt.app {H : Hp} {us vs : List V} {xs ys : List Choice} (h : ChAt H us xs) (g : ChAt H vs ys) : ChAt H (us ++ vs) (xs ++ ys) := by
  induction h with
  | nil => exact g
  | cons e _ ih => exact .cons e ih
theorem ChAt.len {H : Hp} {us : List V} {xs : List Choice} (h : ChAt H us xs) : us.length = xs.length := by
  induction h with
  | nil => rfl
  | cons _ _ ih => exact congrArg Nat.succ ih
theorem ChAt.get {H : Hp} {us : List V} {xs : List Choice} (h : ChAt H us xs) : ∀ {i : Nat} {u : V}, us[i]? = some u → ∃ c, xs[i]? = some c ∧ AtC H u c := by
  induction h with
  | nil => intro i u e; simp at e
  | cons a _ ih =>
    intro i u e
    match i, e with
    | 0, e => cases e; exact ⟨_, rfl, a⟩
    | i + 1, e => exact ih e
theorem ChAt.zip {H : Hp} {us : List V} {xs : List Choice} (h : ChAt H us xs) : (us.zip xs).map (·.1) = us ∧ (us.zip xs).map (·.2) = xs ∧ ∀ p ∈ us.zip xs, AtC H p.1 p.2 := by
  induction h with
  | nil => exact ⟨rfl, rfl, fun p hp => nomatch hp⟩
  | cons a _ ih =>
    obtain ⟨h1, h2, h3⟩ := ih
    refine ⟨congrArg (_ :: ·) h1, congrArg (_ :: ·) h2, fun p hp => ?_⟩
    rcases List.mem_cons.mp hp with rfl | hp
    · exact a
    · exact h3 p hp
theorem ChAt.of {H : Hp} : ∀ l : List (V × Choice), (∀ p ∈ l, AtC H p.1 p.2) → ChAt H (l.map (·.1)) (l.map (·.2))
  | [], _ => .nil
  | p :: l, h => .cons (h p List.mem_cons_self) (ChAt.of l fun q hq => h q (List.mem_cons_of_mem _ hq))
theorem AtC.dp {K : PySem.W.Frag} {H : Hp} {v : V} {c : Choice} (h : AtC H v c) : Dp K H v (chD c) := by
  obtain ⟨p, l, r, rfl, a, b, d⟩ := h
  exact .tup (SqT.of a) (.cons (.str _) (.cons (.tup (SqT.of b) (.cons (.int _) (.cons (.int _) (.cons (.int _) (.cons (.int _) .nil))))) (.cons (.tup (SqT.of d) (.cons (.int _) (.cons (.int _) (.cons (.int _) (.cons (.int _) .nil))))) .nil)))
theorem ch_alike (a b : Choice) : PySem.W.alike (chD a) (chD b) = true := by
  unfold chD intsD
  simp [PySem.W.alike, PySem.W.alikeAll]
theorem ch_depth (a : Choice) : (chD a).depth ≤ 50 := by
  unfold chD intsD
  simp [PyData.depth, PyData.depthAll]
theorem raw_len {l : List Split} (h : ∀ x ∈ l, x.1.length ≤ 26) : (rawC l).length ≤ 26 * l.length := by
  induction l with
  | nil => exact Nat.zero_le _
  | cons x l ih =>
    show (chOf x ++ rawC l).length ≤ _
    rw [List.length_append, List.length_cons]
    have h1 := h x List.mem_cons_self
    have h2 := ih fun y hy => h y (List.mem_cons_of_mem _ hy)
    have : (chOf x).length = x.1.length := List.length_map _
    omega
theorem live_mem {G : G3} {t : St4} {x : Split} (h : x ∈ live G t) : x ∈ spl G t ∧ cnt G x.2.1 ≠ 0 ∧ cnt G x.2.2 ≠ 0 := by
  obtain ⟨h1, h2⟩ := List.mem_filter.mp h
  unfold isLive at h2
  rw [Bool.and_eq_true, decide_eq_true_eq, decide_eq_true_eq] at h2
  exact ⟨h1, h2⟩
theorem live_len (G : G3) (t : St4) : (live G t).length ≤ t.1 := Nat.le_trans (List.length_filter_le _ _) (spl_len G t t.1)
theorem live_few {G : G3} {t : St4} {x : Split} (h : x ∈ live G t) : x.1.length ≤ 26 := by
  obtain ⟨s, _, e, _⟩ := spl_mem (live_mem h).1
  rw [e]
  exact comm_len _
def spChoices : Sp := fun vs H Q _ => ∃ (g d t : Addr) (G : G3) (n : Nat) (st : St4), vs = [.ref g, .ref d, .ref t] ∧ H g = some (.tup G.tup) ∧ G.Ok n ∧ H t = some (.tup (stV st)) ∧ OkS n st ∧ Has G n st H d ∧
  ∀ (p : Addr) (us : List V) (H' : Hp), Same H H' → H' p = some (.lst us) → ChAt H' us (chs G st) → Q (.ref p) H'
section
variable {P : Program} {w : World} {K : PySem.W.Frag} {mg : Str → Option Value} {base : Heap} {f : Addr} {fd : FuncData}
theorem ok_choices (F : Fun K "choices" "choices" s_choices f fd) (M : Mgs mg) (Dlive_splits : Df P w K mg base 3 "live_splits" ["given", "counts", "stretch"] spLive) : FnOk P w K mg base CX0 4 f fd ["given", "counts", "stretch"] spChoices := by
  refine F.ok sc_choices (fun vs H Q E h => ?_) (fun cdv A outer s H vs Q E hr h => ?_)
  · obtain ⟨g, d, t, G, n, st, rfl, _⟩ := h
    rfl
  obtain ⟨g, d, t, G, n, st, rfl, eg, gok, et, ok, hd, q⟩ := h
  have n12 := gok.few
  have st12 : st.1 ≤ 12 := by have := ok.i; omega
  refine ⟨_, (pss_cons (ps_set (i := 3) sc_choices.nd rfl (.inl rfl) (pe_call Dlive_splits.ok (hr.mono (by omega)) rfl Dlive_splits.g Dlive_splits.kp Dlive_splits.b .nil pass0 (pa_cons (pv 0) (pa_cons (pv 1) (pa_cons (pv 2) pa_nil)))))
    (pss_one (ps_ret (pe_callB (cr_sortDat hr.units) rfl M.sorted (by decide +kernel) (pa_cons (pe_lc2 (own := [("letters", 4), ("left", 5), ("right", 6), ("letter", 7)]) (vs1 := [7]) (g := gTup K 3 (gCons (gName 4) (gCons (gName 5) (gCons (gName 6) gNil)))) (tt := tYes) (g1 := gName 7) (tt1 := tYes) rfl sc_choices.nd (pi_list (pv 3)) (blkOk_by (N := ["given", "counts", "stretch", "splits", "letters", "left", "right", "letter"]) (sc := defScope s_choices) (by decide +kernel)) (by decide) (fun _ _ _ _ _ => (pg_tup rfl (pgs_cons (pg_name (i := 4) sc_choices.nd rfl (.inl rfl)) (pgs_cons (pg_name (i := 5) sc_choices.nd rfl (.inl rfl)) (pgs_cons (pg_name (i := 6) sc_choices.nd rfl (.inl rfl)) pgs_nil))))) (fun _ _ _ _ _ => pts_nil) (fun _ _ _ _ _ => (pi_str (pv 4))) (fun _ _ _ _ _ => (pg_name (i := 7) sc_choices.nd rfl (.inl rfl))) (fun _ _ _ _ _ => pts_nil) (fun _ _ _ _ _ => (pe_tup (pa_cons (pv 7) (pa_cons (pv 5) (pa_cons (pv 6) pa_nil)))))) pa_nil))))), ?_⟩
  refine ⟨_, rfl, _, rfl, _, rfl, g, d, t, G, n, st, rfl, eg, gok, et, ok, hd, fun p us H1 s1 ep sp => ?_⟩
  refine ⟨_, rfl, p, rfl, ⟨_, SqL.of ep⟩, fun D nD => ?_⟩
  have q1 := same_new nD (.lst [])
  have ll := sp.len
  have lv := live_len G st
  refine lc2_it (walk_list (K := K) (a := p) (xs := us)) (fun i H' => Same H1 H' ∧ ∃ vs, H' D = some (.lst vs) ∧ ChAt H' vs (rawC ((live G st).take i))) ⟨q1, [], upd_same, .nil⟩ (fun i H' _ hp => SqL.of (hp.1 _ _ ep)) (fun i x H2 H2' hi hp hy => ?_) (fun H2 hp => ?_)
  · obtain ⟨sm, vs, eD, cv⟩ := hp
    obtain ⟨rfl, hx⟩ := hy
    obtain ⟨pp, l, r, xx, rfl, exx, e1, e2, e3⟩ := sp.get hx
    have e1' := sm _ _ e1
    have e2' := sm _ _ e2
    have e3' := sm _ _ e3
    have hm := List.mem_of_getElem? exx
    have l26 := live_few hm
    have vl : vs.length ≤ 400 := by
      rw [cv.len]
      have := raw_len (l := (live G st).take i) fun y hy => live_few (List.mem_of_mem_take hy)
      rw [List.length_take] at this
      omega
    refine ⟨pp, _, rfl, SqT.of e1', rfl, _, _, rfl, _, _, rfl, _, _, rfl, rfl, rfl, kept ?_⟩
    refine ⟨_, rfl, tx xx.1, rfl, ?_⟩
    refine in_it (walk_str (z := tx xx.1)) (fun j H' => Same H1 H' ∧ ∃ vs', H' D = some (.lst vs') ∧ ChAt H' vs' (rawC ((live G st).take i) ++ (chOf xx).take j)) ⟨sm, vs, eD, by rw [List.take_zero, List.append_nil]; exact cv⟩ (fun _ _ _ _ => trivial) (fun j y H3 H3' hj hp hy => ?_) (fun H3 hp => ?_)
    · obtain ⟨s3, vs', eD3, cv3⟩ := hp
      obtain ⟨rfl, c, hc, rfl⟩ := hy
      have hc' : xx.1[j]? = some c := by rw [← hc]; simp [tx]
      have hch : (chOf xx)[j]? = some (c, xx.2.1, xx.2.2) := by
        unfold chOf
        rw [List.getElem?_map, hc']
        rfl
      refine ⟨rfl, kept ?_⟩
      refine ⟨_, rfl, _, rfl, _, rfl, (by show 3 ≤ sizeLine; decide), fun z nz => ?_⟩
      have k1 := same_new nz (.tup [vc c, .ref l, .ref r])
      have eD4 := k1 _ _ eD3
      have s4 := s3.trans k1
      have l3 : vs'.length ≤ 900 := by
        rw [cv3.len, List.length_append]
        have := raw_len (l := (live G st).take i) fun y hy => live_few (List.mem_of_mem_take hy)
        have h2 : ((chOf xx).take j).length ≤ 26 := by
          rw [List.length_take]
          have : (chOf xx).length = xx.1.length := List.length_map _
          omega
        rw [List.length_take] at this
        omega
      have at_ : AtC (upd H3' z (.tup [vc c, .ref l, .ref r])) (.ref z) (c, xx.2.1, xx.2.2) := ⟨z, l, r, rfl, upd_same, s4 _ _ e2, s4 _ _ e3⟩
      refine ⟨_, eD4, small1000 (by omega), fun b o e => by rw [upd_ne (ne_of_none e nD)]; exact s4 _ _ e, vs' ++ [.ref z], upd_same, ?_⟩
      rw [take_next hch, ← List.append_assoc]
      refine ((cv3.keep (Tw.Same.keepT k1)).app (.cons at_ .nil)).keep fun b xs e => ?_
      rw [upd_ne (fun z' => by rw [z', eD4] at e; cases e)]
      exact e
    · obtain ⟨s3, vs', eD3, cv3⟩ := hp
      refine ⟨s3, vs', eD3, ?_⟩
      have e : (chOf xx).take (tx xx.1).cps.size = chOf xx := List.take_of_length_le (by rw [tx_size]; exact Nat.le_of_eq (List.length_map _))
      rw [e] at cv3
      rw [take_next exx]
      unfold rawC at cv3 ⊢
      rw [List.flatMap_append]
      show ChAt _ _ (_ ++ (chOf xx ++ []))
      rw [List.append_nil]
      exact cv3
  · obtain ⟨sm, vs, eD, cv⟩ := hp
    have et : (live G st).take us.length = live G st := by rw [ll, List.take_length]
    rw [et] at cv
    obtain ⟨z1, z2, z3⟩ := cv.zip
    have m1 : ((vs.zip (rawC (live G st))).map fun p => (p.1, chD p.2)).map (·.1) = vs := by rw [List.map_map]; exact z1
    have m2 : ∀ b ∈ ((vs.zip (rawC (live G st))).map fun p => (p.1, chD p.2)).map (·.2), ∃ c, b = chD c := fun b hb => by
      rw [List.map_map] at hb
      obtain ⟨p, _, rfl⟩ := List.mem_map.mp hb
      exact ⟨p.2, rfl⟩
    refine ⟨D, (vs.zip (rawC (live G st))).map fun p => (p.1, chD p.2), rfl, SqL.of (by rw [m1]; exact eD), fun b hb => ?_, fun a ha b hb => ?_, .inl fun a ha => ?_, fun b hb => ?_, fun p2 np2 => ?_⟩
    · obtain ⟨p, hp, rfl⟩ := List.mem_map.mp hb
      exact (z3 p hp).dp
    · obtain ⟨c, rfl⟩ := m2 a ha
      obtain ⟨c', rfl⟩ := m2 b hb
      exact ch_alike c c'
    · obtain ⟨c, rfl⟩ := m2 a ha
      exact ⟨_, _, rfl⟩
    · obtain ⟨p, hp, rfl⟩ := List.mem_map.mp hb
      exact ch_depth p.2
    · have k9 := same_new np2 (.lst ((((vs.zip (rawC (live G st))).map fun p => (p.1, chD p.2)).mergeSort (PySem.W.dataLe false (·.2))).map (·.1)))
      refine q p2 _ _ (s1.trans (sm.trans k9)) upd_same ?_
      have e1 : (((vs.zip (rawC (live G st))).map fun p => (p.1, chD p.2)).mergeSort (PySem.W.dataLe false (·.2))) = ((vs.zip (rawC (live G st))).mergeSort (PySem.W.dataLe false fun p => chD p.2)).map fun p => (p.1, chD p.2) := (List.map_mergeSort (f := fun p : V × Choice => (p.1, chD p.2)) (s := PySem.W.dataLe false (·.2)) fun a _ b _ => rfl).symm
      have e2 : chs G st = ((vs.zip (rawC (live G st))).mergeSort (PySem.W.dataLe false fun p => chD p.2)).map (·.2) := by
        have m := List.map_mergeSort (r := PySem.W.dataLe false fun p : V × Choice => chD p.2) (s := PySem.W.dataLe false chD) (f := fun p : V × Choice => p.2) (l := vs.zip (rawC (live G st))) fun a _ b _ => rfl
        rw [m, z2]
        rfl
      have c9 := (ChAt.of ((vs.zip (rawC (live G st))).mergeSort (PySem.W.dataLe false fun p => chD p.2)) fun p hp => z3 p ((List.mergeSort_perm _ _).mem_iff.mp hp)).keep (Tw.Same.keepT k9)
      rw [e2]
      have e3 : ((vs.zip (rawC (live G st))).mergeSort (PySem.W.dataLe false fun p => chD p.2)).map (·.1) = (((vs.zip (rawC (live G st))).map fun p => (p.1, chD p.2)).mergeSort (PySem.W.dataLe false (·.2))).map (·.1) := by
        rw [e1, List.map_map]
        rfl
      rw [e3] at c9
      exact c9
end
/-! ### numbered_part -/
def wC (G : G3) (c : Choice) : Nat := cnt G c.2.1 * cnt G c.2.2
def pick (G : G3) : List Choice → Nat → Option (Choice × Nat)
  | [], _ => none
  | c :: cs, i => if i < wC G c then some (c, i) else pick G cs (i - wC G c)
theorem pick_some {G : G3} : ∀ {cs : List Choice} {i : Nat}, i < (cs.map (wC G)).sum → ∃ c r, pick G cs i = some (c, r) ∧ c ∈ cs ∧ r < wC G c
  | [], i, h => absurd h (Nat.not_lt_zero _)
  | c :: cs, i, h => by
    by_cases hi : i < wC G c
    · exact ⟨c, i, if_pos hi, List.mem_cons_self, hi⟩
    · rw [List.map_cons, List.sum_cons] at h
      obtain ⟨c', r, e, hm, hr⟩ := pick_some (G := G) (cs := cs) (i := i - wC G c) (by omega)
      exact ⟨c', r, by rw [show pick G (c :: cs) i = pick G cs (i - wC G c) from if_neg hi]; exact e, List.mem_cons_of_mem _ hm, hr⟩
def numF (G : G3) : Nat → St4 → Nat → B
  | 0, _, _ => .nil
  | f + 1, t, i => if t.1 = 0 then .nil else match pick G (chs G t) i with
    | none => .nil
    | some (c, r) => .node (numF G f c.2.1 (r / cnt G c.2.2)) c.1 (numF G f c.2.2 (r % cnt G c.2.2))
def num (G : G3) (t : St4) (i : Nat) : B := numF G (t.1 + 1) t i
theorem chs_mem {G : G3} {t : St4} {c : Choice} : c ∈ chs G t ↔ ∃ x ∈ live G t, c.1 ∈ x.1 ∧ c.2.1 = x.2.1 ∧ c.2.2 = x.2.2 := by
  unfold chs
  rw [(List.mergeSort_perm _ _).mem_iff]
  unfold rawC
  rw [List.mem_flatMap]
  constructor
  · rintro ⟨x, hx, hc⟩
    obtain ⟨l, hl, rfl⟩ := List.mem_map.mp hc
    exact ⟨x, hx, hl, rfl, rfl⟩
  · rintro ⟨x, hx, h1, h2, h3⟩
    exact ⟨x, hx, List.mem_map.mpr ⟨c.1, h1, by rw [← h2, ← h3]⟩⟩
theorem chs_small {G : G3} {t : St4} {c : Choice} (h : c ∈ chs G t) : c.2.1.1 + c.2.2.1 + 1 = t.1 := by
  obtain ⟨x, hx, _, e1, e2⟩ := chs_mem.mp h
  rw [e1, e2]
  exact spl_small (live_mem hx).1
theorem sum_raw (G : G3) : ∀ l : List Split, ((rawC l).map (wC G)).sum = (l.map (term G)).sum
  | [] => rfl
  | x :: l => by
    show ((chOf x ++ rawC l).map (wC G)).sum = _
    rw [List.map_append, List.sum_append, sum_raw G l, List.map_cons, List.sum_cons]
    congr 1
    unfold chOf
    rw [List.map_map]
    have : ∀ ls : List Nat, (ls.map ((wC G) ∘ fun c => (c, x.2.1, x.2.2))).sum = ls.length * (cnt G x.2.1 * cnt G x.2.2) := by
      intro ls
      induction ls with
      | nil => exact (Nat.zero_mul _).symm
      | cons a ls ih =>
        rw [List.map_cons, List.sum_cons, ih, List.length_cons, Nat.add_mul, Nat.one_mul, Nat.add_comm]
        rfl
    rw [this]
    unfold term
    rw [Nat.mul_assoc]
theorem sum_live (G : G3) : ∀ l : List Split, ((l.filter (isLive G)).map (term G)).sum = (l.map (term G)).sum
  | [] => rfl
  | x :: l => by
    rw [List.filter_cons, List.map_cons, List.sum_cons, ← sum_live G l]
    split
    · rw [List.map_cons, List.sum_cons]
    · next h =>
      have : term G x = 0 := by
        unfold isLive at h
        rw [Bool.and_eq_true, decide_eq_true_eq, decide_eq_true_eq] at h
        unfold term
        by_cases a : cnt G x.2.1 = 0
        · rw [a, Nat.mul_zero, Nat.zero_mul]
        · by_cases b : cnt G x.2.2 = 0
          · rw [b, Nat.mul_zero]
          · exact absurd ⟨a, b⟩ h
      rw [this, Nat.zero_add]
theorem sum_perm {l m : List Nat} (h : l.Perm m) : l.sum = m.sum := by
  induction h with
  | nil => rfl
  | cons x _ ih => rw [List.sum_cons, List.sum_cons, ih]
  | swap x y l => rw [List.sum_cons, List.sum_cons, List.sum_cons, List.sum_cons]; omega
  | trans _ _ h1 h2 => exact h1.trans h2
theorem cnt_chs {G : G3} {t : St4} (h : t.1 ≠ 0) : ((chs G t).map (wC G)).sum = cnt G t := by
  rw [cnt_eq, if_neg h, ← sum_live G (spl G t), ← sum_raw]
  exact sum_perm ((List.mergeSort_perm _ _).map _)
theorem numF_any (G : G3) : ∀ (f g : Nat) (t : St4) (i : Nat), t.1 < f → t.1 < g → numF G f t i = numF G g t i
  | 0, _, _, _, h, _ => absurd h (Nat.not_lt_zero _)
  | _, 0, _, _, _, h => absurd h (Nat.not_lt_zero _)
  | f + 1, g + 1, t, i, h1, h2 => by
    show (if t.1 = 0 then B.nil else _) = if t.1 = 0 then B.nil else _
    split
    · rfl
    · cases hp : pick G (chs G t) i with
      | none => rfl
      | some p =>
        obtain ⟨c, r⟩ := p
        have hm : c ∈ chs G t := by
          have : ∀ (cs : List Choice) (i : Nat), pick G cs i = some (c, r) → c ∈ cs := by
            intro cs
            induction cs with
            | nil => intro i e; cases e
            | cons a cs ih =>
              intro i e
              by_cases hi : i < wC G a
              · rw [show pick G (a :: cs) i = some (a, i) from if_pos hi] at e
                cases e
                exact List.mem_cons_self
              · rw [show pick G (a :: cs) i = pick G cs (i - wC G a) from if_neg hi] at e
                exact List.mem_cons_of_mem _ (ih _ e)
          exact this _ _ hp
        have := chs_small hm
        show B.node (numF G f c.2.1 _) c.1 (numF G f c.2.2 _) = B.node (numF G g c.2.1 _) c.1 (numF G g c.2.2 _)
        rw [numF_any G f g c.2.1 _ (by omega) (by omega), numF_any G f g c.2.2 _ (by omega) (by omega)]
theorem num_zero {G : G3} {t : St4} {i : Nat} (h : t.1 = 0) : num G t i = .nil := if_pos h
theorem num_pick {G : G3} {t : St4} {i : Nat} {c : Choice} {r : Nat} (h : t.1 ≠ 0) (e : pick G (chs G t) i = some (c, r)) (hm : c ∈ chs G t) : num G t i = .node (num G c.2.1 (r / cnt G c.2.2)) c.1 (num G c.2.2 (r % cnt G c.2.2)) := by
  have := chs_small hm
  show (if t.1 = 0 then B.nil else match pick G (chs G t) i with
    | none => B.nil
    | some (c, r) => .node (numF G t.1 c.2.1 (r / cnt G c.2.2)) c.1 (numF G t.1 c.2.2 (r % cnt G c.2.2))) = _
  rw [if_neg h, e]
  show B.node (numF G t.1 c.2.1 _) c.1 (numF G t.1 c.2.2 _) = _
  rw [numF_any G t.1 (c.2.1.1 + 1) c.2.1 _ (by omega) (by omega), numF_any G t.1 (c.2.2.1 + 1) c.2.2 _ (by omega) (by omega)]
  rfl
/-! ### numbered_part runs -/
theorem cnt_wide (G : G3) {t : St4} (h : t.1 ≤ 12) : cnt G t < 2 ^ 110 := by
  have h1 := cnt_le G t.1 t rfl h
  have h2 : 312 ^ t.1 ≤ 312 ^ 12 := Nat.pow_le_pow_right (by decide) h
  exact Nat.lt_of_le_of_lt (Nat.le_trans h1 h2) (by decide)
theorem div_ok {i : Int} {j : Nat} (h0 : 0 < j) (h : j < 2 ^ 110) : CDivP i (j : Int) := ⟨by omega, PyProof.noPylong_of_log2 (wide_div (i := i) (j := (j : Int)) (b := 110) (by omega) (by omega) (by decide) (by decide)).2⟩
theorem mul_ok2 {x y : Nat} (h : x < 2 ^ 42 ∨ y < 2 ^ 42) : CMul (x : Int) (y : Int) := by
  rcases h with h | h
  · exact .inl ⟨by omega, by omega⟩
  · exact .inr ⟨by omega, by omega⟩
def spNum (N : Nat) : Sp := fun vs H Q _ => ∃ (g d t : Addr) (G : G3) (n : Nat) (st : St4) (i : Nat), vs = [.ref g, .ref d, .ref t, .int (i : Int)] ∧ H g = some (.tup G.tup) ∧ G.Ok n ∧ H t = some (.tup (stV st)) ∧ OkS n st ∧ Has G n st H d ∧ st.1 < N ∧ i < cnt G st ∧
  ∀ (v : V) (H' : Hp), Same H H' → BAt H' v (num G st i) → Q v H'
theorem ok_of_ch {G : G3} {n : Nat} {st : St4} (ok : OkS n st) {c : Choice} (h : c ∈ chs G st) : OkS n c.2.1 ∧ OkS n c.2.2 ∧ cnt G c.2.1 ≠ 0 ∧ cnt G c.2.2 ≠ 0 := by
  obtain ⟨x, hx, _, e1, e2⟩ := chs_mem.mp h
  obtain ⟨h1, h2, h3⟩ := live_mem hx
  obtain ⟨s, hs, _, _, q1, q2⟩ := spl_mem h1
  rw [e1, e2]
  exact ⟨by rw [q1]; exact ok.left hs, by rw [q2]; exact ok.right hs, h2, h3⟩
theorem has_of_ch {G : G3} {n : Nat} {st : St4} {H : Hp} {d : Addr} (h : Has G n st H d) {c : Choice} (hc : c ∈ chs G st) : Has G n c.2.1 H d ∧ Has G n c.2.2 H d := by
  obtain ⟨x, hx, _, e1, e2⟩ := chs_mem.mp hc
  rw [e1, e2]
  exact h.left (live_mem hx).1
theorem pick_drop {G : G3} {cs : List Choice} {i : Nat} {c : Choice} (h : cs[i]? = some c) {r : Nat} : pick G (cs.drop i) r = if r < wC G c then some (c, r) else pick G (cs.drop (i + 1)) (r - wC G c) := by
  have hi := (List.getElem?_eq_some_iff.mp h).1
  have e : cs.drop i = c :: cs.drop (i + 1) := by
    rw [List.drop_eq_getElem_cons hi]
    congr 1
    exact (List.getElem?_eq_some_iff.mp h).2
  rw [e]
  rfl
section
variable {P : Program} {w : World} {K : PySem.W.Frag} {mg : Str → Option Value} {base : Heap} {f : Addr} {fd : FuncData}
theorem ok_num (F : Fun K "numbered_part" "numbered_part" s_numbered_part f fd) (M : Mgs mg) (mdiv : mg "divmod" = none) (b : Binds K fd ["given", "counts", "stretch", "index"] []) (g : mg "numbered_part" = some (.ref f)) (Dchoices : Df P w K mg base 4 "choices" ["given", "counts", "stretch"] spChoices) : ∀ N : Nat, FnOk P w K mg base CX0 (4 + N) f fd ["given", "counts", "stretch", "index"] (spNum N)
  | 0 => by
    have no : ∀ vs H Q E, ¬ spNum 0 vs H Q E := fun vs H Q E h => by
      obtain ⟨g, d, t, G, n, st, i, _, _, _, _, _, _, h1, _⟩ := h
      omega
    exact ⟨fun vs H Q E h => absurd h (no vs H Q E), fun A outer s H args us vs Q E _ _ _ _ h => absurd h (no vs H Q E)⟩
  | N + 1 => by
    have Dself : Df P w K mg base (4 + N) "numbered_part" ["given", "counts", "stretch", "index"] (spNum N) := ⟨f, fd, ok_num F M mdiv b g Dchoices N, b, F.kp, g⟩
    refine F.ok (k := 4 + N) sc_numbered_part (fun vs H Q E h => ?_) (fun cdv A outer s H vs Q E hr h => ?_)
    · obtain ⟨g, d, t, G, n, st, i, rfl, _⟩ := h
      rfl
    obtain ⟨g, d, t, G, n, st, i, rfl, eg, gok, et, ok, hd, hN, hi, q⟩ := h
    have n12 := gok.few
    have st12 : st.1 ≤ 12 := by have := ok.i; omega
    refine ⟨_, (pss_cons (ps_if (pt_cmpR op_eq (pe_ix ix_tup (pv 2) pe_int (fun _ _ => rfl)) pe_int (nomark _))
      (pss_one (ps_ret pe_non)) pss_nil)
    (pss_cons (ps_set (i := 4) sc_numbered_part.nd rfl (.inl rfl) (pv 3))
    (pss_cons (ps_for PassesOwn.never rfl (pi_list (pe_call Dchoices.ok (hr.mono (by omega)) rfl Dchoices.g Dchoices.kp Dchoices.b .nil pass0 (pa_cons (pv 0) (pa_cons (pv 1) (pa_cons (pv 2) pa_nil))))) (pg_tup rfl (pgs_cons (pg_name (i := 5) sc_numbered_part.nd rfl (.inl rfl)) (pgs_cons (pg_name (i := 6) sc_numbered_part.nd rfl (.inl rfl)) (pgs_cons (pg_name (i := 7) sc_numbered_part.nd rfl (.inl rfl)) pgs_nil))))
      (pss_cons (ps_set (i := 8) sc_numbered_part.nd rfl (.inl rfl) (pe_op op_mul (pe_dget (Nat.lt_of_le_of_lt (Nat.add_le_add_left (by decide) _) hr.units) (pv 1) (pv 6) (fun _ _ => rfl)) (pe_dget (Nat.lt_of_le_of_lt (Nat.add_le_add_left (by decide) _) hr.units) (pv 1) (pv 7) (fun _ _ => rfl))))
    (pss_cons (ps_if (pt_cmpR op_lt (pv 4) (pv 8) (nomark _))
      (pss_one ps_break) pss_nil)
    (pss_one (ps_aug (i := 4) sc_numbered_part.nd rfl (.inl rfl) (pv 8) ip_sub)))))
    (pss_cons (ps_asg (pe_callB call_divmodW rfl mdiv (by decide +kernel) (pa_cons (pv 4) (pa_cons (pe_dget (Nat.lt_of_le_of_lt (Nat.add_le_add_left (by decide) _) hr.units) (pv 1) (pv 7) (fun _ _ => rfl)) pa_nil))) (pg_tup rfl (pgs_cons (pg_name (i := 9) sc_numbered_part.nd rfl (.inl rfl)) (pgs_cons (pg_name (i := 10) sc_numbered_part.nd rfl (.inl rfl)) pgs_nil))))
    (pss_one (ps_ret (pe_tup (pa_cons (pe_call Dself.ok (hr.mono (by omega)) rfl Dself.g Dself.kp Dself.b .nil pass0 (pa_cons (pv 0) (pa_cons (pv 1) (pa_cons (pv 6) (pa_cons (pv 9) pa_nil))))) (pa_cons (pv 5) (pa_cons (pe_call Dself.ok (hr.mono (by omega)) rfl Dself.g Dself.kp Dself.b .nil pass0 (pa_cons (pv 0) (pa_cons (pv 1) (pa_cons (pv 7) (pa_cons (pv 10) pa_nil))))) pa_nil)))))))))), ?_⟩
    refine ⟨_, rfl, t, _, _, _, rfl, rfl, SqT.of et, atI_nat (j := 0) rfl, rfl, _, rfl, ?_⟩
    by_cases z : st.1 = 0
    · rw [decide_eq_true (show V.int (st.1 : Int) = V.int 0 by rw [z]; rfl)]
      refine iteT (q .non H (Same.refl _) ?_)
      rw [num_zero z]
      exact .nil
    · rw [decide_eq_false (show ¬ V.int (st.1 : Int) = V.int 0 from fun e => z (by have := V.int.inj e; omega))]
      refine iteF ?_
      refine ⟨_, rfl, ?_⟩
      have hsum : i < ((chs G st).map (wC G)).sum := by rw [cnt_chs z]; exact hi
      obtain ⟨c, r, hp, hm, hr2⟩ := pick_some hsum
      refine seq_cutN (fun σ H' => ∃ (lv rv : Addr) (o8 : Option V), σ = [some (.ref g), some (.ref d), some (.ref t), some (.int (i : Int)), some (.int (r : Int)), some (vc c.1), some (.ref lv), some (.ref rv), o8, none, none] ∧ Same H H' ∧ H' lv = some (.tup (stV c.2.1)) ∧ H' rv = some (.tup (stV c.2.2))) (fun σ H2 hp2 => ?_) (fun fin => ?_)
      · obtain ⟨lv, rv, o8, rfl, s2, el, er⟩ := hp2
        obtain ⟨okl, okr, nl, nr⟩ := ok_of_ch ok hm
        obtain ⟨hdl, hdr⟩ := has_of_ch (hd.same s2) hm
        have sm := chs_small hm
        have rc : 0 < cnt G c.2.2 := Nat.pos_of_ne_zero nr
        have c12 : c.2.2.1 ≤ 12 := by omega
        have eg2 := s2 _ _ eg
        have qd : r / cnt G c.2.2 < cnt G c.2.1 := Nat.div_lt_of_lt_mul (by rw [Nat.mul_comm]; exact hr2)
        have qm : r % cnt G c.2.2 < cnt G c.2.2 := Nat.mod_lt _ rc
        refine ⟨_, rfl, _, rfl, _, rfl, d, _, rfl, hdr.get er, (r : Int), (cnt G c.2.2 : Int), rfl, div_ok rc (cnt_wide G c12), fun dm ndm => ?_⟩
        have k1 := same_new ndm (.tup [.int ((r : Int) / (cnt G c.2.2 : Int)), .int ((r : Int) % (cnt G c.2.2 : Int))])
        refine ⟨dm, _, rfl, SqT.of upd_same, rfl, _, _, rfl, _, _, rfl, rfl, ?_⟩
        refine ⟨_, rfl, _, rfl, _, rfl, _, rfl, g, d, lv, G, n, c.2.1, r / cnt G c.2.2, rfl, k1 _ _ eg2, gok, k1 _ _ el, okl, hdl.same k1, by omega, qd, fun v1 H4 s4 b1 => ?_⟩
        have k4 := k1.trans s4
        refine ⟨_, rfl, _, rfl, _, rfl, _, rfl, _, rfl, g, d, rv, G, n, c.2.2, r % cnt G c.2.2, rfl, k4 _ _ eg2, gok, k4 _ _ er, okr, hdr.same k4, by omega, qm, fun v2 H5 s5 b2 => ⟨(by show 3 ≤ sizeLine; decide), fun tt ntt => ?_⟩⟩
        have k5 := same_new ntt (.tup [v1, vc c.1, v2])
        refine q (.ref tt) _ (s2.trans (k4.trans (s5.trans k5))) ?_
        rw [num_pick z hp hm]
        exact .node upd_same ((b1.same s5).same k5) (b2.same k5)
      · refine ⟨_, rfl, _, rfl, _, rfl, g, d, t, G, n, st, rfl, eg, gok, et, ok, hd, fun p us H1 s1 ep cs => ?_⟩
        refine ⟨p, rfl, ⟨_, SqL.of ep⟩, ?_⟩
        have ll := cs.len
        refine for_list (K := K) (a := p) (xs := us) (fun x σ H' => ∃ (o5 o6 o7 o8 : Option V) (rest : Nat), σ = [some (.ref g), some (.ref d), some (.ref t), some (.int (i : Int)), some (.int (rest : Int)), o5, o6, o7, o8, none, none] ∧ Same H1 H' ∧ pick G ((chs G st).drop x) rest = some (c, r)) ⟨none, none, none, none, i, rfl, Same.refl _, by rw [List.drop_zero]; exact hp⟩ (fun x σ H' _ hp2 => by obtain ⟨_, _, _, _, _, _, sm, _⟩ := hp2; exact SqL.of (sm _ _ ep)) (fun x u σ H' hx hp2 => ?_) (fun σ H' hp2 => ?_)
        · obtain ⟨o5, o6, o7, o8, rest, rfl, sm, hpk⟩ := hp2
          obtain ⟨cx, ecx, pp, lv, rv, rfl, e1, e2, e3⟩ := cs.get hx
          have e1' := sm _ _ e1
          have e2' := sm _ _ e2
          have e3' := sm _ _ e3
          have hmx := List.mem_of_getElem? ecx
          obtain ⟨okl, okr, nl, nr⟩ := ok_of_ch ok hmx
          have hd' := (hd.same s1).same sm
          obtain ⟨hdl, hdr⟩ := has_of_ch hd' hmx
          have smx := chs_small hmx
          rw [pick_drop ecx] at hpk
          refine ⟨pp, _, rfl, SqT.of e1', rfl, _, _, rfl, _, _, rfl, _, _, rfl, rfl, ?_⟩
          refine ⟨_, rfl, _, rfl, d, _, rfl, hdl.get e2', _, rfl, _, rfl, d, _, rfl, hdr.get e3', _, _, rfl, rfl, mul_ok2 ?_, ?_⟩
          · rcases (show cx.2.1.1 ≤ 5 ∨ cx.2.2.1 ≤ 5 by omega) with a | a
            · exact .inl (cnt_small G a)
            · exact .inr (cnt_small G a)
          refine ⟨_, rfl, _, rfl, _, _, rfl, rfl, _, rfl, ?_⟩
          have wc : ((cnt G cx.2.1 : Int) * (cnt G cx.2.2 : Int)) = ((wC G cx : Nat) : Int) := (Int.natCast_mul _ _).symm
          by_cases hlt : rest < wC G cx
          · rw [if_pos hlt] at hpk
            cases hpk
            rw [decide_eq_true (show (r : Int) < (cnt G c.2.1 : Int) * (cnt G c.2.2 : Int) by rw [wc]; omega)]
            refine iteT (fin _ _ ⟨lv, rv, _, rfl, s1.trans sm, e2', e3'⟩)
          · rw [if_neg hlt] at hpk
            rw [decide_eq_false (show ¬ (rest : Int) < (cnt G cx.2.1 : Int) * (cnt G cx.2.2 : Int) by rw [wc]; omega)]
            refine iteF ?_
            refine ⟨_, rfl, _, rfl, _, _, rfl, rfl, some (vc cx.1), some (.ref lv), some (.ref rv), some (.int ((cnt G cx.2.1 : Int) * (cnt G cx.2.2 : Int))), rest - wC G cx, ?_, sm, hpk⟩
            have e : (rest : Int) - (cnt G cx.2.1 : Int) * (cnt G cx.2.2 : Int) = ((rest - wC G cx : Nat) : Int) := by rw [wc]; omega
            exact congrArg (fun y => [some (.ref g), some (.ref d), some (.ref t), some (.int (i : Int)), some (V.int y), some (vc cx.1), some (.ref lv), some (.ref rv), some (.int ((cnt G cx.2.1 : Int) * (cnt G cx.2.2 : Int))), none, none]) e
        · obtain ⟨_, _, _, _, rest, _, _, hpk⟩ := hp2
          rw [ll, List.drop_length] at hpk
          cases hpk
end
/-! ### is_index, tree_at -/
def spTreeAtT (ks : List Kd) : List V → List V → Hp → VK → Prop := fun vs zs H Q => ∃ (i : Nat) (L : Rows) (n : Nat), vs = [.int (i : Int)] ∧ Named ks zs L n ∧ i < cnt (g3 L n) (wholeS n) ∧ ∀ (v : V) (H' : Hp), Same H H' → BAt H' v (num (g3 L n) (wholeS n) i) → Q v H'
theorem num_size {G : G3} : ∀ (m : Nat) (t : St4) (i : Nat), t.1 = m → i < cnt G t → (num G t i).size = m := by
  intro m
  induction m using Nat.strongRecOn with
  | ind m ih =>
    intro t i ht hi
    by_cases z : t.1 = 0
    · rw [num_zero z, ← ht, z]; rfl
    · have hsum : i < ((chs G t).map (wC G)).sum := by rw [cnt_chs z]; exact hi
      obtain ⟨c, r, hp, hm, hr⟩ := pick_some hsum
      rw [num_pick z hp hm]
      have sm := chs_small hm
      obtain ⟨x, hx, _, e1, e2⟩ := chs_mem.mp hm
      obtain ⟨_, h2, h3⟩ := live_mem hx
      rw [← e1] at h2
      rw [← e2] at h3
      have q1 : r / cnt G c.2.2 < cnt G c.2.1 := Nat.div_lt_of_lt_mul (by rw [Nat.mul_comm]; exact hr)
      have q2 : r % cnt G c.2.2 < cnt G c.2.2 := Nat.mod_lt _ (Nat.pos_of_ne_zero h3)
      have s1 := ih c.2.1.1 (by omega) c.2.1 _ rfl q1
      have s2 := ih c.2.2.1 (by omega) c.2.2 _ rfl q2
      show (num G c.2.1 _).size + 1 + (num G c.2.2 _).size = m
      omega
section
variable {P : Program} {w : World} {K : PySem.W.Frag} {mg : Str → Option Value} {base : Heap} {f : Addr} {fd : FuncData}
def spWhN : Sp := fun vs H Q _ => ∃ i : Int, vs = [.int i] ∧ Q (.bl true) H
theorem ok_whN {k : Nat} (F : Fun K "is_whole_number" "is_whole_number" s_is_whole_number f fd) (M : Mgs mg) : FnOk P w K mg base CX0 (k + 1) f fd ["value"] spWhN := by
  refine F.ok sc_is_whole_number (fun vs H Q E h => ?_) (fun cdv A outer s H vs Q E hr h => ?_)
  · obtain ⟨i, rfl, _⟩ := h
    rfl
  obtain ⟨i, rfl, q⟩ := h
  refine ⟨_, (pss_one (ps_ret (pe_and (pe_callB call_isi rfl M.isinstance (by decide +kernel) (pa_cons (pv 0) (pa_cons (pe_bltn (v := .ty "int") rfl M.int (by decide +kernel) rfl) pa_nil))) (pe_one (pe_not (pe_callB call_isi rfl M.isinstance (by decide +kernel) (pa_cons (pv 0) (pa_cons (pe_bltn (v := .ty "bool") rfl M.bool (by decide +kernel) rfl) pa_nil)))))))), ?_⟩
  refine ⟨_, rfl, _, _, _, _, true, rfl, .ty _, .base (.int i), kit_ty (by decide +kernel), _, rfl, iteT ?_⟩
  exact ⟨_, rfl, _, _, _, _, false, rfl, .ty _, .base (.int i), kit_ty (by decide +kernel), _, rfl, q⟩
def spIndex : Sp := fun vs H Q _ => ∃ i n : Int, vs = [.int i, .int n] ∧ Q (.bl (decide (0 ≤ i) && decide (i < n))) H
theorem ok_index {k : Nat} (F : Fun K "is_index" "is_index" s_is_index f fd) (Dis_whole_number : Df P w K mg base (k + 1) "is_whole_number" ["value"] spWhN) : FnOk P w K mg base CX0 (k + 2) f fd ["value", "many"] spIndex := by
  refine F.ok sc_is_index (fun vs H Q E h => ?_) (fun cdv A outer s H vs Q E hr h => ?_)
  · obtain ⟨i, n, rfl, _⟩ := h
    rfl
  obtain ⟨i, n, rfl, q⟩ := h
  refine ⟨_, (pss_one (ps_ret (pe_and (pe_call Dis_whole_number.ok (hr.mono (by omega)) rfl Dis_whole_number.g Dis_whole_number.kp Dis_whole_number.b .nil pass0 (pa_cons (pv 0) pa_nil)) (pe_one (pe_chain op_le op_lt pe_int (pv 0) (pv 1)))))), ?_⟩
  refine ⟨_, rfl, i, rfl, _, rfl, iteT ?_⟩
  refine ⟨_, rfl, _, _, rfl, rfl, _, rfl, ?_⟩
  by_cases h0 : (0 : Int) ≤ i
  · rw [decide_eq_true h0] at q ⊢
    exact iteT ⟨_, rfl, _, _, rfl, rfl, q⟩
  · rw [decide_eq_false h0] at q ⊢
    exact iteF q
theorem sc_tree_at : FnScope ["index", "rows", "given", "counts", "whole"] ["index", "rows"] (defScope s_tree_at) := ⟨rfl, rfl, rfl, by decide +kernel, rfl, by decide +kernel, by decide +kernel⟩
theorem ok_treeAt {ks : List Kd} (h3 : ks.length ≤ 3) (F : Fun K "tree_at" "tree_at" s_tree_at f fd) (Bk : KwBind fd ["index"] "rows" (ks.map Kd.str)) (Dthree_rows : Df P w K mg base 3 "three_rows" ["rows"] spThree) (Dwhole_of : Df P w K mg base 1 "whole_of" ["given"] spWhole) (Dcounts_of : Df P w K mg base 17 "counts_of" ["given"] spCounts)
    (Dis_index : Df P w K mg base 2 "is_index" ["value", "many"] spIndex) (Dnumbered_part : Df P w K mg base 18 "numbered_part" ["given", "counts", "stretch", "index"] (spNum 14)) : FnKw P w K mg base 19 f 1 (ks.map Kd.str) (spTreeAtT ks) := by
  refine fnKw (k := 18) F Bk (by rw [List.length_map]; omega) sc_tree_at fun cdv A outer s H vs zs d Q hr hd hl h => ?_
  obtain ⟨H0, n0, eH, i, L, n, rfl, nm, hi, q⟩ := h
  refine ⟨_, (pss_cons (ps_set (i := 2) sc_tree_at.nd rfl (.inl rfl) (pe_call Dthree_rows.ok (hr.mono (by omega)) rfl Dthree_rows.g Dthree_rows.kp Dthree_rows.b .nil pass0 (pa_cons (pv 1) pa_nil)))
    (pss_cons (ps_set (i := 3) sc_tree_at.nd rfl (.inl rfl) (pe_call Dcounts_of.ok (hr.mono (by omega)) rfl Dcounts_of.g Dcounts_of.kp Dcounts_of.b .nil pass0 (pa_cons (pv 2) pa_nil)))
    (pss_cons (ps_set (i := 4) sc_tree_at.nd rfl (.inl rfl) (pe_call Dwhole_of.ok (hr.mono (by omega)) rfl Dwhole_of.g Dwhole_of.kp Dwhole_of.b .nil pass0 (pa_cons (pv 2) pa_nil)))
    (pss_cons (ps_if (pt_not (pt_val (pe_call Dis_index.ok (hr.mono (by omega)) rfl Dis_index.g Dis_index.kp Dis_index.b .nil pass0 (pa_cons (pv 0) (pa_cons (pe_dget (Nat.lt_of_le_of_lt (Nat.add_le_add_left (by decide) _) hr.units) (pv 3) (pv 4) (fun _ _ => rfl)) pa_nil)))))
      (pss_one ps_never) pss_nil)
    (pss_one (ps_ret (pe_call Dnumbered_part.ok (hr.mono (by omega)) rfl Dnumbered_part.g Dnumbered_part.kp Dnumbered_part.b .nil pass0 (pa_cons (pv 2) (pa_cons (pv 3) (pa_cons (pv 4) (pa_cons (pv 0) pa_nil))))))))))), ?_⟩
  have e1 := nm.ks
  have e2 := nm.zs
  subst e1 e2
  rw [rows_zip] at hd eH
  have k0 := same_new n0 (.dK (rowsK L))
  rw [← eH] at k0
  have n12 := nm.g.few
  refine ⟨_, rfl, d, L, n, rfl, hd, nm.ne, nm.nd, nm.few, nm.ok, fun g H1 s1 eg => ?_⟩
  refine ⟨_, rfl, g, g3 L n, n, rfl, eg, nm.g, fun c kvs H2 s2 nc ec T m => ?_⟩
  refine ⟨_, rfl, g, g3 L n, n, rfl, s2 _ _ eg, nm.g, fun t H3 s3 et => ?_⟩
  have hh : Has (g3 L n) n (wholeS n) H3 c := ⟨kvs, s3 _ _ ec, T, m⟩
  refine ⟨_, rfl, _, rfl, _, rfl, c, _, rfl, hh.get et, _, _, rfl, ?_⟩
  rw [decide_eq_true (show (0 : Int) ≤ (i : Int) by omega), decide_eq_true (show (i : Int) < (cnt (g3 L n) (wholeS n) : Int) by omega)]
  refine ⟨_, rfl, iteF ?_⟩
  refine ⟨_, rfl, _, rfl, _, rfl, _, rfl, g, c, t, g3 L n, n, wholeS n, i, rfl, s3 _ _ (s2 _ _ eg), nm.g, et, whole_ok n, hh, (by show n < 14; omega), hi, fun v H4 s4 b4 => ?_⟩
  exact q v H4 (k0.trans (s1.trans (s2.trans (s3.trans s4)))) b4
end
/-! ### part_index -/
def keyC (c : Choice) : Nat × Nat := (c.1, c.2.1.1)
theorem comm_nodup (l : List Nat) : (comm l).Nodup := by
  unfold comm
  split
  · decide
  · split
    · exact List.nodup_cons.mpr ⟨by simp, List.nodup_nil⟩
    · exact List.nodup_nil
theorem spl_sizes (G : G3) (t : St4) : ∀ l : List Nat, (l.flatMap (splAt G t)).map (fun x => x.2.1.1) = l.filter fun s => decide (letS G t s ≠ [])
  | [] => rfl
  | s :: l => by
    rw [List.flatMap_cons, List.map_append, spl_sizes G t l]
    unfold splAt
    by_cases h : letS G t s = []
    · rw [if_pos h, List.filter_cons_of_neg (by simpa using h)]
      rfl
    · rw [if_neg h, List.filter_cons_of_pos (by simpa using h)]
      rfl
theorem raw_nodup : ∀ l : List Split, (l.map fun x => x.2.1.1).Nodup → (∀ x ∈ l, x.1.Nodup) → ((rawC l).map keyC).Nodup
  | [], _, _ => List.nodup_nil
  | x :: l, h1, h2 => by
    obtain ⟨n1, n2⟩ := List.nodup_cons.mp (show (x.2.1.1 :: l.map fun x => x.2.1.1).Nodup from h1)
    have ih := raw_nodup l n2 fun y hy => h2 y (List.mem_cons_of_mem _ hy)
    show ((chOf x ++ rawC l).map keyC).Nodup
    rw [List.map_append]
    refine List.nodup_append.mpr ⟨?_, ih, fun a ha b hb => ?_⟩
    · unfold chOf
      rw [List.map_map]
      refine List.Pairwise.map _ (fun a b hab e => hab ?_) (h2 x List.mem_cons_self)
      exact congrArg Prod.fst (show keyC (a, x.2.1, x.2.2) = keyC (b, x.2.1, x.2.2) from e)
    · rintro rfl
      obtain ⟨c, hc, e1⟩ := List.mem_map.mp ha
      obtain ⟨c', hc', e2⟩ := List.mem_map.mp hb
      obtain ⟨_, _, rfl⟩ := List.mem_map.mp hc
      obtain ⟨y, hy, hc'⟩ := List.mem_flatMap.mp hc'
      obtain ⟨_, _, rfl⟩ := List.mem_map.mp hc'
      have e := congrArg Prod.snd (e1.trans e2.symm)
      exact n1 (List.mem_map.mpr ⟨y, hy, e.symm⟩)
theorem chs_nodup (G : G3) (t : St4) : ((chs G t).map keyC).Nodup := by
  have h := raw_nodup (live G t) (by
    have e := spl_sizes G t (List.range t.1)
    have s : ((live G t).map fun x => x.2.1.1).Sublist ((spl G t).map fun x => x.2.1.1) := (List.filter_sublist).map _
    refine s.nodup ?_
    show (((List.range t.1).flatMap (splAt G t)).map fun x => x.2.1.1).Nodup
    rw [e]
    exact (List.filter_sublist).nodup List.nodup_range) fun x hx => by
      obtain ⟨s, _, e, _⟩ := spl_mem (live_mem hx).1
      rw [e]
      exact comm_nodup _
  exact ((List.mergeSort_perm _ _).map keyC).nodup_iff.mpr h
theorem pick_at {G : G3} : ∀ {cs : List Choice} {i : Nat} {c : Choice} {r : Nat}, pick G cs i = some (c, r) → ∃ j, cs[j]? = some c ∧ i = ((cs.take j).map (wC G)).sum + r
  | [], _, _, _, h => by cases h
  | a :: cs, i, c, r, h => by
    by_cases hi : i < wC G a
    · rw [show pick G (a :: cs) i = some (a, i) from if_pos hi] at h
      cases h
      exact ⟨0, rfl, (Nat.zero_add _).symm⟩
    · rw [show pick G (a :: cs) i = pick G cs (i - wC G a) from if_neg hi] at h
      obtain ⟨j, e1, e2⟩ := pick_at h
      refine ⟨j + 1, e1, ?_⟩
      rw [List.take_succ_cons, List.map_cons, List.sum_cons]
      omega
theorem nodup_get {α : Type} : ∀ {l : List α}, l.Nodup → ∀ {i j : Nat} {a : α}, l[i]? = some a → l[j]? = some a → i = j
  | [], _, _, _, _, h, _ => by simp at h
  | x :: l, nd, i, j, a, hi, hj => by
    rw [List.nodup_cons] at nd
    cases i with
    | zero =>
      cases j with
      | zero => rfl
      | succ j =>
        cases hi
        exact absurd (List.mem_of_getElem? (show l[j]? = some x from hj)) nd.1
    | succ i =>
      cases j with
      | zero =>
        cases hj
        exact absurd (List.mem_of_getElem? (show l[i]? = some x from hi)) nd.1
      | succ j => exact congrArg (· + 1) (nodup_get nd.2 hi hj)
theorem key_other {G : G3} {t : St4} {j k : Nat} {a b : Choice} (h : (chs G t)[j]? = some a) (g : (chs G t)[k]? = some b) (e : keyC a = keyC b) : j = k := by
  have nd := chs_nodup G t
  have h' : ((chs G t).map keyC)[j]? = some (keyC a) := by rw [List.getElem?_map, h]; rfl
  have g' : ((chs G t).map keyC)[k]? = some (keyC a) := by rw [List.getElem?_map, g, e]; rfl
  exact nodup_get nd h' g'
theorem eq_pair (a b s u : Nat) : PyData.eqv (.tuple [.str (ch a), .int (s : Int)]) (.tuple [.str (ch b), .int (u : Int)]) = decide ((a, s) = (b, u)) := by
  have e1 : PyData.eqv (.str (ch a)) (.str (ch b)) = decide (a = b) := by
    by_cases h : a = b
    · subst h; rw [decide_eq_true rfl]; simp [PyData.eqv]
    · rw [decide_eq_false h]
      have : ¬ ch a = ch b := fun z => h (ch_inj z)
      simp [PyData.eqv, this]
  have e2 : PyData.eqv (.int (s : Int)) (.int (u : Int)) = decide (s = u) := by
    by_cases h : s = u
    · subst h; rw [decide_eq_true rfl]; simp [PyData.eqv]
    · rw [decide_eq_false h]
      have : ¬ (s : Int) = (u : Int) := by omega
      simp [PyData.eqv, this]
  simp only [PyData.eqv, PyData.eqvAll] at e1 e2 ⊢
  rw [e1, e2]
  by_cases h1 : a = b
  · by_cases h2 : s = u
    · rw [h1, h2]; simp
    · simp [h2]
  · simp [h1]
theorem shaped_pair {a : Nat} (h : a ≤ 122) (s : Nat) : SeqAt.shaped (.tuple [.str (ch a), .int (s : Int)]) = true := by
  have e : PyData.strOk (ch a) = true := by
    show (ch a).cps.all (· < 0x110000) = true
    show (#[a] : Array Nat).all (· < 0x110000) = true
    have : a < 0x110000 := by omega
    simp [this]
  simp [SeqAt.shaped, PyData.canLay0, PyData.canLayAll0, PyData.depth, PyData.depthAll, e]
/-- the rows' signs -/
structure G3.Sg (G : G3) : Prop where
  a : ∀ c ∈ G.a, sgn c
  b : ∀ c ∈ G.b, sgn c
  c : ∀ c ∈ G.c, sgn c
theorem comm_low {l : List Nat} (h : ∀ x ∈ l, sgn x) : ∀ c ∈ comm l, 97 ≤ c ∧ c ≤ 122 := by
  intro c hc
  unfold comm at hc
  split at hc
  · obtain ⟨j, hj, rfl⟩ := List.mem_map.mp (show c ∈ (List.range 26).map (· + 97) from hc)
    have := List.mem_range.mp hj
    omega
  · next k d r hk =>
    split at hc
    · rw [List.mem_singleton.mp hc]
      have hd : d ∈ knownL l := by rw [hk]; exact List.mem_cons_self
      obtain ⟨h1, h2⟩ := List.mem_filter.mp hd
      rcases h d h1 with z | z
      · exact absurd z (of_decide_eq_true h2)
      · exact z
    · cases hc
theorem getD_sgn {l : List Nat} (h : ∀ c ∈ l, sgn c) (i : Nat) : sgn (l.getD i 63) := by
  rw [List.getD_eq_getElem?_getD]
  cases e : l[i]? with
  | none => exact .inl rfl
  | some c => exact h c (List.mem_of_getElem? e)
theorem letS_low {G : G3} (g : G.Sg) (t : St4) (s : Nat) : ∀ c ∈ letS G t s, 97 ≤ c ∧ c ≤ 122 := comm_low fun x hx => by
  rcases List.mem_cons.mp hx with rfl | hx
  · exact getD_sgn g.a _
  rcases List.mem_cons.mp hx with rfl | hx
  · exact getD_sgn g.b _
  · rw [List.mem_singleton.mp hx]
    exact getD_sgn g.c _
theorem ch_low {G : G3} (g : G.Sg) {t : St4} {c : Choice} (h : c ∈ chs G t) : 97 ≤ c.1 ∧ c.1 ≤ 122 := by
  obtain ⟨x, hx, h1, _⟩ := chs_mem.mp h
  obtain ⟨s, _, e, _⟩ := spl_mem (live_mem hx).1
  rw [e] at h1
  exact letS_low g t s _ h1
theorem rowOf_sgn {L : Rows} {n : Nat} (ok : ∀ p ∈ L, RowOk p.2 ∧ p.2.length = n) (k : Kd) : ∀ c ∈ rowOf L n k, sgn c := by
  intro c hc
  unfold rowOf at hc
  cases h : L.find? (fun p => decide (p.1 = k)) with
  | none =>
    rw [h] at hc
    exact .inl (List.eq_of_mem_replicate hc)
  | some p =>
    rw [h] at hc
    exact (ok p (List.mem_of_find?_eq_some h)).1.all c hc
theorem Named.sg {ks : List Kd} {zs : List V} {L : Rows} {n : Nat} (h : Named ks zs L n) : (g3 L n).Sg := ⟨rowOf_sgn h.ok .first, rowOf_sgn h.ok .between, rowOf_sgn h.ok .last⟩
def spPart (N : Nat) : Sp := fun vs H Q _ => ∃ (g d t : Addr) (v : V) (G : G3) (n : Nat) (st : St4) (i : Nat), vs = [.ref g, .ref d, .ref t, v] ∧ H g = some (.tup G.tup) ∧ G.Ok n ∧ G.Sg ∧ H t = some (.tup (stV st)) ∧ OkS n st ∧ Has G n st H d ∧ st.1 < N ∧ i < cnt G st ∧ BAt H v (num G st i) ∧
  ∀ H', Same H H' → Q (.int (i : Int)) H'
section
variable {P : Program} {w : World} {K : PySem.W.Frag} {mg : Str → Option Value} {base : Heap} {f : Addr} {fd : FuncData}
theorem ok_part (F : Fun K "part_index" "part_index" s_part_index f fd) (M : Mgs mg) (b : Binds K fd ["given", "counts", "stretch", "tree"] []) (g : mg "part_index" = some (.ref f)) (Dsize_of : Df P w K mg base 60 "size_of" ["tree"] (fun vs H Q _ => ∃ (v : V) (t : B), vs = [v] ∧ BAt H v t ∧ t.size < 60 ∧ Q (.int (t.size : Int)) H))
    (Dchoices : Df P w K mg base 4 "choices" ["given", "counts", "stretch"] spChoices) : ∀ N : Nat, FnOk P w K mg base CX0 (60 + N) f fd ["given", "counts", "stretch", "tree"] (spPart N)
  | 0 => by
    have no : ∀ vs H Q E, ¬ spPart 0 vs H Q E := fun vs H Q E h => by
      obtain ⟨g, d, t, v, G, n, st, i, _, _, _, _, _, _, _, h1, _⟩ := h
      omega
    exact ⟨fun vs H Q E h => absurd h (no vs H Q E), fun A outer s H args us vs Q E _ _ _ _ h => absurd h (no vs H Q E)⟩
  | N + 1 => by
    have Dself : Df P w K mg base (60 + N) "part_index" ["given", "counts", "stretch", "tree"] (spPart N) := ⟨f, fd, ok_part F M b g Dsize_of Dchoices N, b, F.kp, g⟩
    refine F.ok (k := 60 + N) sc_part_index (fun vs H Q E h => ?_) (fun cdv A outer s H vs Q E hr h => ?_)
    · obtain ⟨g, d, t, v, G, n, st, i, rfl, _⟩ := h
      rfl
    obtain ⟨g, d, t, v, G, n, st, i, rfl, eg, gok, gsg, et, ok, hd, hN, hi, hv, q⟩ := h
    have n12 := gok.few
    have st12 : st.1 ≤ 12 := by have := ok.i; omega
    refine ⟨_, (pss_cons (ps_if (pt_cmpR op_isN (pv 3) pe_non (nomark _))
      (pss_one (ps_ret pe_int)) pss_nil)
    (pss_cons (ps_set (i := 4) sc_part_index.nd rfl (.inl rfl) pe_int)
    (pss_cons (ps_for PassesOwn.never rfl (pi_list (pe_call Dchoices.ok (hr.mono (by omega)) rfl Dchoices.g Dchoices.kp Dchoices.b .nil pass0 (pa_cons (pv 0) (pa_cons (pv 1) (pa_cons (pv 2) pa_nil))))) (pg_tup rfl (pgs_cons (pg_name (i := 5) sc_part_index.nd rfl (.inl rfl)) (pgs_cons (pg_name (i := 6) sc_part_index.nd rfl (.inl rfl)) (pgs_cons (pg_name (i := 7) sc_part_index.nd rfl (.inl rfl)) pgs_nil))))
      (pss_cons (ps_if (pt_cmpR (op_eqD hr.units) (pe_tup (pa_cons (pv 5) (pa_cons (pe_ix ix_tup (pv 6) pe_int (fun _ _ => rfl)) pa_nil))) (pe_tup (pa_cons (pe_ix ix_tup (pv 3) pe_int (fun _ _ => rfl)) (pa_cons (pe_call Dsize_of.ok (hr.mono (by omega)) rfl Dsize_of.g Dsize_of.kp Dsize_of.b .nil pass0 (pa_cons (pe_ix ix_tup (pv 3) pe_int (fun _ _ => rfl)) pa_nil)) pa_nil))) (nomark _))
      (pss_one ps_break) pss_nil)
    (pss_one (ps_aug (i := 4) sc_part_index.nd rfl (.inl rfl) (pe_op op_mul (pe_dget (Nat.lt_of_le_of_lt (Nat.add_le_add_left (by decide) _) hr.units) (pv 1) (pv 6) (fun _ _ => rfl)) (pe_dget (Nat.lt_of_le_of_lt (Nat.add_le_add_left (by decide) _) hr.units) (pv 1) (pv 7) (fun _ _ => rfl))) ip_add))))
    (pss_cons (ps_set (i := 8) sc_part_index.nd rfl (.inl rfl) (pe_call Dself.ok (hr.mono (by omega)) rfl Dself.g Dself.kp Dself.b .nil pass0 (pa_cons (pv 0) (pa_cons (pv 1) (pa_cons (pv 6) (pa_cons (pe_ix ix_tup (pv 3) pe_int (fun _ _ => rfl)) pa_nil))))))
    (pss_one (ps_ret (pe_op op_add (pe_op op_add (pv 4) (pe_op op_mul (pv 8) (pe_dget (Nat.lt_of_le_of_lt (Nat.add_le_add_left (by decide) _) hr.units) (pv 1) (pv 7) (fun _ _ => rfl)))) (pe_call Dself.ok (hr.mono (by omega)) rfl Dself.g Dself.kp Dself.b .nil pass0 (pa_cons (pv 0) (pa_cons (pv 1) (pa_cons (pv 7) (pa_cons (pe_ix ix_tup (pv 3) pe_int (fun _ _ => rfl)) pa_nil)))))))))))), ?_⟩
    by_cases z : st.1 = 0
    · rw [num_zero z] at hv
      obtain ⟨rfl, _⟩ | ⟨_, _, _, _, _, _, _, e, _⟩ := hv.inv
      · refine ⟨_, rfl, rfl, _, rfl, iteT ?_⟩
        have i0 : i = 0 := by
          rw [cnt_eq, if_pos z] at hi
          omega
        rw [i0] at q
        exact q H (Same.refl _)
      · cases e
    · have hsum : i < ((chs G st).map (wC G)).sum := by rw [cnt_chs z]; exact hi
      obtain ⟨c, r, hp, hm, hr2⟩ := pick_some hsum
      rw [num_pick z hp hm] at hv
      obtain ⟨_, e⟩ | ⟨a, l0, r0, x, tl, tr, rfl, e, ea, hl, hr'⟩ := hv.inv
      · cases e
      cases e
      obtain ⟨okl, okr, nl, nr⟩ := ok_of_ch ok hm
      have sm := chs_small hm
      obtain ⟨j, ej, ei⟩ := pick_at hp
      have rc : 0 < cnt G c.2.2 := Nat.pos_of_ne_zero nr
      have qd : r / cnt G c.2.2 < cnt G c.2.1 := Nat.div_lt_of_lt_mul (by rw [Nat.mul_comm]; exact hr2)
      have qm : r % cnt G c.2.2 < cnt G c.2.2 := Nat.mod_lt _ rc
      have sl := num_size c.2.1.1 c.2.1 _ rfl qd
      refine ⟨_, rfl, rfl, _, rfl, iteF ?_⟩
      refine seq_cutN (fun σ H' => σ = [some (.ref g), some (.ref d), some (.ref t), some (.ref a), some (.int 0), none, none, none, none] ∧ H' = H) (fun σ H0 hp0 => ?_) (fun fin => fin _ _ ⟨rfl, rfl⟩)
      obtain ⟨rfl, rfl⟩ := hp0
      refine seq_cut (fun σ H' => ∃ (lv rv : Addr), σ = [some (.ref g), some (.ref d), some (.ref t), some (.ref a), some (.int ((((chs G st).take j).map (wC G)).sum : Nat)), some (vc c.1), some (.ref lv), some (.ref rv), none] ∧ Same H0 H' ∧ H' lv = some (.tup (stV c.2.1)) ∧ H' rv = some (.tup (stV c.2.2))) (fun σ H2 hp2 => ?_) (fun fin => ?_)
      · obtain ⟨lv, rv, rfl, s2, el, er⟩ := hp2
        obtain ⟨hdl, hdr⟩ := has_of_ch (hd.same s2) hm
        have ea2 := s2 _ _ ea
        have eg2 := s2 _ _ eg
        refine ⟨_, rfl, _, rfl, _, rfl, _, rfl, a, _, _, _, rfl, rfl, SqT.of ea2, atI_nat (j := 0) rfl, g, d, lv, l0, G, n, c.2.1, r / cnt G c.2.2, rfl, eg2, gok, gsg, el, okl, hdl, by omega, qd, hl.same s2, fun H3 s3 => ?_⟩
        have er3 := s3 _ _ er
        have hdr3 := hdr.same s3
        refine ⟨_, rfl, _, rfl, _, rfl, _, rfl, d, _, rfl, hdr3.get er3, _, _, rfl, rfl, mul_ok2 ?_, _, _, rfl, rfl, ?_⟩
        · rcases (show c.2.1.1 ≤ 5 ∨ c.2.2.1 ≤ 5 by omega) with y | y
          · exact .inl (Nat.lt_trans qd (cnt_small G y))
          · exact .inr (cnt_small G y)
        refine ⟨_, rfl, _, rfl, _, rfl, _, rfl, a, _, _, _, rfl, rfl, SqT.of (s3 _ _ ea2), atI_nat (j := 2) rfl, g, d, rv, r0, G, n, c.2.2, r % cnt G c.2.2, rfl, s3 _ _ eg2, gok, gsg, er3, okr, hdr3, by omega, qm, (hr'.same s2).same s3, fun H4 s4 => ?_⟩
        refine ⟨_, _, rfl, rfl, ?_⟩
        have e : ((((chs G st).take j).map (wC G)).sum : Int) + ((r / cnt G c.2.2 : Nat) : Int) * (cnt G c.2.2 : Int) + ((r % cnt G c.2.2 : Nat) : Int) = (i : Int) := by
          have h1 := Nat.div_add_mod r (cnt G c.2.2)
          rw [Nat.mul_comm] at h1
          rw [← Int.natCast_mul, ei]
          omega
        have q4 := q H4 (s2.trans (s3.trans s4))
        rw [← e] at q4
        exact q4
      · refine ⟨_, rfl, _, rfl, _, rfl, g, d, t, G, n, st, rfl, eg, gok, et, ok, hd, fun p us H1 s1 ep cs => ?_⟩
        refine ⟨p, rfl, ⟨_, SqL.of ep⟩, ?_⟩
        have ll := cs.len
        have jl := (List.getElem?_eq_some_iff.mp ej).1
        refine for_list (K := K) (a := p) (xs := us) (fun x σ H' => ∃ (o5 o6 o7 : Option V), σ = [some (.ref g), some (.ref d), some (.ref t), some (.ref a), some (.int ((((chs G st).take x).map (wC G)).sum : Nat)), o5, o6, o7, none] ∧ Same H1 H' ∧ x ≤ j) ⟨none, none, none, rfl, Same.refl _, Nat.zero_le _⟩ (fun x σ H' _ hp2 => by obtain ⟨_, _, _, _, sm, _⟩ := hp2; exact SqL.of (sm _ _ ep)) (fun x u σ H' hx hp2 => ?_) (fun σ H' hp2 => ?_)
        · obtain ⟨o5, o6, o7, rfl, sm1, hxj⟩ := hp2
          obtain ⟨cx, ecx, pp, lv, rv, rfl, e1, e2, e3⟩ := cs.get hx
          have e1' := sm1 _ _ e1
          have e2' := sm1 _ _ e2
          have e3' := sm1 _ _ e3
          have hmx := List.mem_of_getElem? ecx
          have s01 := s1.trans sm1
          refine ⟨pp, _, rfl, SqT.of e1', rfl, _, _, rfl, _, _, rfl, _, _, rfl, rfl, ?_⟩
          refine ⟨_, rfl, _, rfl, lv, _, _, _, rfl, rfl, SqT.of e2', atI_nat (j := 0) rfl, (by show 2 ≤ sizeLine; decide), fun p1 np1 => ?_⟩
          have k1 := same_new np1 (.tup [vc cx.1, .int (cx.2.1.1 : Int)])
          have ep1 := upd_same (H := H') (a := p1) (o := .tup [vc cx.1, .int (cx.2.1.1 : Int)])
          have ea1 := k1 _ _ (s01 _ _ ea)
          refine ⟨_, rfl, a, _, _, _, rfl, rfl, SqT.of ea1, atI_nat (j := 1) rfl, _, rfl, a, _, _, _, rfl, rfl, SqT.of ea1, atI_nat (j := 0) rfl, l0, _, rfl, (hl.same s01).same k1, by rw [sl]; omega, (by show 2 ≤ sizeLine; decide), fun p2 np2 => ?_⟩
          rw [sl]
          have k2 := same_new np2 (.tup [vc c.1, .int (c.2.1.1 : Int)])
          have c1 := ch_low gsg hmx
          have c2 := ch_low gsg hm
          refine ⟨_, _, .tup (SqT.of (k2 _ _ ep1)) (.cons (.str _) (.cons (.int _) .nil)), .tup (SqT.of upd_same) (.cons (.str _) (.cons (.int _) .nil)), shaped_pair c1.2 _, shaped_pair c2.2 _, _, rfl, ?_⟩
          rw [eq_pair]
          have sE := sm1.trans (k1.trans k2)
          by_cases he : (cx.1, cx.2.1.1) = (c.1, c.2.1.1)
          · rw [decide_eq_true he]
            have xj : x = j := key_other ecx ej he
            subst xj
            rw [ej] at ecx
            cases ecx
            exact iteT (fin _ _ ⟨lv, rv, rfl, s1.trans sE, sE _ _ e2, sE _ _ e3⟩)
          · rw [decide_eq_false he]
            refine iteF ?_
            have xj : x < j := by
              have : x ≠ j := fun e => he (by rw [e] at ecx; rw [ej] at ecx; cases ecx; rfl)
              omega
            obtain ⟨hdl, hdr⟩ := has_of_ch ((hd.same s1).same sE) hmx
            have smx := chs_small hmx
            refine ⟨_, rfl, _, rfl, _, rfl, d, _, rfl, hdl.get (sE _ _ e2), _, rfl, _, rfl, d, _, rfl, hdr.get (sE _ _ e3), _, _, rfl, rfl, mul_ok2 ?_, ?_⟩
            · rcases (show cx.2.1.1 ≤ 5 ∨ cx.2.2.1 ≤ 5 by omega) with y | y
              · exact .inl (cnt_small G y)
              · exact .inr (cnt_small G y)
            refine ⟨_, _, rfl, rfl, some (vc cx.1), some (.ref lv), some (.ref rv), ?_, sE, xj⟩
            have e : ((((chs G st).take x).map (wC G)).sum : Int) + (cnt G cx.2.1 : Int) * (cnt G cx.2.2 : Int) = ((((chs G st).take (x + 1)).map (wC G)).sum : Nat) := by
              rw [take_next ecx, List.map_append, List.sum_append, show ([cx].map (wC G)).sum = cnt G cx.2.1 * cnt G cx.2.2 from Nat.add_zero _, ← Int.natCast_mul]
              omega
            exact congrArg (fun y => [some (.ref g), some (.ref d), some (.ref t), some (.ref a), some (V.int y), some (vc cx.1), some (.ref lv), some (.ref rv), none]) e
        · obtain ⟨_, _, _, _, _, hxj⟩ := hp2
          omega
end
/-! ### the numbered trees fit; a tree that fits is counted -/
def Mat (r : List Nat) (o : Nat) (x : List Nat) : Prop := ∀ (q c : Nat), x[q]? = some c → r.getD (o + q) 63 = 63 ∨ r.getD (o + q) 63 = c
theorem mat_nil (r : List Nat) (o : Nat) : Mat r o [] := fun q c h => by simp at h
theorem mat_one {r : List Nat} {o c : Nat} : Mat r o [c] ↔ (r.getD o 63 = 63 ∨ r.getD o 63 = c) := by
  constructor
  · intro h
    exact h 0 c rfl
  · intro h q d e
    match q, e with
    | 0, e => cases e; exact h
    | q + 1, e => simp at e
theorem mat_app {r : List Nat} {o : Nat} {x y : List Nat} : Mat r o (x ++ y) ↔ Mat r o x ∧ Mat r (o + x.length) y := by
  constructor
  · intro h
    refine ⟨fun q c e => h q c ?_, fun q c e => ?_⟩
    · rw [List.getElem?_append_left (List.getElem?_eq_some_iff.mp e).1]; exact e
    · have := h (x.length + q) c (by rw [List.getElem?_append_right (Nat.le_add_right _ _), Nat.add_sub_cancel_left]; exact e)
      rwa [Nat.add_assoc]
  · rintro ⟨h1, h2⟩ q c e
    by_cases hq : q < x.length
    · rw [List.getElem?_append_left hq] at e
      exact h1 q c e
    · rw [List.getElem?_append_right (by omega)] at e
      have := h2 (q - x.length) c e
      rwa [show o + x.length + (q - x.length) = o + q by omega] at this
theorem comm_mat {l : List Nat} {c : Nat} (h : c ∈ comm l) : ∀ x ∈ l, x = 63 ∨ x = c := by
  intro x hx
  by_cases h63 : x = 63
  · exact .inl h63
  have hk : x ∈ knownL l := List.mem_filter.mpr ⟨hx, decide_eq_true h63⟩
  unfold comm at h
  split at h
  · next e => rw [e] at hk; cases hk
  · next d r e =>
    rw [e] at hk
    split at h
    · next e2 =>
      rw [e2] at hk
      rw [List.mem_singleton.mp h]
      exact .inr (List.eq_of_mem_replicate hk)
    · cases h
theorem mat_comm {l : List Nat} {c : Nat} (hc : 97 ≤ c ∧ c ≤ 122) (h : ∀ x ∈ l, x = 63 ∨ x = c) : c ∈ comm l := by
  have all : ∀ x ∈ knownL l, x = c := fun x hx => by
    obtain ⟨h1, h2⟩ := List.mem_filter.mp hx
    rcases h x h1 with z | z
    · exact absurd z (of_decide_eq_true h2)
    · exact z
  unfold comm
  split
  · exact List.mem_map.mpr ⟨c - 97, List.mem_range.mpr (by omega), by omega⟩
  · next d r e =>
    have hd : d = c := all d (by rw [e]; exact List.mem_cons_self)
    have hr : r = List.replicate r.length c := List.eq_replicate_iff.mpr ⟨rfl, fun x hx => all x (by rw [e]; exact List.mem_cons_of_mem _ hx)⟩
    have e2 : d :: r = List.replicate (r.length + 1) d := by
      rw [List.replicate_succ, hd]
      congr 1
    rw [if_pos e2, hd]
    exact List.mem_cons_self
/-- the tree fits the stretch -/
structure FitS (G : G3) (t : St4) (b : B) : Prop where
  sz : b.size = t.1
  fa : Mat G.a t.2.1 b.pre
  fb : Mat G.b t.2.2.1 b.mid
  fc : Mat G.c t.2.2.2 b.post
theorem fit_node {G : G3} {t : St4} {l r : B} {x : Nat} (h : FitS G (leftS t l.size) l) (g : FitS G (rightS t l.size) r) (hs : l.size + 1 + r.size = t.1) (hx : ∀ y ∈ [G.a.getD t.2.1 63, G.b.getD (t.2.2.1 + l.size) 63, G.c.getD (t.2.2.2 + t.1 - 1) 63], y = 63 ∨ y = x) : FitS G t (.node l x r) := by
  obtain ⟨m, i, j, k⟩ := t
  have ha := hx _ List.mem_cons_self
  have hb := hx _ (List.mem_cons_of_mem _ List.mem_cons_self)
  have hc := hx _ (List.mem_cons_of_mem _ (List.mem_cons_of_mem _ List.mem_cons_self))
  refine ⟨hs, ?_, ?_, ?_⟩
  · show Mat G.a i ([x] ++ (l.pre ++ r.pre))
    refine mat_app.mpr ⟨mat_one.mpr ha, mat_app.mpr ⟨h.fa, ?_⟩⟩
    have := g.fa
    rw [l.pre_len]
    exact this
  · show Mat G.b j (l.mid ++ ([x] ++ r.mid))
    refine mat_app.mpr ⟨h.fb, mat_app.mpr ⟨?_, ?_⟩⟩
    · rw [l.mid_len]; exact mat_one.mpr hb
    · rw [l.mid_len]; exact g.fb
  · show Mat G.c k (l.post ++ r.post ++ [x])
    have e1 : l.post.length = l.size := l.wk_len .last
    have e2 : r.post.length = r.size := r.wk_len .last
    refine mat_app.mpr ⟨mat_app.mpr ⟨h.fc, ?_⟩, ?_⟩
    · rw [e1]; exact g.fc
    · rw [List.length_append, e1, e2, show k + (l.size + r.size) = k + m - 1 by simp only at hs; omega]
      exact mat_one.mpr hc
theorem node_fit {G : G3} {t : St4} {l r : B} {x : Nat} (h : FitS G t (.node l x r)) : FitS G (leftS t l.size) l ∧ FitS G (rightS t l.size) r ∧ ∀ y ∈ [G.a.getD t.2.1 63, G.b.getD (t.2.2.1 + l.size) 63, G.c.getD (t.2.2.2 + t.1 - 1) 63], y = 63 ∨ y = x := by
  obtain ⟨m, i, j, k⟩ := t
  have hs : l.size + 1 + r.size = m := h.sz
  have e1 : l.post.length = l.size := l.wk_len .last
  have e2 : r.post.length = r.size := r.wk_len .last
  obtain ⟨a1, a2⟩ := mat_app.mp (show Mat G.a i ([x] ++ (l.pre ++ r.pre)) from h.fa)
  obtain ⟨a3, a4⟩ := mat_app.mp a2
  obtain ⟨b1, b2⟩ := mat_app.mp (show Mat G.b j (l.mid ++ ([x] ++ r.mid)) from h.fb)
  obtain ⟨b3, b4⟩ := mat_app.mp b2
  obtain ⟨c1, c2⟩ := mat_app.mp (show Mat G.c k (l.post ++ r.post ++ [x]) from h.fc)
  obtain ⟨c3, c4⟩ := mat_app.mp c1
  rw [l.pre_len] at a4
  rw [l.mid_len] at b3 b4
  rw [e1] at c4
  rw [List.length_append, e1, e2, show k + (l.size + r.size) = k + m - 1 by omega] at c2
  refine ⟨⟨rfl, a3, b1, c3⟩, ⟨by show r.size = m - 1 - l.size; omega, a4, b4, c4⟩, fun y hy => ?_⟩
  rcases List.mem_cons.mp hy with rfl | hy
  · exact mat_one.mp a1
  rcases List.mem_cons.mp hy with rfl | hy
  · exact mat_one.mp b3
  · rw [List.mem_singleton.mp hy]
    exact mat_one.mp c2
theorem num_fits {G : G3} : ∀ (m : Nat) (t : St4) (i : Nat), t.1 = m → i < cnt G t → FitS G t (num G t i) := by
  intro m
  induction m using Nat.strongRecOn with
  | ind m ih =>
    intro t i ht hi
    by_cases z : t.1 = 0
    · rw [num_zero z]
      exact ⟨z.symm, mat_nil _ _, mat_nil _ _, mat_nil _ _⟩
    · have hsum : i < ((chs G t).map (wC G)).sum := by rw [cnt_chs z]; exact hi
      obtain ⟨c, r, hp, hm, hr⟩ := pick_some hsum
      rw [num_pick z hp hm]
      have sm := chs_small hm
      obtain ⟨x, hx, h1, e1, e2⟩ := chs_mem.mp hm
      obtain ⟨hsp, h2, h3⟩ := live_mem hx
      obtain ⟨s, hs, q0, _, q1, q2⟩ := spl_mem hsp
      rw [← e1] at h2
      rw [← e2] at h3
      have d1 : r / cnt G c.2.2 < cnt G c.2.1 := Nat.div_lt_of_lt_mul (by rw [Nat.mul_comm]; exact hr)
      have d2 : r % cnt G c.2.2 < cnt G c.2.2 := Nat.mod_lt _ (Nat.pos_of_ne_zero h3)
      have f1 := ih c.2.1.1 (by omega) c.2.1 _ rfl d1
      have f2 := ih c.2.2.1 (by omega) c.2.2 _ rfl d2
      have es : c.2.1.1 = s := by rw [e1, q1]; rfl
      have sz := f1.sz
      rw [es] at sz
      rw [q0] at h1
      refine fit_node (by rw [sz, ← q1, ← e1]; exact f1) (by rw [sz, ← q2, ← e2]; exact f2) ?_ (by rw [sz]; exact comm_mat h1)
      have := f2.sz
      omega
theorem cnt_pos {G : G3} : ∀ (b : B) (t : St4), FitS G t b → (∀ c ∈ b.pre, 97 ≤ c ∧ c ≤ 122) → 0 < cnt G t
  | .nil, t, h, _ => by
    rw [cnt_eq, if_pos (show t.1 = 0 from h.sz.symm)]
    exact Nat.one_pos
  | .node l x r, t, h, low => by
    obtain ⟨h1, h2, h3⟩ := node_fit h
    have hs : l.size + 1 + r.size = t.1 := h.sz
    have p1 := cnt_pos l _ h1 fun c hc => low c (List.mem_cons_of_mem _ (List.mem_append_left _ hc))
    have p2 := cnt_pos r _ h2 fun c hc => low c (List.mem_cons_of_mem _ (List.mem_append_right _ hc))
    have hm : x ∈ letS G t l.size := mat_comm (low x List.mem_cons_self) h3
    have hl : letS G t l.size ≠ [] := fun e => by rw [e] at hm; cases hm
    have hx : (letS G t l.size, leftS t l.size, rightS t l.size) ∈ spl G t := List.mem_flatMap.mpr ⟨l.size, List.mem_range.mpr (by omega), by unfold splAt; rw [if_neg hl]; exact List.mem_cons_self⟩
    rw [cnt_eq, if_neg (by omega)]
    have l0 : 0 < (letS G t l.size).length := List.length_pos_iff.mpr hl
    have tp : 0 < term G (letS G t l.size, leftS t l.size, rightS t l.size) := Nat.mul_pos (Nat.mul_pos l0 p1) p2
    have : ∀ l : List Nat, ∀ y ∈ l, y ≤ l.sum := fun l => by
      induction l with
      | nil => intro y hy; cases hy
      | cons a l ih =>
        intro y hy
        rw [List.sum_cons]
        rcases List.mem_cons.mp hy with rfl | hy
        · omega
        · have := ih y hy; omega
    exact Nat.lt_of_lt_of_le tp (this _ _ (List.mem_map.mpr ⟨_, hx, rfl⟩))
theorem fit_of_mat {r x : List Nat} (hl : r.length = x.length) (h : Mat r 0 x) : fit r x = true := by
  unfold fit tst
  rw [List.all_map, List.all_eq_true]
  intro p hp
  obtain ⟨q, hq⟩ := List.getElem?_of_mem hp
  obtain ⟨h1, h2⟩ := List.getElem?_zip_eq_some.mp hq
  have := h q p.2 h2
  rw [Nat.zero_add, List.getD_eq_getElem?_getD, h1] at this
  show (decide (p.1 = 63) || decide (p.1 = p.2)) = true
  rcases this with z | z
  · rw [decide_eq_true (show p.1 = 63 from z)]; rfl
  · rw [decide_eq_true (show p.1 = p.2 from z), Bool.or_true]
theorem mat_of_fit {r x : List Nat} (hl : r.length = x.length) (h : fit r x = true) : Mat r 0 x := by
  intro q c e
  have hq := (List.getElem?_eq_some_iff.mp e).1
  have hr : r[q]? = some r[q] := List.getElem?_eq_getElem (by omega)
  unfold fit tst at h
  rw [List.all_map, List.all_eq_true] at h
  have hp : (r[q], c) ∈ r.zip x := List.mem_of_getElem? (List.getElem?_zip_eq_some (z := (r[q], c)) |>.mpr ⟨hr, e⟩)
  have := h _ hp
  have this : (decide (r[q] = 63) || decide (r[q] = c)) = true := this
  rw [Bool.or_eq_true, decide_eq_true_eq, decide_eq_true_eq] at this
  rw [Nat.zero_add, List.getD_eq_getElem?_getD, hr]
  exact this
theorem num_fit3 {G : G3} {n i : Nat} (ok : G.Ok n) (h : i < cnt G (wholeS n)) : (num G (wholeS n) i).size = n ∧ fit3 G.a G.b G.c (num G (wholeS n) i) = true := by
  have f := num_fits n (wholeS n) i rfl h
  have sz : (num G (wholeS n) i).size = n := f.sz
  refine ⟨sz, ?_⟩
  unfold fit3
  have e : (num G (wholeS n) i).post.length = n := ((num G (wholeS n) i).wk_len .last).trans sz
  rw [fit_of_mat (by rw [ok.a, B.pre_len, sz]) f.fa, fit_of_mat (by rw [ok.b, B.mid_len, sz]) f.fb, fit_of_mat (by rw [ok.c, e]) f.fc]
  rfl
/-! ### is_letter, is_node, is_tree of a tree -/
def isLow (c : Nat) : Bool := decide (97 ≤ c) && decide (c ≤ 122)
def isLt : List Nat → Bool
  | [c] => isLow c
  | _ => false
def spLow : Sp := fun vs H Q _ => ∃ l : List Nat, vs = [.str (tx l)] ∧ l.length ≤ 1 ∧ Q (.bl (isLt l)) H
/-- all labels are letters -/
def B.lts (t : B) : Prop := ∀ c ∈ t.pre, isLow c = true
theorem B.lts_node {l r : B} {x : Nat} : (B.node l x r).lts ↔ isLow x = true ∧ l.lts ∧ r.lts := by
  unfold B.lts
  constructor
  · intro h
    exact ⟨h x List.mem_cons_self, fun c hc => h c (List.mem_cons_of_mem _ (List.mem_append_left _ hc)), fun c hc => h c (List.mem_cons_of_mem _ (List.mem_append_right _ hc))⟩
  · rintro ⟨h1, h2, h3⟩ c hc
    rcases List.mem_cons.mp hc with rfl | hc
    · exact h1
    · rcases List.mem_append.mp hc with hc | hc
      · exact h2 c hc
      · exact h3 c hc
theorem B.lts_nil : B.nil.lts := fun _ h => nomatch h
inductive FsAt (H : Hp) : List V → Nat → Prop
  | nil : FsAt H [] 0
  | cons {v : V} {t : B} {vs : List V} {n : Nat} : BAt H v t → t ≠ .nil → t.lts → FsAt H vs n → FsAt H (v :: vs) (t.size + n)
theorem B.size_pos {t : B} (h : t ≠ .nil) : 1 ≤ t.size := by
  cases t with
  | nil => exact absurd rfl h
  | node l x r => show 1 ≤ l.size + 1 + r.size; omega
theorem FsAt.same {H H' : Hp} (s : Same H H') {vs : List V} {n : Nat} (h : FsAt H vs n) : FsAt H' vs n := by
  induction h with
  | nil => exact .nil
  | cons a b c _ ih => exact .cons (a.same s) b c ih
theorem FsAt.keepT {H H' : Hp} (s : KeepT H H') {vs : List V} {n : Nat} (h : FsAt H vs n) : FsAt H' vs n := by
  induction h with
  | nil => exact .nil
  | cons a b c _ ih => exact .cons (a.keep s) b c ih
theorem FsAt.app {H : Hp} {vs ws : List V} {n m : Nat} (h : FsAt H vs n) (g : FsAt H ws m) : FsAt H (vs ++ ws) (n + m) := by
  induction h with
  | nil => rw [Nat.zero_add]; exact g
  | cons a b c _ ih => rw [Nat.add_assoc]; exact .cons a b c ih
theorem FsAt.len {H : Hp} {vs : List V} {n : Nat} (h : FsAt H vs n) : vs.length ≤ n := by
  induction h with
  | nil => exact Nat.le_refl _
  | cons _ b _ _ ih => have := B.size_pos b; rw [List.length_cons]; omega
theorem FsAt.last {H : Hp} {vs : List V} {n : Nat} (h : FsAt H vs n) : vs ≠ [] → ∃ v t m, vs[vs.length - 1]? = some v ∧ n = m + t.size ∧ BAt H v t ∧ t ≠ .nil ∧ t.lts ∧ FsAt H vs.dropLast m := by
  induction h with
  | nil => intro z; exact absurd rfl z
  | @cons v t vs n a b c hh ih =>
    intro _
    cases vs with
    | nil => cases hh; exact ⟨v, t, 0, rfl, by omega, a, b, c, .nil⟩
    | cons w ws =>
      obtain ⟨u, t', m, e1, e2, e3, e4, e5, e6⟩ := ih (by simp)
      refine ⟨u, t', t.size + m, ?_, by omega, e3, e4, e5, .cons a b c e6⟩
      show (w :: ws)[(w :: ws).length - 1]? = some u
      exact e1
def keepV : V → List V
  | .non => []
  | v => [v]
theorem keep_step {xs : List V} {j : Nat} {x : V} (h : xs[j]? = some x) : (xs.take (j + 1)).flatMap keepV = (xs.take j).flatMap keepV ++ keepV x := by
  rw [List.take_add_one, h, List.flatMap_append]
  congr 1
  show keepV x ++ [] = keepV x
  rw [List.append_nil]
theorem keep_len : ∀ xs : List V, (xs.flatMap keepV).length ≤ xs.length
  | [] => Nat.le_refl _
  | x :: xs => by
    have h := keep_len xs
    have h1 : (keepV x).length ≤ 1 := by cases x <;> first | exact Nat.zero_le _ | exact Nat.le_refl _
    rw [List.flatMap_cons, List.length_append, List.length_cons]
    omega
theorem FsAt.keep {H : Hp} {v : V} {t : B} (h : BAt H v t) (l : t.lts) : FsAt H (keepV v) t.size := by
  rcases h.inv with ⟨rfl, rfl⟩ | ⟨a, vl, vr, x, tl, tr, rfl, rfl, _⟩
  · exact .nil
  · exact .cons h (fun z => nomatch z) l .nil
def spNodeT : Sp := fun vs H Q _ => ∃ (v : V) (t : B), vs = [v] ∧ BAt H v t ∧ t ≠ .nil ∧ t.lts ∧ Q (.bl true) H
def spTreeT : Sp := fun vs H Q _ => ∃ (v : V) (t : B), vs = [v] ∧ BAt H v t ∧ t ≠ .nil ∧ t.lts ∧ t.size ≤ 12 ∧ ∀ H', Same H H' → Q (.bl true) H'
def toGo (σ : L2.St) : Nat := match σ[1]? with
  | some (some (V.int c)) => (13 - c).toNat
  | _ => 0
section
variable {P : Program} {w : World} {K : PySem.W.Frag} {mg : Str → Option Value} {base : Heap} {f : Addr} {fd : FuncData}
theorem ok_low {k : Nat} (F : Fun K "is_letter" "is_letter" s_is_letter f fd) (M : Mgs mg) : FnOk P w K mg base CX0 (k + 1) f fd ["value"] spLow := by
  refine F.ok sc_is_letter (fun vs H Q E h => ?_) (fun cdv A outer s H vs Q E hr h => ?_)
  · obtain ⟨l, rfl, _⟩ := h
    rfl
  obtain ⟨l, rfl, hl, q⟩ := h
  refine ⟨_, (pss_one (ps_ret (pe_and (pe_callB call_isi rfl M.isinstance (by decide +kernel) (pa_cons (pv 0) (pa_cons (pe_bltn (v := .ty "str") rfl M.str (by decide +kernel) rfl) pa_nil))) (pe_and (pe_cmpR op_eq (pe_callB call_len_str rfl M.len PySem.boot_len (pa_cons (pv 0) pa_nil)) pe_int (nomark _)) (pe_one (pe_chain op_le_str op_le_str pe_str (pv 0) pe_str)))))), ?_⟩
  refine ⟨_, rfl, _, _, _, _, true, rfl, .ty _, .base (.str (tx l)), kit_ty (by decide +kernel), _, rfl, iteT ?_⟩
  refine ⟨_, rfl, tx l, rfl, small (by rw [tx_len]; omega), rfl, _, rfl, ?_⟩
  match l, hl, q with
  | [], _, q => exact iteF q
  | [c], _, q =>
    rw [show decide (V.int ((tx [c]).length : Nat) = V.int 1) = true from rfl]
    refine iteT ⟨_, rfl, _, _, rfl, rfl, _, rfl, ?_⟩
    have e1 : (!decide ((tx [c]).cps.toList < (Str.ofString "a").cps.toList)) = decide (97 ≤ c) := by
      rw [show (Str.ofString "a").cps.toList = [97] by decide +kernel, show (tx [c]).cps.toList = [c] from rfl]
      by_cases h : c < 97
      · rw [decide_eq_true (by simp [List.cons_lt_cons_iff, h]), decide_eq_false (by omega)]; rfl
      · rw [decide_eq_false (by simp [List.cons_lt_cons_iff, h]), decide_eq_true (by omega)]; rfl
    have e2 : (!decide ((Str.ofString "z").cps.toList < (tx [c]).cps.toList)) = decide (c ≤ 122) := by
      rw [show (Str.ofString "z").cps.toList = [122] by decide +kernel, show (tx [c]).cps.toList = [c] from rfl]
      by_cases h : 122 < c
      · rw [decide_eq_true (by simp [List.cons_lt_cons_iff, h]), decide_eq_false (by omega)]; rfl
      · rw [decide_eq_false (by simp [List.cons_lt_cons_iff, h]), decide_eq_true (by omega)]; rfl
    rw [e1]
    have q : Q (.bl (decide (97 ≤ c) && decide (c ≤ 122))) H := q
    by_cases h : 97 ≤ c
    · rw [decide_eq_true h] at q ⊢
      refine iteT ⟨_, _, rfl, rfl, ?_⟩
      rw [e2]
      exact q
    · rw [decide_eq_false h] at q ⊢
      exact iteF q
theorem ok_node {k : Nat} (F : Fun K "is_node" "is_node" s_is_node f fd) (M : Mgs mg) (Dis_letter : Df P w K mg base (k + 1) "is_letter" ["value"] spLow) : FnOk P w K mg base CX0 (k + 2) f fd ["value"] spNodeT := by
  refine F.ok sc_is_node (fun vs H Q E h => ?_) (fun cdv A outer s H vs Q E hr h => ?_)
  · obtain ⟨v, t, rfl, _⟩ := h
    rfl
  obtain ⟨v, t, rfl, ht, hn, hl, q⟩ := h
  refine ⟨_, (pss_one (ps_ret (pe_and (pe_callB call_isi rfl M.isinstance (by decide +kernel) (pa_cons (pv 0) (pa_cons (pe_bltn (v := .ty "tuple") rfl M.tuple (by decide +kernel) rfl) pa_nil))) (pe_and (pe_cmpR op_eq (pe_callB call_len_seq rfl M.len PySem.boot_len (pa_cons (pv 0) pa_nil)) pe_int (nomark _)) (pe_one (pe_call Dis_letter.ok (hr.mono (by omega)) rfl Dis_letter.g Dis_letter.kp Dis_letter.b .nil pass0 (pa_cons (pe_ix ix_tup (pv 0) pe_int (fun _ _ => rfl)) pa_nil))))))), ?_⟩
  rcases ht.inv with ⟨_, rfl⟩ | ⟨a, vl, vr, x, tl, tr, rfl, rfl, e, _⟩
  · exact absurd rfl hn
  have hx := (B.lts_node.mp hl).1
  refine ⟨_, rfl, _, _, _, _, true, rfl, .ty _, .base (.tup e), kit_ty (by decide +kernel), _, rfl, iteT ?_⟩
  refine ⟨_, rfl, a, _, rfl, .inr (SqT.of e), rfl, _, rfl, iteT ?_⟩
  refine ⟨_, rfl, a, _, 1, _, rfl, rfl, SqT.of e, atI_nat (j := 1) rfl, [x], rfl, Nat.le_refl _, ?_⟩
  have : isLt [x] = true := hx
  rw [this]
  exact q
theorem ok_isTree {tM : Tok} (F : Fun K "is_tree" "is_tree" s_is_tree f fd) (mMAX : mg "MAX_NODES" = some (.int 12 tM)) (Dis_node : Df P w K mg base 2 "is_node" ["value"] spNodeT) : FnOk P w K mg base CX0 3 f fd ["value"] spTreeT := by
  refine F.ok sc_is_tree (fun vs H Q E h => ?_) (fun cdv A outer s H vs Q E hr h => ?_)
  · obtain ⟨v, t, rfl, _⟩ := h
    rfl
  obtain ⟨v, t, rfl, ht, hn, hlt, hsz, q⟩ := h
  refine ⟨_, (pss_cons (ps_set (i := 1) sc_is_tree.nd rfl (.inl rfl) pe_int)
    (pss_cons (ps_set (i := 2) sc_is_tree.nd rfl (.inl rfl) (pe_lst (pa_cons (pv 0) pa_nil)))
    (pss_cons (ps_while PassesOwn.never (pt_truth (pv 2) (by intro _; rfl))
      (pss_cons (ps_set (i := 3) sc_is_tree.nd rfl (.inl rfl) (pe_bm0 PySem.F.plainAttrs_list PySem.F.slot_list_pop PySem.F.type_list_pop mt_pop (pv 2)))
    (pss_cons (ps_aug (i := 1) sc_is_tree.nd rfl (.inl rfl) pe_int ip_add)
    (pss_cons (ps_if (PW.pt (pw_or (pt_cmpR op_gt (pv 1) (pe_glob (v := .int _) rfl mMAX ⟨_, rfl⟩) (nomark _)) (pw_or1 (pt_not (pt_val (pe_call Dis_node.ok (hr.mono (by omega)) rfl Dis_node.g Dis_node.kp Dis_node.b .nil pass0 (pa_cons (pv 3) pa_nil)))))))
      (pss_one (ps_ret pe_bl)) pss_nil)
    (pss_one (ps_expr (pe_bm PySem.F.plainAttrs_list PySem.F.slot_list_extend PySem.F.type_list_extend mt_extend (pv 2) (pa_cons (pe_lc (own := [("side", 4)]) (g := gName 4) rfl sc_is_tree.nd (pi_tup (pe_tup (pa_cons (pe_ix ix_tup (pv 3) pe_int (fun _ _ => rfl)) (pa_cons (pe_ix ix_tup (pv 3) pe_int (fun _ _ => rfl)) pa_nil)))) (blkOk_by (N := ["value", "count", "waiting", "part", "side"]) (sc := defScope s_is_tree) (by decide +kernel)) (fun _ _ _ _ _ => (pg_name (i := 4) sc_is_tree.nd rfl (.inl rfl))) (fun _ _ _ _ _ => pts_one (pt_cmpR op_notN (pv 4) pe_non (nomark _))) (fun _ _ _ _ _ => (pv 4))) pa_nil))))))))
    (pss_one (ps_ret pe_bl))))), ?_⟩
  refine ⟨_, rfl, (by show 1 ≤ sizeLine; decide), fun wa nw => ?_⟩
  have q0 := same_new nw (.lst [v])
  refine while_by (c := fun σ H' Q' => tVar 2 σ H' fun x H2 => ∃ k, TruV K x H2 k ∧ Q' k H2) (fun σ H' => ∃ (c n : Nat) (y3 : Option V) (ws : List V), σ = [some v, some (.int (c : Int)), some (.ref wa), y3, none] ∧ Same H H' ∧ H' wa = some (.lst ws) ∧ FsAt H' ws n ∧ c + n ≤ 12)
    (fun σ _ => toGo σ)
    ?_ (fun σ H' hp => ?_) ?_
  · exact ⟨0, _, none, [v], rfl, q0, upd_same, .cons (ht.same q0) hn hlt .nil, by omega⟩
  · obtain ⟨c, n, y3, ws, rfl, sm, ew, fs, hc⟩ := hp
    refine ⟨_, rfl, !ws.isEmpty, .inl ⟨ws, SqL.of ew, rfl⟩, ?_⟩
    cases ws with
    | nil => exact iteF (q H' sm)
    | cons w0 ws0 =>
      refine iteT ?_
      obtain ⟨p, tp, n', ep, rfl, hp, hpn, hpl, fs'⟩ := fs.last (by simp)
      have hp1 := B.size_pos hpn
      refine ⟨.ref wa, rfl, .inl ⟨rfl, _, SqL.of ew⟩, wa, _, p, rfl, rfl, ew, ep, ?_⟩
      refine ⟨_, rfl, _, _, rfl, rfl, ?_⟩
      have sm2 : Same H (upd H' wa (.lst (w0 :: ws0).dropLast)) := fun b o z => by
        rw [upd_ne (ne_of_none z nw)]
        exact sm _ _ z
      have kt : KeepT H' (upd H' wa (.lst (w0 :: ws0).dropLast)) := fun b xs z => by
        rw [upd_ne (ne_of z ew (by intro z; cases z))]
        exact z
      have ew2 : (upd H' wa (.lst (w0 :: ws0).dropLast)) wa = some (.lst (w0 :: ws0).dropLast) := upd_same
      have hp2 := hp.keep kt
      have fs2 : FsAt (upd H' wa (.lst (w0 :: ws0).dropLast)) (w0 :: ws0).dropLast n' := fs'.keepT kt
      generalize upd H' wa (.lst (w0 :: ws0).dropLast) = H2 at sm2 ew2 hp2 fs2 ⊢
      have lw := fs2.len
      generalize (w0 :: ws0).dropLast = W at ew2 fs2 lw ⊢
      refine ⟨_, rfl, _, _, rfl, rfl, _, rfl, ?_⟩
      rw [decide_eq_false (show ¬ ((c : Int) + 1 > 12) by omega)]
      refine iteF ?_
      refine ⟨_, rfl, p, tp, rfl, hp2, hpn, hpl, _, rfl, iteF ?_⟩
      rcases hp2.inv with ⟨_, rfl⟩ | ⟨a, vl, vr, x, tl, tr, rfl, rfl, e3, aL, aR⟩
      · exact absurd rfl hpn
      obtain ⟨_, l1, l3⟩ := B.lts_node.mp hpl
      have hsp : (B.node tl x tr).size = tl.size + 1 + tr.size := rfl
      refine ⟨.ref wa, rfl, .inl ⟨rfl, _, SqL.of ew2⟩, _, rfl, a, _, 0, vl, rfl, rfl, SqT.of e3, atI_nat (j := 0) rfl, _, rfl, a, _, 2, vr, rfl, rfl, SqT.of e3, atI_nat (j := 2) rfl, (by show 2 ≤ sizeLine; decide), fun tp ntp => ?_⟩
      have q6 := same_new ntp (.tup [vl, vr])
      refine ⟨tp, rfl, ⟨_, SqT.of upd_same⟩, fun L nL => ?_⟩
      have q7 := same_new nL (.lst [])
      refine lc_tup (K := K) (a := tp) (xs := [vl, vr]) (fun j H'' => Same (upd H2 tp (.tup [vl, vr])) H'' ∧ H'' L = some (.lst ((([vl, vr] : List V).take j).flatMap keepV))) ⟨q7, upd_same⟩ (fun j H'' _ hp => SqT.of (hp.1 _ _ upd_same)) (fun j x H'' hx hp => ?_) (fun H'' hp => ?_)
      · obtain ⟨s7, eL⟩ := hp
        refine ⟨rfl, _, rfl, rfl, _, rfl, ?_⟩
        by_cases hxn : x = .non
        · refine iteNS hxn ⟨s7, ?_⟩
          rw [keep_step hx, hxn]
          show _ = some (HO.lst (_ ++ []))
          rw [List.append_nil]
          exact eL
        · rw [decide_eq_false hxn]
          refine iteT ⟨x, rfl, _, eL, ?_, fun b o z => ?_, ?_⟩
          · have := keep_len (([vl, vr] : List V).take j)
            have h2 : (([vl, vr] : List V).take j).length ≤ 2 := by rw [List.length_take]; exact Nat.min_le_right _ _
            exact small1000 (by omega)
          · rw [upd_ne (ne_of_none z nL)]
            exact s7 _ _ z
          · rw [upd_same, keep_step hx]
            cases x <;> first | rfl | exact absurd rfl hxn
      · obtain ⟨s7, eL⟩ := hp
        have s8 : Same H2 H'' := q6.trans s7
        have eL' : H'' L = some (.lst (keepV vl ++ keepV vr)) := by
          rw [eL]
          show some (HO.lst (keepV vl ++ (keepV vr ++ []))) = _
          rw [List.append_nil]
        have k1 : (keepV vl).length ≤ 1 := by cases vl <;> first | exact Nat.zero_le _ | exact Nat.le_refl _
        have k2 : (keepV vr).length ≤ 1 := by cases vr <;> first | exact Nat.zero_le _ | exact Nat.le_refl _
        refine ⟨wa, L, _, _, rfl, rfl, s8 _ _ ew2, eL', small (by rw [List.length_append]; omega), ?_⟩
        have kt2 : KeepT H'' (upd H'' wa (.lst (W ++ (keepV vl ++ keepV vr)))) := fun b xs z => by
          rw [upd_ne (ne_of z (s8 _ _ ew2) (by intro z; cases z))]
          exact z
        refine ⟨⟨c + 1, _, some (.ref a), _, rfl, fun b o z => ?_, upd_same, ((fs2.same s8).app ((FsAt.keep (aL.same s8) l1).app (FsAt.keep (aR.same s8) l3))).keepT kt2, by omega⟩, ?_⟩
        · rw [upd_ne (ne_of_none z nw)]
          exact s8 _ _ (sm2 _ _ z)
        · show (13 - ((c : Int) + 1)).toNat < (13 - (c : Int)).toNat
          omega
  · intro σ H' Q1 Q2 hQ h
    obtain ⟨v', e, k', t, q'⟩ := h
    exact ⟨v', e, k', t, hQ _ _ q'⟩
end
/-! ### tree_index -/
theorem num_low {G : G3} (g : G.Sg) : ∀ (m : Nat) (t : St4) (i : Nat), t.1 = m → i < cnt G t → ∀ c ∈ (num G t i).pre, 97 ≤ c ∧ c ≤ 122 := by
  intro m
  induction m using Nat.strongRecOn with
  | ind m ih =>
    intro t i ht hi
    by_cases z : t.1 = 0
    · rw [num_zero z]
      exact fun c h => nomatch h
    · have hsum : i < ((chs G t).map (wC G)).sum := by rw [cnt_chs z]; exact hi
      obtain ⟨c, r, hp, hm, hr⟩ := pick_some hsum
      rw [num_pick z hp hm]
      have sm := chs_small hm
      obtain ⟨x, hx, _, e1, e2⟩ := chs_mem.mp hm
      obtain ⟨_, h2, h3⟩ := live_mem hx
      rw [← e1] at h2
      rw [← e2] at h3
      have q1 : r / cnt G c.2.2 < cnt G c.2.1 := Nat.div_lt_of_lt_mul (by rw [Nat.mul_comm]; exact hr)
      have q2 : r % cnt G c.2.2 < cnt G c.2.2 := Nat.mod_lt _ (Nat.pos_of_ne_zero h3)
      intro d hd
      rcases List.mem_cons.mp hd with rfl | hd
      · exact ch_low g hm
      · rcases List.mem_append.mp hd with hd | hd
        · exact ih c.2.1.1 (by omega) c.2.1 _ rfl q1 d hd
        · exact ih c.2.2.1 (by omega) c.2.2 _ rfl q2 d hd
theorem Named.pos {ks : List Kd} {zs : List V} {L : Rows} {n : Nat} (h : Named ks zs L n) : 1 ≤ n ∧ n ≤ 12 := by
  obtain ⟨p, L', e⟩ := List.exists_cons_of_ne_nil h.ne
  obtain ⟨a, b⟩ := h.ok p (by rw [e]; exact List.mem_cons_self)
  have h1 := List.length_pos_iff.mpr a.ne
  have h2 := a.few
  omega
def spTreeIxT (ks : List Kd) : List V → List V → Hp → VK → Prop := fun vs zs H Q => ∃ (v : V) (i : Nat) (L : Rows) (n : Nat), vs = [v] ∧ Named ks zs L n ∧ i < cnt (g3 L n) (wholeS n) ∧ BAt H v (num (g3 L n) (wholeS n) i) ∧ ∀ H' : Hp, Same H H' → Q (.int (i : Int)) H'
section
variable {P : Program} {w : World} {K : PySem.W.Frag} {mg : Str → Option Value} {base : Heap} {f : Addr} {fd : FuncData}
theorem sc_tree_index : FnScope ["value", "rows", "given"] ["value", "rows"] (defScope s_tree_index) := ⟨rfl, rfl, rfl, by decide +kernel, rfl, by decide +kernel, by decide +kernel⟩
theorem ok_treeIx {ks : List Kd} (h3 : ks.length ≤ 3) (F : Fun K "tree_index" "tree_index" s_tree_index f fd) (Bk : KwBind fd ["value"] "rows" (ks.map Kd.str)) (Dthree_rows : Df P w K mg base 3 "three_rows" ["rows"] spThree) (Dwhole_of : Df P w K mg base 1 "whole_of" ["given"] spWhole) (Dcounts_of : Df P w K mg base 17 "counts_of" ["given"] spCounts)
    (Dis_tree : Df P w K mg base 3 "is_tree" ["value"] spTreeT) (Dtree_fits : Df P w K mg base 64 "tree_fits" ["tree", "given"] spTreeFits) (Dpart_index : Df P w K mg base 74 "part_index" ["given", "counts", "stretch", "tree"] (spPart 14)) : FnKw P w K mg base 75 f 1 (ks.map Kd.str) (spTreeIxT ks) := by
  refine fnKw (k := 74) F Bk (by rw [List.length_map]; omega) sc_tree_index fun cdv A outer s H vs zs d Q hr hd hl h => ?_
  obtain ⟨H0, n0, eH, v, i, L, n, rfl, nm, hi, hv, q⟩ := h
  refine ⟨_, (pss_cons (ps_set (i := 2) sc_tree_index.nd rfl (.inl rfl) (pe_call Dthree_rows.ok (hr.mono (by omega)) rfl Dthree_rows.g Dthree_rows.kp Dthree_rows.b .nil pass0 (pa_cons (pv 1) pa_nil)))
    (pss_cons (ps_if (PW.pt (pw_or (pt_not (pt_val (pe_call Dis_tree.ok (hr.mono (by omega)) rfl Dis_tree.g Dis_tree.kp Dis_tree.b .nil pass0 (pa_cons (pv 0) pa_nil)))) (pw_or1 (pt_not (pt_val (pe_call Dtree_fits.ok (hr.mono (by omega)) rfl Dtree_fits.g Dtree_fits.kp Dtree_fits.b .nil pass0 (pa_cons (pv 0) (pa_cons (pv 2) pa_nil))))))))
      (pss_one ps_never) pss_nil)
    (pss_one (ps_ret (pe_call Dpart_index.ok (hr.mono (by omega)) rfl Dpart_index.g Dpart_index.kp Dpart_index.b .nil pass0 (pa_cons (pv 2) (pa_cons (pe_call Dcounts_of.ok (hr.mono (by omega)) rfl Dcounts_of.g Dcounts_of.kp Dcounts_of.b .nil pass0 (pa_cons (pv 2) pa_nil)) (pa_cons (pe_call Dwhole_of.ok (hr.mono (by omega)) rfl Dwhole_of.g Dwhole_of.kp Dwhole_of.b .nil pass0 (pa_cons (pv 2) pa_nil)) (pa_cons (pv 0) pa_nil))))))))), ?_⟩
  have e1 := nm.ks
  have e2 := nm.zs
  subst e1 e2
  rw [rows_zip] at hd eH
  have k0 := same_new n0 (.dK (rowsK L))
  rw [← eH] at k0
  obtain ⟨n1, n12⟩ := nm.pos
  obtain ⟨sz, ft⟩ := num_fit3 nm.g hi
  have low := num_low nm.sg n (wholeS n) i rfl hi
  have hlt : (num (g3 L n) (wholeS n) i).lts := fun c hc => by
    obtain ⟨a, b⟩ := low c hc
    unfold isLow
    rw [decide_eq_true a, decide_eq_true b]
    rfl
  have hne : num (g3 L n) (wholeS n) i ≠ .nil := fun e => by
    rw [e] at sz
    exact absurd sz (by show ¬ (0 = n); omega)
  refine ⟨_, rfl, d, L, n, rfl, hd, nm.ne, nm.nd, nm.few, nm.ok, fun g H1 s1 eg => ?_⟩
  have hv1 := (hv.same k0).same s1
  refine ⟨_, rfl, v, _, rfl, hv1, hne, hlt, by omega, fun H2 s2 => ⟨_, rfl, iteF ?_⟩⟩
  refine ⟨_, rfl, _, rfl, v, _, g, _, _, _, n, rfl, hv1.same s2, by omega, s2 _ _ eg, nm.g.a, nm.g.b, nm.g.c, n12, fun H3 s3 => ?_⟩
  have ft' : fit3 (rowOf L n .first) (rowOf L n .between) (rowOf L n .last) (num (g3 L n) (wholeS n) i) = true := ft
  rw [ft', decide_eq_true sz]
  refine ⟨_, rfl, iteF ?_⟩
  have eg3 := s3 _ _ (s2 _ _ eg)
  refine ⟨_, rfl, _, rfl, g, g3 L n, n, rfl, eg3, nm.g, fun c kvs H4 s4 nc ec T m => ?_⟩
  refine ⟨_, rfl, g, g3 L n, n, rfl, s4 _ _ eg3, nm.g, fun t H5 s5 et => ?_⟩
  have hh : Has (g3 L n) n (wholeS n) H5 c := ⟨kvs, s5 _ _ ec, T, m⟩
  refine ⟨_, rfl, g, c, t, v, g3 L n, n, wholeS n, i, rfl, s5 _ _ (s4 _ _ eg3), nm.g, nm.sg, et, whole_ok n, hh, (by show n < 14; omega), hi, (((hv1.same s2).same s3).same s4).same s5, fun H6 s6 => ?_⟩
  exact q H6 (k0.trans (s1.trans (s2.trans (s3.trans (s4.trans (s5.trans s6))))))
end
/-! ### _law_rows, _law_is_like -/
def spLRows : Sp := fun vs H Q _ => ∃ (D : Deck) (n m : Nat), vs = [.ref D.dk, .int (m : Int)] ∧ DeckOk H D n ∧ n + 200 < 1000000 ∧ 0 < m ∧ m ≤ 12 ∧
  ∀ (p : Addr) (a b c : List Nat) (e : Nat) (H' : Hp), n ≤ e → e ≤ n + 110 → DeckOk H' D e → SameD D H H' → H' p = some (.tup [vt a, vt b, vt c]) → RowOk a → RowOk b → RowOk c → b.length = a.length → c.length = a.length → a.length ≤ m → Q (.ref p) H'
def spLike : Sp := fun vs H Q _ => ∃ r x : List Nat, vs = [vt r, vt x] ∧ r.length ≤ 12 ∧ x.length ≤ 30 ∧ ∀ H', Same H H' → Q (.bl (decide (r.length = x.length) && fit r x)) H'
theorem DeckOk.of_tup {H : Hp} {D : Deck} {n : Nat} {p : Addr} {xs : List V} (d : DeckOk H D n) (e : H p = some (.tup xs)) : Off D p := by
  obtain ⟨c, r, h1, h2, h3, _⟩ := d.ex
  refine ⟨fun z => ?_, fun z => ?_, fun z => ?_⟩
  · rw [z, h1] at e
    cases e
  · rw [z, h2] at e
    cases e
  · rw [z, h3] at e
    cases e
theorem B.post_mem (t : B) (c : Nat) : c ∈ t.post ↔ c ∈ t.pre := by
  induction t with
  | nil => exact Iff.rfl
  | node l x r h1 h2 =>
    show c ∈ l.post ++ r.post ++ [x] ↔ c ∈ x :: (l.pre ++ r.pre)
    rw [List.mem_append, List.mem_append, List.mem_singleton, List.mem_cons, List.mem_append, h1, h2]
    constructor
    · rintro ((h | h) | h)
      · exact .inr (.inl h)
      · exact .inr (.inr h)
      · exact .inl h
    · rintro (h | h | h)
      · exact .inr h
      · exact .inl (.inl h)
      · exact .inl (.inr h)
theorem wk_row {t : B} (lo : lowT t) (ne : t ≠ .nil) (h : t.size ≤ 12) (k : Kd) : RowOk (t.wk k) ∧ (t.wk k).length = t.size := by
  have l := t.wk_len k
  have s0 : 0 < t.size := by
    cases t with
    | nil => exact absurd rfl ne
    | node a x b => show 0 < a.size + 1 + b.size; omega
  refine ⟨⟨fun e => by rw [e] at l; exact absurd l (by show ¬ (0 = t.size); omega), by omega, fun c hc => .inr (lo c ?_)⟩, l⟩
  cases k
  · exact hc
  · exact (t.mid_mem c).mp hc
  · exact (t.post_mem c).mp hc
theorem wk_at {t : B} {i : Nat} {x : V} (h : [vt t.pre, vt t.mid, vt t.post][i]? = some x) : ∃ k : Kd, x = vt (t.wk k) := by
  match i, h with
  | 0, h => cases h; exact ⟨.first, rfl⟩
  | 1, h => cases h; exact ⟨.between, rfl⟩
  | 2, h => cases h; exact ⟨.last, rfl⟩
theorem abzq {y : Nat} (h : y < 4) : ∃ c, atI (Str.ofString "abz?").cps.toList (y : Int) = some c ∧ sgn c := by
  have e : (Str.ofString "abz?").cps.toList = [97, 98, 122, 63] := by decide +kernel
  rw [e]
  have h4 : y = 0 ∨ y = 1 ∨ y = 2 ∨ y = 3 := by omega
  rcases h4 with rfl | rfl | rfl | rfl
  · exact ⟨97, rfl, .inr (by decide)⟩
  · exact ⟨98, rfl, .inr (by decide)⟩
  · exact ⟨122, rfl, .inr (by decide)⟩
  · exact ⟨63, rfl, .inl rfl⟩
theorem row_put {r : List Nat} {s c : Nat} (ok : RowOk r) (h : s < r.length) (hc : sgn c) : RowOk (r.take s ++ [c] ++ r.drop (s + 1)) ∧ (r.take s ++ [c] ++ r.drop (s + 1)).length = r.length := by
  have l : (r.take s ++ [c] ++ r.drop (s + 1)).length = r.length := by
    rw [List.length_append, List.length_append, List.length_take, List.length_drop]
    show min s r.length + 1 + (r.length - (s + 1)) = r.length
    omega
  have few := ok.few
  refine ⟨⟨fun e => by rw [e] at l; exact absurd l (by show ¬ (0 = r.length); omega), by omega, fun d hd => ?_⟩, l⟩
  rcases List.mem_append.mp hd with hd | hd
  · rcases List.mem_append.mp hd with hd | hd
    · exact ok.all d (List.mem_of_mem_take hd)
    · rw [List.mem_singleton.mp hd]; exact hc
  · exact ok.all d (List.mem_of_mem_drop hd)
section
variable {P : Program} {w : World} {K : PySem.W.Frag} {mg : Str → Option Value} {base : Heap} {f : Addr} {fd : FuncData}
theorem ok_lrows (F : Fun K "_law_rows" "_law_rows" s__law_rows f fd) (M : Mgs mg) (D_law_draw : Df P w K mg base 1 "_law_draw" ["_law_deck_here", "_law_many"] spDraw) (D_law_tree : Df P w K mg base 52 "_law_tree" ["_law_deck_here", "_law_most"] spTree)
    (D_law_walks : Df P w K mg base 21 "_law_walks" ["_law_tree_here"] (spLWalks 21)) (D_law_hidden : Df P w K mg base 2 "_law_hidden" ["_law_deck_here", "_law_row"] spHid) : FnOk P w K mg base CX0 53 f fd ["_law_deck_here", "_law_most"] spLRows := by
  refine F.ok sc__law_rows (fun vs H Q E h => ?_) (fun cdv A outer s H vs Q E hr h => ?_)
  · obtain ⟨D, n, m, rfl, _⟩ := h
    rfl
  obtain ⟨D, n, m, rfl, d, hn, m0, m12, q⟩ := h
  refine ⟨_, (pss_cons (ps_setLc (i := 3) (own := [("_law_row", 2)]) (g := gName 2) (tt := tYes) (by rfl) sc__law_rows.nd rfl rfl (sw_true rfl rfl rfl (by decide +kernel)) (pi_tup (pe_call D_law_walks.ok (hr.mono (by omega)) rfl D_law_walks.g D_law_walks.kp D_law_walks.b .nil pass0 (pa_cons (pe_call D_law_tree.ok (hr.mono (by omega)) rfl D_law_tree.g D_law_tree.kp D_law_tree.b .nil pass0 (pa_cons (pv 0) (pa_cons (pv 1) pa_nil))) pa_nil))) (blkOk_by (N := ["_law_deck_here", "_law_most", "_law_row", "_law_rows_here", "_law_which", "_law_spot"]) (sc := defScope s__law_rows) (by decide +kernel)) (fun _ _ _ _ _ => (pg_name (i := 2) sc__law_rows.nd rfl (.inl rfl))) (fun _ _ _ _ _ => pts_nil) (fun _ _ _ _ _ => (pe_call D_law_hidden.ok (hr.mono (by omega)) rfl D_law_hidden.g D_law_hidden.kp D_law_hidden.b .nil pass0 (pa_cons (pv 0) (pa_cons (pv 2) pa_nil)))))
    (pss_cons (ps_if (pt_cmpR op_eq (pe_call D_law_draw.ok (hr.mono (by omega)) rfl D_law_draw.g D_law_draw.kp D_law_draw.b .nil pass0 (pa_cons (pv 0) (pa_cons pe_int pa_nil))) pe_int (nomark _))
      (pss_cons (ps_par (i := 4) (j := 5) (by rfl) sc__law_rows.nd rfl rfl (by decide) rfl rfl (pa_cons (pe_call D_law_draw.ok (hr.mono (by omega)) rfl D_law_draw.g D_law_draw.kp D_law_draw.b .nil pass0 (pa_cons (pv 0) (pa_cons pe_int pa_nil))) (pa_cons (pe_call D_law_draw.ok (hr.mono (by omega)) rfl D_law_draw.g D_law_draw.kp D_law_draw.b .nil pass0 (pa_cons (pv 0) (pa_cons (pe_callB call_len_str rfl M.len PySem.boot_len (pa_cons (pe_ix ix_list (pv 3) pe_int (fun _ _ => rfl)) pa_nil)) pa_nil))) pa_nil)) (by rfl))
    (pss_one (ps_asg (pe_op op_add_str (pe_op op_add_str (pe_slice sl_str (pe_ix ix_list (pv 3) (pv 4) (fun _ _ => rfl)) po_none (po_some (pv 5))) (pe_ix ix_str pe_str (pe_call D_law_draw.ok (hr.mono (by omega)) rfl D_law_draw.g D_law_draw.kp D_law_draw.b .nil pass0 (pa_cons (pv 0) (pa_cons pe_int pa_nil))) (fun _ _ => rfl))) (pe_slice sl_str (pe_ix ix_list (pv 3) (pv 4) (fun _ _ => rfl)) (po_some (pe_op op_add (pv 5) pe_int)) po_none)) (pg_sub (pv 3) (pv 4) set_list)))) pss_nil)
    (pss_one (ps_ret (pe_tup (pa_cons (pe_ix ix_list (pv 3) pe_int (fun _ _ => rfl)) (pa_cons (pe_ix ix_list (pv 3) pe_int (fun _ _ => rfl)) (pa_cons (pe_ix ix_list (pv 3) pe_int (fun _ _ => rfl)) pa_nil)))))))), ?_⟩
  refine ⟨_, rfl, _, rfl, D, n, m, rfl, d, by omega, m0, m12, fun u t c H1 c0 c1 d1 s1 hb tne tz lo => ?_⟩
  refine ⟨u, t, rfl, hb, by omega, by omega, fun p H2 s2 ep => ?_⟩
  refine ⟨p, rfl, ⟨_, SqT.of ep⟩, fun L nL => ?_⟩
  have d2 := d1.same s2
  have s3 := s1.trans (SameD.of s2)
  have nLH : H L = none := s3.free d2 nL
  have op := d2.of_tup ep
  refine lc_tup (K := K) (a := p) (xs := [vt t.pre, vt t.mid, vt t.post]) (fun j H' => ∃ (xs : List (List Nat)) (e : Nat), xs.length = j ∧ c ≤ e ∧ e ≤ c + 13 * j ∧ DeckOk H' D e ∧ SameD D H H' ∧ H' p = some (.tup [vt t.pre, vt t.mid, vt t.post]) ∧ H' L = some (.lst (xs.map vt)) ∧ Off D L ∧ ∀ x ∈ xs, RowOk x ∧ x.length = t.size)
    ⟨[], c, rfl, by omega, by omega, d2.same (same_new nL _), s3.put nLH _, (same_new nL _) _ _ ep, upd_same, d2.new nL, fun c h => nomatch h⟩ (fun j H' _ hp => by obtain ⟨_, _, _, _, _, _, _, e, _⟩ := hp; exact SqT.of e) (fun j x H' hx hp => ?_) (fun H4 hp => ?_)
  · obtain ⟨xs, e, hl, e0, e1, d4, s4, ep4, eL, oL, all⟩ := hp
    obtain ⟨k, rfl⟩ := wk_at hx
    obtain ⟨rk, rl⟩ := wk_row lo tne (by omega) k
    have j3 : j < 3 := (List.getElem?_eq_some_iff.mp hx).1
    refine ⟨rfl, kept ?_⟩
    refine ⟨_, rfl, _, rfl, D, e, _, rfl, d4, by omega, rk, fun z e' H5 e2 e3 d5 s5 okz lz => ?_⟩
    refine ⟨_, s5.at oL eL, ?_, xs ++ [z], e', by rw [List.length_append, hl]; rfl, by omega, by omega, d5.put oL _, (s4.trans s5).put nLH _, ?_, by rw [upd_same, List.map_append]; rfl, oL, fun y hy => ?_⟩
    · rw [List.length_map]; exact small1000 (by omega)
    · rw [upd_ne (fun z => by rw [z] at ep4; rw [eL] at ep4; cases ep4)]
      exact s5.at op ep4
    · rcases List.mem_append.mp hy with hy | hy
      · exact all y hy
      · rw [List.mem_singleton.mp hy]
        exact ⟨okz, by rw [lz, rl]⟩
  obtain ⟨xs, e, hl, e0, e1, d4, s4, ep4, eL, oL, all⟩ := hp
  obtain ⟨x0, x1, x2, rfl⟩ : ∃ x0 x1 x2, xs = [x0, x1, x2] := by
    match xs, hl with
    | [x0, x1, x2], _ => exact ⟨_, _, _, rfl⟩
  have e1' : e ≤ c + 39 := e1
  refine ⟨_, rfl, D, e, _, rfl, d4, by omega, by decide, by decide, fun i H5 i0 i1 d5 s5 => ⟨rfl, _, rfl, ?_⟩⟩
  have eL5 := s5.at oL eL
  have s6 := s4.trans s5
  have a0 := all x0 List.mem_cons_self
  have a1 := all x1 (List.mem_cons_of_mem _ List.mem_cons_self)
  have a2 := all x2 (List.mem_cons_of_mem _ (List.mem_cons_of_mem _ List.mem_cons_self))
  have t0 : 0 < t.size := by rw [← a0.2]; exact List.length_pos_iff.mpr a0.1.ne
  refine ite2 (fun _ => ?_) (fun _ => ?_)
  · refine ⟨_, rfl, D, e + 1, _, rfl, d5, by omega, by decide, by decide, fun w1 H6 w10 w11 d6 s7 => ?_⟩
    have eL6 := s7.at oL eL5
    refine ⟨_, rfl, _, rfl, L, _, _, _, rfl, rfl, SqL.of eL6, atI_nat (j := 0) rfl, _, rfl, small (by rw [tx_len, a0.2]; omega), D, e + 2, _, rfl, d6, by omega, by rw [tx_len, a0.2]; omega, by rw [tx_len, a0.2]; omega, fun w2 H7 w20 w21 d7 s8 => ⟨_, _, rfl, ?_⟩⟩
    rw [tx_len, a0.2] at w21
    have eL7 := s8.at oL eL6
    obtain ⟨j, rfl⟩ : ∃ j : Nat, w1 = (j : Int) := ⟨w1.toNat, by omega⟩
    obtain ⟨k, rfl⟩ : ∃ k : Nat, w2 = (k : Int) := ⟨w2.toNat, by omega⟩
    obtain ⟨xj, hj⟩ : ∃ xj, [x0, x1, x2][j]? = some xj := ⟨_, List.getElem?_eq_getElem (show j < 3 by omega)⟩
    have oj := all xj (List.mem_of_getElem? hj)
    have lj : (tx xj).length ≤ sizeLine := small (by rw [tx_len, oj.2]; omega)
    have hat : atI ([x0, x1, x2].map vt) (j : Int) = some (vt xj) := atI_nat (by rw [List.getElem?_map, hj]; rfl)
    refine ⟨_, rfl, _, rfl, L, _, _, _, rfl, rfl, SqL.of eL7, hat, ?_⟩
    refine ⟨_, rfl, (k : Int), rfl, _, rfl, lj, ?_⟩
    rw [tx_to]
    refine ⟨_, rfl, D, e + 3, _, rfl, d7, by omega, by decide, by decide, fun w3 H8 w30 w31 d8 s9 => ?_⟩
    obtain ⟨y, rfl⟩ : ∃ y : Nat, w3 = (y : Int) := ⟨w3.toNat, by omega⟩
    obtain ⟨cc, hcc, hsg⟩ := abzq (show y < 4 by omega)
    refine ⟨_, _, _, rfl, rfl, (by decide +kernel), hcc, ?_⟩
    refine ⟨_, tx [cc], rfl, rfl, small (by rw [tx_len, tx_len, List.length_take]; show _ + 1 ≤ 1000; omega), ?_⟩
    rw [tx_app]
    have eL8 := s9.at oL eL7
    refine ⟨_, rfl, _, rfl, L, _, _, _, rfl, rfl, SqL.of eL8, hat, ?_⟩
    refine ⟨_, rfl, _, _, rfl, rfl, ((k + 1 : Nat) : Int), rfl, _, rfl, lj, ?_⟩
    rw [tx_from]
    refine ⟨_, _, rfl, rfl, small (by rw [tx_len, tx_len, List.length_append, List.length_take, List.length_drop]; show _ + 1 + _ ≤ 1000; omega), ?_⟩
    rw [tx_app]
    have row := row_put oj.1 (s := k) (c := cc) (by rw [oj.2]; omega) hsg
    refine ⟨_, rfl, _, rfl, L, _, _, j, rfl, rfl, eL8, ?_, ?_⟩
    · exact (ixN_nat (n := 3) (i := (j : Int)) (by omega) (by omega)).trans (by rw [Int.toNat_natCast])
    obtain ⟨y0, y1, y2, ey, ally⟩ : ∃ y0 y1 y2, ([x0, x1, x2].map vt).set j (vt (xj.take k ++ [cc] ++ xj.drop (k + 1))) = [vt y0, vt y1, vt y2] ∧ ∀ x ∈ [y0, y1, y2], RowOk x ∧ x.length = t.size := by
      have rw' := row.2.trans oj.2
      have h3 : j = 0 ∨ j = 1 ∨ j = 2 := by omega
      rcases h3 with rfl | rfl | rfl
      · refine ⟨_, x1, x2, rfl, fun x hx => ?_⟩
        rcases List.mem_cons.mp hx with rfl | hx
        · exact ⟨row.1, rw'⟩
        · exact all x (List.mem_cons_of_mem _ hx)
      · refine ⟨x0, _, x2, rfl, fun x hx => ?_⟩
        rcases List.mem_cons.mp hx with rfl | hx
        · exact a0
        rcases List.mem_cons.mp hx with rfl | hx
        · exact ⟨row.1, rw'⟩
        · rw [List.mem_singleton.mp hx]; exact a2
      · refine ⟨x0, x1, _, rfl, fun x hx => ?_⟩
        rcases List.mem_cons.mp hx with rfl | hx
        · exact a0
        rcases List.mem_cons.mp hx with rfl | hx
        · exact a1
        · rw [List.mem_singleton.mp hx]; exact ⟨row.1, rw'⟩
    have b0 := ally y0 List.mem_cons_self
    have b1 := ally y1 (List.mem_cons_of_mem _ List.mem_cons_self)
    have b2 := ally y2 (List.mem_cons_of_mem _ (List.mem_cons_of_mem _ List.mem_cons_self))
    have sE := ((s6.trans s7).trans (s8.trans s9)).put nLH (.lst (([x0, x1, x2].map vt).set j (vt (xj.take k ++ [cc] ++ xj.drop (k + 1)))))
    have dE := d8.put oL (.lst (([x0, x1, x2].map vt).set j (vt (xj.take k ++ [cc] ++ xj.drop (k + 1)))))
    have ez : (upd H8 L (.lst (([x0, x1, x2].map vt).set j (vt (xj.take k ++ [cc] ++ xj.drop (k + 1)))))) L = some (.lst [vt y0, vt y1, vt y2]) := by rw [upd_same, ey]
    refine ⟨_, rfl, L, _, _, _, rfl, rfl, SqL.of ez, atI_nat (j := 0) rfl, _, rfl, L, _, _, _, rfl, rfl, SqL.of ez, atI_nat (j := 1) rfl, _, rfl, L, _, _, _, rfl, rfl, SqL.of ez, atI_nat (j := 2) rfl, (by show 3 ≤ sizeLine; decide), fun z nz => ?_⟩
    exact q z y0 y1 y2 (e + 3 + 1) _ (by omega) (by omega) (dE.same (same_new nz _)) (sE.trans (SameD.of (same_new nz _))) upd_same b0.1 b1.1 b2.1 (by rw [b0.2, b1.2]) (by rw [b0.2, b2.2]) (by rw [b0.2]; omega)
  · refine ⟨_, rfl, L, _, _, _, rfl, rfl, SqL.of eL5, atI_nat (j := 0) rfl, _, rfl, L, _, _, _, rfl, rfl, SqL.of eL5, atI_nat (j := 1) rfl, _, rfl, L, _, _, _, rfl, rfl, SqL.of eL5, atI_nat (j := 2) rfl, (by show 3 ≤ sizeLine; decide), fun z nz => ?_⟩
    exact q z x0 x1 x2 (e + 1) _ (by omega) (by omega) (d5.same (same_new nz _)) (s6.trans (SameD.of (same_new nz _))) upd_same a0.1 a1.1 a2.1 (by rw [a0.2, a1.2]) (by rw [a0.2, a2.2]) (by rw [a0.2]; omega)
end
/-! ### small defs of the law -/
theorem sqT_same {K : PySem.W.Frag} {H H' : Hp} {a : Addr} {xs : List V} (e : Same H H') (h : SqT K H a xs) : SqT K H' a xs := by
  rcases h with (h | ⟨o, h⟩) | h
  · exact .inl (.inl (e _ _ h))
  · exact .inl (.inr ⟨o, e _ _ h⟩)
  · exact .inr h
mutual
theorem dp_same {K : PySem.W.Frag} {H H' : Hp} (e : Same H H') : ∀ {v : V} {d : PyData}, Dp K H v d → Dp K H' v d
  | _, _, .non => .non
  | _, _, .bl b => .bl b
  | _, _, .int i => .int i
  | _, _, .str x => .str x
  | _, _, .lst h a => .lst (e.seq h) (dpAll_same e a)
  | _, _, .tup h a => .tup (sqT_same e h) (dpAll_same e a)
theorem dpAll_same {K : PySem.W.Frag} {H H' : Hp} (e : Same H H') : ∀ {vs : List V} {ds : List PyData}, DpAll K H vs ds → DpAll K H' vs ds
  | _, _, .nil => .nil
  | _, _, .cons h a => .cons (dp_same e h) (dpAll_same e a)
end
def rReprV (K : PySem.W.Frag) : List V → Hp → VK → Prop := fun xs H Q => ∃ (v : V) (d : PyData), xs = [v] ∧ Dp K H v d ∧ okR d = true ∧ wtR d ≤ 1000000 ∧ d.depth ≤ 60 ∧ Q (.str d.shown) H
theorem call_reprV {X : Cx} (hg : X.A.guards = some []) (hu : X.A.units + 64 < cLine) : CallR X (.builtin "repr") (rReprV X.K) := by
  intro pins s σ H xs us Q I r h
  obtain ⟨v, d, rfl, hd, hs, hw, hz, q⟩ := h
  obtain ⟨u, rfl, rx⟩ := vals1 r
  obtain ⟨h1, h2, h3⟩ := shownR d hs
  have fits : d.shown.length ≤ sizeLine := by show _ ≤ 16777216; omega
  have rds := Dp.reads I d v u hd rx
  have fin : ∀ (h' : Heap) (t : Tok) (tk : Tok), (∀ b o, s.heap.get? b = some o → h'.get? b = some o) → EP X pins σ Q (.str d.shown t) { s with heap := h', toks := tk } := fun h' t tk hk => ⟨.str d.shown, H, I.kept (t' := tk) hk, ⟨t, rfl⟩, q⟩
  cases hd with
  | non =>
    cases rx
    simp only [PyData.shown] at fin
    exact PySem.P.repr_of_none (fin s.heap _ _ fun _ _ e => e)
  | bl b =>
    cases rx
    simp only [PyData.shown] at fin
    exact PySem.P.repr_of_bool (fin s.heap _ _ fun _ _ e => e)
  | int i =>
    obtain ⟨t, rfl⟩ := rx
    simp only [PyData.shown] at fin
    simp only [PyData.showable, decide_eq_true_eq] at h2
    exact PySem.P.repr_of_int h2 (fin s.heap _ _ fun _ _ e => e)
  | str x =>
    obtain ⟨t, rfl⟩ := rx
    simp only [PyData.shown] at fin fits
    exact PySem.P.repr_of_str (fin s.heap _ _ fun _ _ e => e) fits
  | lst _ _ =>
    cases rx
    obtain ⟨as, rd⟩ := rds
    exact repr_of_reads' rd h2 (PyData.noDict_hsm h3) hg (by omega) (fun _ _ e => e) (fun h' u tk hk => fin h' u tk hk) fits
  | tup _ _ =>
    cases rx
    obtain ⟨as, rd⟩ := rds
    exact repr_of_reads' rd h2 (PyData.noDict_hsm h3) hg (by omega) (fun _ _ e => e) (fun h' u tk hk => fin h' u tk hk) fits
def rLtD (K : PySem.W.Frag) : V → V → Hp → VK → Prop := fun x y H Q => ∃ d e, Dp K H x d ∧ Dp K H y e ∧ PySem.W.alike d e = true ∧ d ≠ .none ∧ min d.depth e.depth ≤ 60 ∧ Q (.bl (PySem.W.dataLt d e)) H
theorem op_ltD {X : Cx} (hu : X.A.units + 64 < cLine) : OpR X (compareOp .Lt) (rLtD X.K) := by
  intro pins s σ H x y v u Q I rx ry h
  obtain ⟨d, e, hd, he, al, nn, dp, q⟩ := h
  obtain ⟨as, r1⟩ := Dp.reads I d x v hd rx
  obtain ⟨bs, r2⟩ := Dp.reads I e y u he ry
  exact PySem.W.lt_data r1 r2 al nn (by omega) ⟨.bl _, H, I, rfl, q⟩
/-- a tree's key -/
def keyD : B → PyData
  | .nil => .tuple []
  | .node l x r => .tuple [.str (ch x), .int (l.size : Int), keyD l, keyD r]
inductive KeyAt (H : Hp) : V → B → Prop
  | nil {a : Addr} : H a = some (.tup []) → KeyAt H (.ref a) .nil
  | node {a : Addr} {u v : V} {l r : B} {x : Nat} : H a = some (.tup [vc x, .int (l.size : Int), u, v]) → KeyAt H u l → KeyAt H v r → KeyAt H (.ref a) (.node l x r)
theorem KeyAt.keep {H H' : Hp} (k : KeepT H H') {v : V} {t : B} (h : KeyAt H v t) : KeyAt H' v t := by
  induction h with
  | nil e => exact .nil (k _ _ e)
  | node e _ _ h1 h2 => exact .node (k _ _ e) h1 h2
theorem KeyAt.same {H H' : Hp} (k : Same H H') {v : V} {t : B} (h : KeyAt H v t) : KeyAt H' v t := h.keep (Tw.Same.keepT k)
theorem KeyAt.dp {K : PySem.W.Frag} {H : Hp} {v : V} {t : B} (h : KeyAt H v t) : Dp K H v (keyD t) := by
  induction h with
  | nil e => exact .tup (SqT.of e) .nil
  | node e _ _ h1 h2 => exact .tup (SqT.of e) (.cons (.str _) (.cons (.int _) (.cons h1 (.cons h2 .nil))))
def spKey (n : Nat) : Sp := fun vs H Q _ => ∃ (v : V) (b : B), vs = [v] ∧ BAt H v b ∧ b.size < n ∧ b.size ≤ 20 ∧ ∀ (u : Addr) (H' : Hp), Same H H' → KeyAt H' (.ref u) b → Q (.ref u) H'
def spSSizeB (n : Nat) : Sp := fun vs H Q _ => ∃ (v : V) (t : B), vs = [v] ∧ BAt H v t ∧ t.size < n ∧ Q (.int (t.size : Int)) H
def spPow : Sp := fun vs H Q _ => ∃ m : Nat, vs = [.int (m : Int)] ∧ m ≤ 12 ∧ Q (.int ((26 ^ m : Nat) : Int)) H
def spSameI : Sp := fun vs H Q _ => ∃ i : Nat, vs = [.int (i : Int), .int (i : Int)] ∧ i < 10 ^ 30 ∧ ∀ H', Same H H' → Q (.bl true) H'
theorem kit_tl {K : PySem.W.Frag} {a : String} (h1 : kitB a "tuple" = some false) (h2 : kitB a "list" = some false) : PySem.W.kitAny K (.type a) [.type "tuple", .type "list"] = some false := by
  refine kitAny_cons (kit_ty h1) (fun e => kitAny_cons (kit_ty h2) (fun e2 => ?_) fun e2 => ?_) fun e => ?_
  · rw [kitAny_nil]
  · cases e2
  · cases e
section
variable {P : Program} {w : World} {K : PySem.W.Frag} {mg : Str → Option Value} {base : Heap} {f : Addr} {fd : FuncData}
theorem ok_sizeB (F : Fun K "_law_size" "_law_size" s__law_size f fd) (b : Binds K fd ["_law_tree_here"] []) (g : mg "_law_size" = some (.ref f)) : ∀ n : Nat, FnOk P w K mg base CX0 n f fd ["_law_tree_here"] (spSSizeB n)
  | 0 => by
    have no : ∀ vs H Q E, ¬ spSSizeB 0 vs H Q E := fun vs H Q E h => by
      obtain ⟨v, t, _, _, h1, _⟩ := h
      omega
    exact ⟨fun vs H Q E h => absurd h (no vs H Q E), fun A outer s H args us vs Q E _ _ _ _ h => absurd h (no vs H Q E)⟩
  | n + 1 => by
    have Dself : Df P w K mg base n "_law_size" ["_law_tree_here"] (spSSizeB n) := ⟨f, fd, ok_sizeB F b g n, b, F.kp, g⟩
    refine F.ok sc__law_size (fun vs H Q E h => ?_) (fun cdv A outer s H vs Q E hr h => ?_)
    · obtain ⟨v, t, rfl, _⟩ := h
      rfl
    obtain ⟨v, t, rfl, hv, hn, q⟩ := h
    refine ⟨_, (pss_one (ps_ret (pe_ifExp (pt_cmpR op_isN (pv 0) pe_non (nomark _)) pe_int (pe_op op_add (pe_op op_add pe_int (pe_call Dself.ok (hr.mono (by omega)) rfl Dself.g Dself.kp Dself.b .nil pass0 (pa_cons (pe_ix ix_tup (pv 0) pe_int (fun _ _ => rfl)) pa_nil))) (pe_call Dself.ok (hr.mono (by omega)) rfl Dself.g Dself.kp Dself.b .nil pass0 (pa_cons (pe_ix ix_tup (pv 0) (pe_un un_neg pe_int) (fun _ _ => rfl)) pa_nil)))))), ?_⟩
    rcases hv.inv with ⟨rfl, rfl⟩ | ⟨a, l, r, x, tl, tr, rfl, rfl, ea, hl, hr'⟩
    · exact ⟨_, rfl, rfl, _, rfl, iteT q⟩
    · refine ⟨_, rfl, rfl, _, rfl, iteF ?_⟩
      have sz : tl.size + 1 + tr.size < n + 1 := hn
      refine ⟨_, rfl, a, _, _, _, rfl, rfl, SqT.of ea, atI_nat (j := 0) rfl, l, tl, rfl, hl, by omega, _, _, rfl, rfl, ?_⟩
      refine ⟨_, rfl, _, rfl, a, _, _, _, rfl, rfl, SqT.of ea, (show atI [l, .str (ch x), r] (-1) = some r from rfl), r, tr, rfl, hr', by omega, _, _, rfl, rfl, ?_⟩
      have e : ((B.node tl x tr).size : Int) = 1 + (tl.size : Int) + (tr.size : Int) := by
        show ((tl.size + 1 + tr.size : Nat) : Int) = _
        omega
      rw [e] at q
      exact q
theorem ok_key (F : Fun K "_law_key" "_law_key" s__law_key f fd) (b : Binds K fd ["_law_tree_here"] []) (g : mg "_law_key" = some (.ref f)) (D_law_size : Df P w K mg base 30 "_law_size" ["_law_tree_here"] (spSSizeB 30)) : ∀ n : Nat, FnOk P w K mg base CX0 (30 + n) f fd ["_law_tree_here"] (spKey n)
  | 0 => by
    have no : ∀ vs H Q E, ¬ spKey 0 vs H Q E := fun vs H Q E h => by
      obtain ⟨v, t, _, _, h1, _⟩ := h
      omega
    exact ⟨fun vs H Q E h => absurd h (no vs H Q E), fun A outer s H args us vs Q E _ _ _ _ h => absurd h (no vs H Q E)⟩
  | n + 1 => by
    have Dself : Df P w K mg base (30 + n) "_law_key" ["_law_tree_here"] (spKey n) := ⟨f, fd, ok_key F b g D_law_size n, b, F.kp, g⟩
    refine F.ok (k := 30 + n) sc__law_key (fun vs H Q E h => ?_) (fun cdv A outer s H vs Q E hr h => ?_)
    · obtain ⟨v, t, rfl, _⟩ := h
      rfl
    obtain ⟨v, t, rfl, hv, hn, h20, q⟩ := h
    refine ⟨_, (pss_cons (ps_if (pt_cmpR op_isN (pv 0) pe_non (nomark _))
      (pss_one (ps_ret (pe_tup pa_nil))) pss_nil)
    (pss_one (ps_ret (pe_tup (pa_cons (pe_ix ix_tup (pv 0) pe_int (fun _ _ => rfl)) (pa_cons (pe_call D_law_size.ok (hr.mono (by omega)) rfl D_law_size.g D_law_size.kp D_law_size.b .nil pass0 (pa_cons (pe_ix ix_tup (pv 0) pe_int (fun _ _ => rfl)) pa_nil)) (pa_cons (pe_call Dself.ok (hr.mono (by omega)) rfl Dself.g Dself.kp Dself.b .nil pass0 (pa_cons (pe_ix ix_tup (pv 0) pe_int (fun _ _ => rfl)) pa_nil)) (pa_cons (pe_call Dself.ok (hr.mono (by omega)) rfl Dself.g Dself.kp Dself.b .nil pass0 (pa_cons (pe_ix ix_tup (pv 0) pe_int (fun _ _ => rfl)) pa_nil)) pa_nil)))))))), ?_⟩
    rcases hv.inv with ⟨rfl, rfl⟩ | ⟨a, l, r, x, tl, tr, rfl, rfl, ea, hl, hr'⟩
    · refine ⟨_, rfl, rfl, _, rfl, iteT ⟨(by show 0 ≤ sizeLine; decide), fun p np => ?_⟩⟩
      exact q p _ (same_new np _) (.nil upd_same)
    · refine ⟨_, rfl, rfl, _, rfl, iteF ?_⟩
      have sz : tl.size + 1 + tr.size < n + 1 := hn
      have s20 : tl.size + 1 + tr.size ≤ 20 := h20
      refine ⟨_, rfl, a, _, _, _, rfl, rfl, SqT.of ea, atI_nat (j := 1) rfl, _, rfl, a, _, _, _, rfl, rfl, SqT.of ea, atI_nat (j := 0) rfl, l, tl, rfl, hl, by omega, ?_⟩
      refine ⟨_, rfl, a, _, _, _, rfl, rfl, SqT.of ea, atI_nat (j := 0) rfl, l, tl, rfl, hl, by omega, by omega, fun u1 H1 s1 d1 => ?_⟩
      refine ⟨_, rfl, a, _, _, _, rfl, rfl, SqT.of (s1 _ _ ea), atI_nat (j := 2) rfl, r, tr, rfl, hr'.same s1, by omega, by omega, fun u2 H2 s2 d2 => ⟨(by show 4 ≤ sizeLine; decide), fun p np => ?_⟩⟩
      have k := same_new np (.tup [vc x, .int (tl.size : Int), .ref u1, .ref u2])
      exact q p _ (s1.trans (s2.trans k)) (.node upd_same ((d1.same s2).same k) (d2.same k))
theorem ok_pow (F : Fun K "_law_power" "_law_power" s__law_power f fd) (M : Mgs mg) : FnOk P w K mg base CX0 1 f fd ["_law_many"] spPow := by
  refine F.ok sc__law_power (fun vs H Q E h => ?_) (fun cdv A outer s H vs Q E hr h => ?_)
  · obtain ⟨m, rfl, _⟩ := h
    rfl
  obtain ⟨m, rfl, hm, q⟩ := h
  refine ⟨_, (pss_cons (ps_set (i := 1) sc__law_power.nd rfl (.inl rfl) pe_int)
    (pss_cons (ps_for PassesOwn.never rfl (pi_range1 rfl M.range (pa_cons (pv 0) pa_nil)) (pg_name (i := 2) sc__law_power.nd rfl (.inl rfl))
      (pss_one (ps_set (i := 1) sc__law_power.nd rfl (.inl rfl) (pe_op op_mul (pv 1) pe_int))))
    (pss_one (ps_ret (pv 1))))), ?_⟩
  refine ⟨_, rfl, (m : Int), rfl, by omega, by omega, ?_⟩
  rw [Int.toNat_natCast]
  refine for_range (lo := 0) (n := m) (fun i σ H' => ∃ o2 : Option V, σ = [some (.int (m : Int)), some (.int ((26 ^ i : Nat) : Int)), o2] ∧ H' = H) ⟨none, rfl, rfl⟩ (fun i σ H' hi hp => ?_) (fun σ H' hp => ?_)
  · obtain ⟨o2, rfl, rfl⟩ := hp
    refine ⟨_, rfl, _, _, rfl, rfl, .inr ⟨by decide, by decide⟩, some (.int (0 + (i : Int))), ?_, rfl⟩
    have e : ((26 ^ i : Nat) : Int) * 26 = ((26 ^ (i + 1) : Nat) : Int) := by rw [Nat.pow_succ, Int.natCast_mul]; rfl
    exact congrArg (fun y => [some (V.int (m : Int)), some (V.int y), some (.int (0 + (i : Int)))]) e
  · obtain ⟨o2, rfl, rfl⟩ := hp
    exact ⟨_, rfl, q⟩
theorem ok_sameI (F : Fun K "_law_same" "_law_same" s__law_same f fd) (M : Mgs mg) (mrepr : mg "repr" = none) : FnOkG P w K mg base 1 f fd ["_law_found", "_law_due"] spSameI := by
  refine fnG F sc__law_same (fun vs H Q E h => ?_) (fun cdv A outer s H vs Q E gs hr h => ?_)
  · obtain ⟨i, rfl, _⟩ := h
    rfl
  obtain ⟨i, rfl, h30, q⟩ := h
  refine ⟨_, (pss_cons (ps_if (pt_val (pe_callB call_isiT rfl M.isinstance (by decide +kernel) (pa_cons (pv 1) (pa_cons (pe_tup (pa_cons (pe_bltn (v := .ty "tuple") rfl M.tuple (by decide +kernel) rfl) (pa_cons (pe_bltn (v := .ty "list") rfl M.list (by decide +kernel) rfl) pa_nil))) pa_nil))))
      (pss_cons ps_never (pss_cons ps_never (pss_one ps_never))) pss_nil)
    (pss_one (ps_ret (pe_cmpR op_eq (pe_callB (call_reprV gs hr.units) rfl mrepr (by decide +kernel) (pa_cons (pv 0) pa_nil)) (pe_callB (call_reprV gs hr.units) rfl mrepr (by decide +kernel) (pa_cons (pv 1) pa_nil)) (nomark _))))), ?_⟩
  refine ⟨_, rfl, (by show 2 ≤ sizeLine; decide), fun tp np => ?_⟩
  have k1 := same_new np (.tup [.ty "tuple", .ty "list"])
  refine ⟨.int (i : Int), tp, _, _, _, false, rfl, upd_same, .cons (.ty _) (.cons (.ty _) .nil), .base (.int _), kit_tl (by decide +kernel) (by decide +kernel), _, rfl, iteF ?_⟩
  have okI : okR (.int (i : Int)) = true := by
    simp only [okR, Bool.and_eq_true, decide_eq_true_eq]
    exact ⟨by omega, by omega⟩
  have wtI : wtR (.int (i : Int)) ≤ 1000000 := by show 31 ≤ 1000000; decide
  have dpI : (PyData.int (i : Int)).depth ≤ 60 := by show 0 ≤ 60; decide
  refine ⟨_, rfl, .int (i : Int), .int (i : Int), rfl, .int _, okI, wtI, dpI, _, rfl, .int (i : Int), .int (i : Int), rfl, .int _, okI, wtI, dpI, rfl, ?_⟩
  rw [decide_eq_true rfl]
  exact q _ k1
end
/-! ### keys grow with the number -/
theorem lt_ch (a b : Nat) : PySem.W.dataLt (.str (ch a)) (.str (ch b)) = decide (a < b) := by rw [PySem.W.dataLt_str]; exact ch_lt a b
theorem lt_nat (a b : Nat) : PySem.W.dataLt (.int (a : Int)) (.int (b : Int)) = decide (a < b) := by
  rw [PySem.W.dataLt_int]
  by_cases h : a < b
  · rw [decide_eq_true h, decide_eq_true (by omega)]
  · rw [decide_eq_false h, decide_eq_false (by omega)]
theorem eqv_ch (a b : Nat) : PyData.eqv (.str (ch a)) (.str (ch b)) = decide (a = b) := by
  by_cases h : a = b
  · subst h; rw [decide_eq_true rfl]; simp [PyData.eqv]
  · rw [decide_eq_false h]
    have : ¬ ch a = ch b := fun z => h (ch_inj z)
    simp [PyData.eqv, this]
theorem eqv_nat (s u : Nat) : PyData.eqv (.int (s : Int)) (.int (u : Int)) = decide (s = u) := by
  by_cases h : s = u
  · subst h; rw [decide_eq_true rfl]; simp [PyData.eqv]
  · rw [decide_eq_false h]
    have : ¬ (s : Int) = (u : Int) := by omega
    simp [PyData.eqv, this]
theorem tup_lt {x y : PyData} (h : PySem.W.alike x y = true) (xs ys : List PyData) : PySem.W.dataLt (.tuple (x :: xs)) (.tuple (y :: ys)) = if PyData.eqv x y = true then PySem.W.dataLt (.tuple xs) (.tuple ys) else PySem.W.dataLt x y := by
  rw [PySem.W.dataLt_tuple, PySem.W.dataLt_cons h, PySem.W.dataLt_tuple]
theorem key_alike : ∀ a b : B, PySem.W.alike (keyD a) (keyD b) = true
  | .nil, .nil => by simp [keyD, PySem.W.alike, PySem.W.alikeAll]
  | .nil, .node _ _ _ => by simp [keyD, PySem.W.alike, PySem.W.alikeAll]
  | .node _ _ _, .nil => by simp [keyD, PySem.W.alike, PySem.W.alikeAll]
  | .node l x r, .node l' x' r' => by
    have h1 := key_alike l l'
    have h2 := key_alike r r'
    simp [keyD, PySem.W.alike, PySem.W.alikeAll, h1, h2]
theorem not_eqv {a b : B} (h : PySem.W.dataLt (keyD a) (keyD b) = true) : PyData.eqv (keyD a) (keyD b) = false := by
  cases e : PyData.eqv (keyD a) (keyD b) with
  | false => rfl
  | true =>
    have := (PySem.W.toks_eqv _ _ (key_alike a b)).1 e
    unfold PySem.W.dataLt at h
    rw [this, PyProof.Rows.lex_irrefl] at h
    cases h
theorem self_eqv (a : B) : PyData.eqv (keyD a) (keyD a) = true := PySem.W.eqv_refl_alike _ (key_alike a a)
theorem key_lt {l r l' r' : B} {x x' : Nat} (h : x < x' ∨ (x = x' ∧ (l.size < l'.size ∨ (l.size = l'.size ∧ (PySem.W.dataLt (keyD l) (keyD l') = true ∨ (l = l' ∧ PySem.W.dataLt (keyD r) (keyD r') = true)))))) :
    PySem.W.dataLt (keyD (.node l x r)) (keyD (.node l' x' r')) = true := by
  unfold keyD
  rw [tup_lt (by simp [PySem.W.alike]), eqv_ch, lt_ch]
  rcases h with h | ⟨rfl, h⟩
  · rw [decide_eq_false (show ¬ x = x' by omega), if_neg (by decide), decide_eq_true h]
  rw [decide_eq_true rfl, if_pos rfl, tup_lt (by simp [PySem.W.alike]), eqv_nat, lt_nat]
  rcases h with h | ⟨e, h⟩
  · rw [decide_eq_false (show ¬ l.size = l'.size by omega), if_neg (by decide), decide_eq_true h]
  rw [decide_eq_true e, if_pos rfl, tup_lt (key_alike l l')]
  rcases h with h | ⟨rfl, h⟩
  · rw [not_eqv h, if_neg (by decide), h]
  · rw [self_eqv, if_pos rfl, tup_lt (key_alike r r'), not_eqv h, if_neg (by decide), h]
theorem nil_lt (l r : B) (x : Nat) : PySem.W.dataLt (.tuple []) (keyD (.node l x r)) = true := by
  unfold keyD
  rw [PySem.W.dataLt_tuple]
  simp [PySem.W.keyToksAll, PyProof.Rows.lexLt]
  exact .inl (by decide)
theorem sum_take {G : G3} {cs : List Choice} {p q : Nat} {c : Choice} (h : cs[q]? = some c) (hpq : q < p) : ((cs.take q).map (wC G)).sum + wC G c ≤ ((cs.take p).map (wC G)).sum := by
  have e : cs.take p = cs.take (q + 1) ++ (cs.take p).drop (q + 1) := by
    have := (List.take_append_drop (q + 1) (cs.take p)).symm
    rw [List.take_take, Nat.min_eq_left (by omega)] at this
    exact this
  rw [e, List.map_append, List.sum_append, take_next h, List.map_append, List.sum_append]
  show _ + wC G c ≤ _ + (wC G c + 0) + _
  omega
theorem chs_sorted (G : G3) (t : St4) : (chs G t).Pairwise fun a b => PySem.W.dataLe false chD a b = true := PySem.W.sort_pairwise (PySem.W.sortLe_total _ false _) _
theorem left_same {G : G3} {t : St4} {c c' : Choice} (h : c ∈ chs G t) (h' : c' ∈ chs G t) (e : c.2.1.1 = c'.2.1.1) : c.2.1 = c'.2.1 := by
  obtain ⟨x, hx, _, e1, _⟩ := chs_mem.mp h
  obtain ⟨x', hx', _, e1', _⟩ := chs_mem.mp h'
  obtain ⟨s, _, _, _, q1, _⟩ := spl_mem (live_mem hx).1
  obtain ⟨s', _, _, _, q1', _⟩ := spl_mem (live_mem hx').1
  rw [e1, e1', q1, q1'] at e ⊢
  have : s = s' := e
  rw [this]
theorem ints_lt (a b : St4) (h : a.1 ≠ b.1) : PySem.W.dataLt (intsD a) (intsD b) = decide (a.1 < b.1) ∧ PyData.eqv (intsD a) (intsD b) = false := by
  unfold intsD
  constructor
  · rw [tup_lt (by simp [PySem.W.alike]), eqv_nat, decide_eq_false h, if_neg (by decide), lt_nat]
  · have : ¬ (a.1 : Int) = (b.1 : Int) := by omega
    simp [PyData.eqv, PyData.eqvAll, this]
theorem ints_alike (a b : St4) : PySem.W.alike (intsD a) (intsD b) = true := by simp [intsD, PySem.W.alike, PySem.W.alikeAll]
/-- an earlier choice has the less letter, or the less left part -/
theorem chs_order {G : G3} {t : St4} {p q : Nat} {c c' : Choice} (h : (chs G t)[p]? = some c) (h' : (chs G t)[q]? = some c') (hpq : p < q) : c.1 < c'.1 ∨ (c.1 = c'.1 ∧ c.2.1.1 < c'.2.1.1) := by
  have hm := List.mem_of_getElem? h
  have hm' := List.mem_of_getElem? h'
  obtain ⟨i1, i2⟩ := List.getElem?_eq_some_iff.mp h
  obtain ⟨j1, j2⟩ := List.getElem?_eq_some_iff.mp h'
  have le := (List.pairwise_iff_getElem.mp (chs_sorted G t)) p q i1 j1 hpq
  rw [i2, j2] at le
  have le : (!PySem.W.dataLt (chD c') (chD c)) = true := le
  rw [Bool.not_eq_true'] at le
  unfold chD at le
  rw [tup_lt (by simp [PySem.W.alike]), eqv_ch, lt_ch] at le
  have ne : (c.1, c.2.1.1) ≠ (c'.1, c'.2.1.1) := fun e => by
    have := key_other h h' e
    omega
  by_cases e1 : c'.1 = c.1
  · rw [decide_eq_true e1, if_pos rfl, tup_lt (ints_alike _ _)] at le
    have ne2 : c'.2.1.1 ≠ c.2.1.1 := fun e => ne (by rw [e1, e])
    obtain ⟨a, b⟩ := ints_lt c'.2.1 c.2.1 ne2
    rw [b, if_neg (by decide), a] at le
    have := of_decide_eq_false le
    exact .inr ⟨e1.symm, by omega⟩
  · rw [decide_eq_false e1, if_neg (by decide)] at le
    have := of_decide_eq_false le
    exact .inl (by omega)
theorem num_mono {G : G3} : ∀ (m : Nat) (t : St4) (i j : Nat), t.1 = m → i < j → j < cnt G t → PySem.W.dataLt (keyD (num G t i)) (keyD (num G t j)) = true := by
  intro m
  induction m using Nat.strongRecOn with
  | ind m ih =>
    intro t i j ht hij hj
    have z : t.1 ≠ 0 := fun z => by
      rw [cnt_eq, if_pos z] at hj
      omega
    have hs : ((chs G t).map (wC G)).sum = cnt G t := cnt_chs z
    obtain ⟨c, r, hp, hm, hr⟩ := pick_some (G := G) (cs := chs G t) (i := i) (by omega)
    obtain ⟨c', r', hp', hm', hr'⟩ := pick_some (G := G) (cs := chs G t) (i := j) (by omega)
    rw [num_pick z hp hm, num_pick z hp' hm']
    have sm := chs_small hm
    have sm' := chs_small hm'
    obtain ⟨p, ep, ei⟩ := pick_at hp
    obtain ⟨q, eq, ej⟩ := pick_at hp'
    obtain ⟨x, hx, _, e1, e2⟩ := chs_mem.mp hm
    obtain ⟨_, n1, n2⟩ := live_mem hx
    rw [← e1] at n1
    rw [← e2] at n2
    obtain ⟨x', hx', _, e1', e2'⟩ := chs_mem.mp hm'
    obtain ⟨_, n1', n2'⟩ := live_mem hx'
    rw [← e1'] at n1'
    rw [← e2'] at n2'
    have d1 : r / cnt G c.2.2 < cnt G c.2.1 := Nat.div_lt_of_lt_mul (by rw [Nat.mul_comm]; exact hr)
    have d2 : r % cnt G c.2.2 < cnt G c.2.2 := Nat.mod_lt _ (Nat.pos_of_ne_zero n2)
    have d1' : r' / cnt G c'.2.2 < cnt G c'.2.1 := Nat.div_lt_of_lt_mul (by rw [Nat.mul_comm]; exact hr')
    have d2' : r' % cnt G c'.2.2 < cnt G c'.2.2 := Nat.mod_lt _ (Nat.pos_of_ne_zero n2')
    have s1 := num_size c.2.1.1 c.2.1 _ rfl d1
    have s1' := num_size c'.2.1.1 c'.2.1 _ rfl d1'
    rcases Nat.lt_trichotomy p q with hpq | hpq | hpq
    · refine key_lt ?_
      rcases chs_order ep eq hpq with h | ⟨h1, h2⟩
      · exact .inl h
      · exact .inr ⟨h1, .inl (by omega)⟩
    · subst hpq
      rw [ep] at eq
      cases eq
      have hrr : r < r' := by omega
      refine key_lt (.inr ⟨rfl, .inr ⟨by omega, ?_⟩⟩)
      have m1 := Nat.div_add_mod r (cnt G c.2.2)
      have m2 := Nat.div_add_mod r' (cnt G c.2.2)
      rcases Nat.lt_or_ge (r / cnt G c.2.2) (r' / cnt G c.2.2) with h | h
      · exact .inl (ih c.2.1.1 (by omega) c.2.1 _ _ rfl h d1')
      · have he : r / cnt G c.2.2 = r' / cnt G c.2.2 := Nat.le_antisymm (Nat.div_le_div_right (Nat.le_of_lt hrr)) h
        refine .inr ⟨by rw [he], ih c.2.2.1 (by omega) c.2.2 _ _ rfl ?_ d2'⟩
        rw [he] at m1
        omega
    · exfalso
      have := sum_take (G := G) eq hpq
      omega
/-! ### the count by all shapes -/
def shL : Nat → List (List S)
  | 0 => [[.nil]]
  | n + 1 => shL n ++ [(List.range (n + 1)).flatMap fun s => ((shL n).getD s []).flatMap fun l => ((shL n).getD (n - s) []).map fun r => .node l r]
def shapes (n : Nat) : List S := (shL n).getD n []
theorem shL_len : ∀ n : Nat, (shL n).length = n + 1
  | 0 => rfl
  | n + 1 => by
    show (shL n ++ [_]).length = _
    rw [List.length_append, shL_len n]; rfl
theorem shL_get {i : Nat} : ∀ n : Nat, i ≤ n → (shL n).getD i [] = shapes i
  | 0, h => by
    have : i = 0 := by omega
    subst this; rfl
  | n + 1, h => by
    by_cases e : i = n + 1
    · subst e; rfl
    · rw [← shL_get n (by omega)]
      show (shL n ++ [_]).getD i [] = _
      rw [List.getD_eq_getElem?_getD, List.getD_eq_getElem?_getD, List.getElem?_append_left (by rw [shL_len]; omega)]
theorem fm_congr {α β : Type} {f g : α → List β} : ∀ {l : List α}, (∀ x ∈ l, f x = g x) → l.flatMap f = l.flatMap g
  | [], _ => rfl
  | x :: l, h => by rw [List.flatMap_cons, List.flatMap_cons, h x List.mem_cons_self, fm_congr fun y hy => h y (List.mem_cons_of_mem _ hy)]
theorem shapes_succ (n : Nat) : shapes (n + 1) = (List.range (n + 1)).flatMap fun s => (shapes s).flatMap fun l => (shapes (n - s)).map fun r => .node l r := by
  show (shL n ++ [_]).getD (n + 1) [] = _
  rw [List.getD_eq_getElem?_getD, List.getElem?_append_right (by rw [shL_len]; omega), shL_len, Nat.sub_self]
  show ((List.range (n + 1)).flatMap fun s => ((shL n).getD s []).flatMap fun l => ((shL n).getD (n - s) []).map fun r => S.node l r) = _
  refine fm_congr fun s hs => ?_
  have := List.mem_range.mp hs
  rw [shL_get n (by omega), shL_get n (by omega)]
theorem shapes_size : ∀ (n : Nat) (x : S), x ∈ shapes n → x.size = n := by
  intro n
  induction n using Nat.strongRecOn with
  | ind n ih =>
    intro x hx
    match n, ih, hx with
    | 0, _, hx =>
      rw [List.mem_singleton.mp hx]; rfl
    | n + 1, ih, hx =>
      rw [shapes_succ] at hx
      obtain ⟨s, hs, hx⟩ := List.mem_flatMap.mp hx
      obtain ⟨l, hl, hx⟩ := List.mem_flatMap.mp hx
      obtain ⟨r, hr, rfl⟩ := List.mem_map.mp hx
      have := List.mem_range.mp hs
      have h1 := ih s (by omega) l hl
      have h2 := ih (n - s) (by omega) r hr
      show 1 + l.size + r.size = n + 1
      omega
/-- the letters of a shape's nodes at a stretch, the root first -/
def letsOf (G : G3) : S → St4 → List (List Nat)
  | .nil, _ => []
  | .node l r, t => letS G t l.size :: (letsOf G l (leftS t l.size) ++ letsOf G r (rightS t l.size))
def prodL (l : List (List Nat)) : Nat := (l.map List.length).foldr (· * ·) 1
theorem prodL_app : ∀ l m : List (List Nat), prodL (l ++ m) = prodL l * prodL m
  | [], m => (Nat.one_mul _).symm
  | x :: l, m => by
    show x.length * prodL (l ++ m) = x.length * prodL l * prodL m
    rw [prodL_app l m, Nat.mul_assoc]
theorem sum_times_l {α : Type} (g : α → Nat) (k : Nat) : ∀ l : List α, (l.map fun x => k * g x).sum = k * (l.map g).sum
  | [] => (Nat.mul_zero _).symm
  | x :: l => by rw [List.map_cons, List.sum_cons, List.map_cons, List.sum_cons, sum_times_l g k l, Nat.mul_add]
theorem sum_flat {α β : Type} (g : α → List β) (v : β → Nat) (f : α → Nat) : ∀ l : List α, (∀ x ∈ l, ((g x).map v).sum = f x) → ((l.flatMap g).map v).sum = (l.map f).sum
  | [], _ => rfl
  | x :: l, h => by
    rw [List.flatMap_cons, List.map_append, List.sum_append, List.map_cons, List.sum_cons, h x List.mem_cons_self, sum_flat g v f l fun y hy => h y (List.mem_cons_of_mem _ hy)]
theorem sum_times_r {α : Type} (g : α → Nat) (k : Nat) : ∀ l : List α, (l.map fun x => g x * k).sum = (l.map g).sum * k
  | [] => (Nat.zero_mul _).symm
  | x :: l => by rw [List.map_cons, List.sum_cons, List.map_cons, List.sum_cons, sum_times_r g k l, Nat.add_mul]
theorem cnt_shapes {G : G3} : ∀ (m : Nat) (t : St4), t.1 = m → cnt G t = ((shapes m).map fun x => prodL (letsOf G x t)).sum := by
  intro m
  induction m using Nat.strongRecOn with
  | ind m ih =>
    intro t ht
    rw [cnt_eq]
    split
    · next z =>
      have : m = 0 := by omega
      subst this; rfl
    · next z =>
      obtain ⟨j, rfl⟩ : ∃ j, m = j + 1 := ⟨m - 1, by omega⟩
      rw [shapes_succ]
      unfold spl
      rw [sum_flat (splAt G t) (term G) (fun s => (letS G t s).length * cnt G (leftS t s) * cnt G (rightS t s)), ht]
      · rw [sum_flat _ _ (fun s => (letS G t s).length * cnt G (leftS t s) * cnt G (rightS t s))]
        intro s hs
        have hs := List.mem_range.mp hs
        have h2 : (rightS t s).1 = j - s := by show t.1 - 1 - s = _; omega
        rw [ih s (by omega) (leftS t s) rfl, ih (j - s) (by omega) (rightS t s) h2]
        rw [sum_flat _ _ (fun l => ((letS G t s).length * prodL (letsOf G l (leftS t s))) * ((shapes (j - s)).map fun x => prodL (letsOf G x (rightS t s))).sum)]
        · rw [sum_times_r, sum_times_l]
        · intro l hl
          have sz := shapes_size s l hl
          rw [List.map_map, ← sum_times_l]
          refine congrArg List.sum (List.map_congr_left fun r hr => ?_)
          show (letS G t l.size).length * prodL (letsOf G l (leftS t l.size) ++ letsOf G r (rightS t l.size)) = _
          rw [prodL_app, sz, Nat.mul_assoc]
      · intro s hs
        unfold splAt
        split
        · next e => rw [e]; simp
        · rw [List.map_cons, List.map_nil, List.sum_cons, List.sum_nil, Nat.add_zero]
          rfl
/-! ### the letter that three signs tell -/
/-- as the law tells it: "?" if no sign tells one, "" if they contradict one another -/
def lettOf (l : List Nat) : List Nat := match knownL l with
  | [] => [63]
  | c :: r => if c :: r = List.replicate (r.length + 1) c then [c] else []
theorem comm_lett (l : List Nat) : (comm l).length = if lettOf l = [] then 0 else if lettOf l = [63] then 26 else 1 := by
  unfold comm lettOf
  cases h : knownL l with
  | nil => rfl
  | cons c r =>
    have hc : c ≠ 63 := by
      have : c ∈ knownL l := by rw [h]; exact List.mem_cons_self
      exact of_decide_eq_true (List.mem_filter.mp this).2
    show (if c :: r = List.replicate (r.length + 1) c then [c] else []).length = if (if c :: r = List.replicate (r.length + 1) c then [c] else []) = [] then 0 else if (if c :: r = List.replicate (r.length + 1) c then [c] else []) = [63] then 26 else 1
    by_cases e : c :: r = List.replicate (r.length + 1) c
    · rw [if_pos e, if_neg (by simp), if_neg (by simpa using hc)]
      rfl
    · rw [if_neg e, if_pos rfl]
      rfl
theorem prod_lett : ∀ ls : List (List Nat), prodL (ls.map comm) = if [] ∈ ls.map lettOf then 0 else 26 ^ ((ls.map lettOf).count [63])
  | [] => rfl
  | l :: ls => by
    have ih := prod_lett ls
    show (comm l).length * prodL (ls.map comm) = _
    rw [ih, comm_lett, List.map_cons]
    by_cases e0 : lettOf l = []
    · rw [if_pos e0, e0, if_pos List.mem_cons_self, Nat.zero_mul]
    rw [if_neg e0]
    by_cases em : [] ∈ ls.map lettOf
    · rw [if_pos em, if_pos (List.mem_cons_of_mem _ em), Nat.mul_zero]
    · have en : ¬ [] ∈ lettOf l :: ls.map lettOf := fun h => by
        rcases List.mem_cons.mp h with h | h
        · exact e0 h.symm
        · exact em h
      rw [if_neg em, if_neg en]
      by_cases e63 : lettOf l = [63]
      · rw [if_pos e63, e63, List.count_cons_self, Nat.pow_succ, Nat.mul_comm]
      · rw [if_neg e63, Nat.one_mul, List.count_cons_of_ne e63]
/-- the places of a shape's nodes in the three walks, the root first -/
def spotsOf : S → Nat → Nat → Nat → List (Nat × Nat × Nat)
  | .nil, _, _, _ => []
  | .node l r, a, b, c => (a, b + l.size, c + (1 + l.size + r.size) - 1) :: (spotsOf l (a + 1) b c ++ spotsOf r (a + 1 + l.size) (b + l.size + 1) (c + l.size))
def sigs (G : G3) (p : Nat × Nat × Nat) : List Nat := [G.a.getD p.1 63, G.b.getD p.2.1 63, G.c.getD p.2.2 63]
theorem lets_spots {G : G3} : ∀ (x : S) (t : St4), t.1 = x.size → letsOf G x t = (spotsOf x t.2.1 t.2.2.1 t.2.2.2).map fun p => comm (sigs G p)
  | .nil, _, _ => rfl
  | .node l r, (m, i, j, k), h => by
    have h : m = 1 + l.size + r.size := h
    subst h
    have h1 := lets_spots (G := G) l (leftS (1 + l.size + r.size, i, j, k) l.size) rfl
    have h2 := lets_spots (G := G) r (rightS (1 + l.size + r.size, i, j, k) l.size) (by show 1 + l.size + r.size - 1 - l.size = r.size; omega)
    show letS G (1 + l.size + r.size, i, j, k) l.size :: (letsOf G l _ ++ letsOf G r _) = _
    rw [h1, h2]
    show _ = (comm (sigs G (i, j + l.size, k + (1 + l.size + r.size) - 1))) :: ((spotsOf l (i + 1) j k ++ spotsOf r (i + 1 + l.size) (j + l.size + 1) (k + l.size)).map fun p => comm (sigs G p))
    rw [List.map_append]
    rfl
/-- the law's number -/
def lawNum (G : G3) (n : Nat) : Nat := ((shapes n).map fun x => if [] ∈ ((spotsOf x 0 0 0).map fun p => lettOf (sigs G p)) then 0 else 26 ^ (((spotsOf x 0 0 0).map fun p => lettOf (sigs G p)).count [63])).sum
theorem law_num (G : G3) (n : Nat) : cnt G (wholeS n) = lawNum G n := by
  rw [cnt_shapes n (wholeS n) rfl]
  unfold lawNum
  refine congrArg List.sum (List.map_congr_left fun x hx => ?_)
  rw [lets_spots x (wholeS n) (shapes_size n x hx).symm]
  have := prod_lett ((spotsOf x 0 0 0).map (sigs G))
  rw [List.map_map, List.map_map] at this
  exact this
/-! ### _law_spots -/
inductive TsAt (H : Hp) : List V → List (Nat × Nat × Nat) → Prop
  | nil : TsAt H [] []
  | cons {q : Addr} {x : Nat × Nat × Nat} {us : List V} {xs : List (Nat × Nat × Nat)} : H q = some (.tup [.int (x.1 : Int), .int (x.2.1 : Int), .int (x.2.2 : Int)]) → TsAt H us xs → TsAt H (.ref q :: us) (x :: xs)
theorem TsAt.same {H H' : Hp} (k : Same H H') {us : List V} {xs : List (Nat × Nat × Nat)} (h : TsAt H us xs) : TsAt H' us xs := by
  induction h with
  | nil => exact .nil
  | cons e _ ih => exact .cons (k _ _ e) ih
theorem TsAt.app {H : Hp} {us vs : List V} {xs ys : List (Nat × Nat × Nat)} (h : TsAt H us xs) (g : TsAt H vs ys) : TsAt H (us ++ vs) (xs ++ ys) := by
  induction h with
  | nil => exact g
  | cons e _ ih => exact .cons e ih
theorem TsAt.len {H : Hp} {us : List V} {xs : List (Nat × Nat × Nat)} (h : TsAt H us xs) : us.length = xs.length := by
  induction h with
  | nil => rfl
  | cons _ _ ih => exact congrArg Nat.succ ih
theorem spots_len : ∀ (x : S) (a b c : Nat), (spotsOf x a b c).length = x.size
  | .nil, _, _, _ => rfl
  | .node l r, a, b, c => by
    show (spotsOf l _ _ _ ++ spotsOf r _ _ _).length + 1 = 1 + l.size + r.size
    rw [List.length_append, spots_len l, spots_len r]
    omega
def spSpots (n : Nat) : Sp := fun vs H Q _ => ∃ (v : V) (x : S) (a b c : Nat), vs = [v, .int (a : Int), .int (b : Int), .int (c : Int)] ∧ ShAt H v x ∧ x.size < n ∧ x.size ≤ 12 ∧ ∀ (p : Addr) (us : List V) (H' : Hp), Same H H' → H' p = some (.lst us) → TsAt H' us (spotsOf x a b c) → Q (.ref p) H'
section
variable {P : Program} {w : World} {K : PySem.W.Frag} {mg : Str → Option Value} {base : Heap} {f : Addr} {fd : FuncData}
theorem ok_lspots (F : Fun K "_law_spots" "_law_spots" s__law_spots f fd) (b : Binds K fd ["_law_shape_here", "_law_a", "_law_b", "_law_c"] []) (g : mg "_law_spots" = some (.ref f)) (D_law_size : Df P w K mg base 30 "_law_size" ["_law_tree_here"] (spSSize 30)) : ∀ n : Nat, FnOk P w K mg base CX0 (30 + n) f fd ["_law_shape_here", "_law_a", "_law_b", "_law_c"] (spSpots n)
  | 0 => by
    have no : ∀ vs H Q E, ¬ spSpots 0 vs H Q E := fun vs H Q E h => by
      obtain ⟨v, x, a, b, c, _, _, h1, _⟩ := h
      omega
    exact ⟨fun vs H Q E h => absurd h (no vs H Q E), fun A outer s H args us vs Q E _ _ _ _ h => absurd h (no vs H Q E)⟩
  | n + 1 => by
    have Dself : Df P w K mg base (30 + n) "_law_spots" ["_law_shape_here", "_law_a", "_law_b", "_law_c"] (spSpots n) := ⟨f, fd, ok_lspots F b g D_law_size n, b, F.kp, g⟩
    refine F.ok (k := 30 + n) sc__law_spots (fun vs H Q E h => ?_) (fun cdv A outer s H vs Q E hr h => ?_)
    · obtain ⟨v, x, a, b, c, rfl, _⟩ := h
      rfl
    obtain ⟨v, x, a, bb, c, rfl, hv, hn, h12, q⟩ := h
    refine ⟨_, (pss_cons (ps_if (pt_cmpR op_isN (pv 0) pe_non (nomark _))
      (pss_one (ps_ret (pe_lst pa_nil))) pss_nil)
    (pss_cons (ps_par (i := 4) (j := 5) (by rfl) sc__law_spots.nd rfl rfl (by decide) rfl rfl (pa_cons (pe_call D_law_size.ok (hr.mono (by omega)) rfl D_law_size.g D_law_size.kp D_law_size.b .nil pass0 (pa_cons (pv 0) pa_nil)) (pa_cons (pe_call D_law_size.ok (hr.mono (by omega)) rfl D_law_size.g D_law_size.kp D_law_size.b .nil pass0 (pa_cons (pe_ix ix_tup (pv 0) pe_int (fun _ _ => rfl)) pa_nil)) pa_nil)) (by rfl))
    (pss_cons (ps_set (i := 6) sc__law_spots.nd rfl (.inl rfl) (pe_op op_cat (pe_lst (pa_cons (pe_tup (pa_cons (pv 1) (pa_cons (pe_op op_add (pv 2) (pv 5)) (pa_cons (pe_op op_sub (pe_op op_add (pv 3) (pv 4)) pe_int) pa_nil)))) pa_nil)) (pe_call Dself.ok (hr.mono (by omega)) rfl Dself.g Dself.kp Dself.b .nil pass0 (pa_cons (pe_ix ix_tup (pv 0) pe_int (fun _ _ => rfl)) (pa_cons (pe_op op_add (pv 1) pe_int) (pa_cons (pv 2) (pa_cons (pv 3) pa_nil)))))))
    (pss_one (ps_ret (pe_op op_cat (pv 6) (pe_call Dself.ok (hr.mono (by omega)) rfl Dself.g Dself.kp Dself.b .nil pass0 (pa_cons (pe_ix ix_tup (pv 0) (pe_un un_neg pe_int) (fun _ _ => rfl)) (pa_cons (pe_op op_add (pe_op op_add (pv 1) pe_int) (pv 5)) (pa_cons (pe_op op_add (pe_op op_add (pv 2) (pv 5)) pe_int) (pa_cons (pe_op op_add (pv 3) (pv 5)) pa_nil))))))))))), ?_⟩
    rcases hv.inv with ⟨rfl, rfl⟩ | ⟨ad, l, r, tl, tr, rfl, rfl, ea, hl, hr'⟩
    · refine ⟨_, rfl, rfl, _, rfl, iteT ⟨(by show 0 ≤ sizeLine; decide), fun p np => ?_⟩⟩
      exact q p [] _ (same_new np _) upd_same .nil
    · have sz : 1 + tl.size + tr.size < n + 1 := hn
      have s12 : 1 + tl.size + tr.size ≤ 12 := h12
      refine ⟨_, rfl, rfl, _, rfl, iteF ?_⟩
      refine ⟨_, rfl, _, .node tl tr, rfl, hv, by show 1 + tl.size + tr.size < 30; omega, _, rfl, ad, _, _, _, rfl, rfl, SqT.of ea, atI_nat (j := 0) rfl, l, tl, rfl, hl, by omega, _, _, rfl, ?_⟩
      have e3 : (c : Int) + ((S.node tl tr).size : Int) - 1 = ((c + (1 + tl.size + tr.size) - 1 : Nat) : Int) := by
        show (c : Int) + ((1 + tl.size + tr.size : Nat) : Int) - 1 = _
        omega
      refine ⟨_, rfl, _, rfl, _, rfl, _, _, rfl, rfl, _, rfl, _, rfl, _, _, rfl, rfl, _, _, rfl, rfl, (by show 3 ≤ sizeLine; decide), fun q1 nq1 => ?_⟩
      have k1 := same_new nq1 (.tup [.int (a : Int), .int ((bb : Int) + (tl.size : Int)), .int ((c : Int) + ((S.node tl tr).size : Int) - 1)])
      have eq1 := upd_same (H := H) (a := q1) (o := .tup [.int (a : Int), .int ((bb : Int) + (tl.size : Int)), .int ((c : Int) + ((S.node tl tr).size : Int) - 1)])
      generalize upd H q1 (.tup [.int (a : Int), .int ((bb : Int) + (tl.size : Int)), .int ((c : Int) + ((S.node tl tr).size : Int) - 1)]) = H1 at k1 eq1 ⊢
      rw [e3] at eq1
      refine ⟨(by show 1 ≤ sizeLine; decide), fun p1 np1 => ?_⟩
      have k2 := same_new np1 (.lst [.ref q1])
      have ep1 := upd_same (H := H1) (a := p1) (o := .lst [.ref q1])
      have eq2 := k2 _ _ eq1
      generalize upd H1 p1 (.lst [.ref q1]) = H2 at k2 ep1 eq2 ⊢
      have s12' := k1.trans k2
      refine ⟨_, rfl, ad, _, _, _, rfl, rfl, SqT.of (s12' _ _ ea), atI_nat (j := 0) rfl, _, rfl, _, _, rfl, rfl, _, rfl, _, rfl, l, tl, a + 1, bb, c, rfl, hl.same s12', by omega, by omega, fun p2 us2 H3 s3 e2 t2 => ?_⟩
      have l2 := t2.len
      rw [spots_len] at l2
      refine ⟨p1, p2, _, _, rfl, rfl, s3 _ _ ep1, e2, Nat.le_of_lt (small1000 (by show 1 + us2.length ≤ 1000; omega)), fun p3 np3 => ?_⟩
      have k4 := same_new np3 (.lst ([.ref q1] ++ us2))
      have ep3 := upd_same (H := H3) (a := p3) (o := .lst ([.ref q1] ++ us2))
      generalize upd H3 p3 (.lst ([.ref q1] ++ us2)) = H4 at k4 ep3 ⊢
      have s4 := s12'.trans (s3.trans k4)
      refine ⟨_, rfl, _, rfl, _, rfl, ad, _, _, _, rfl, rfl, SqT.of (s4 _ _ ea), (show atI [l, r] (-1) = some r from rfl), _, rfl, _, _, rfl, rfl, _, rfl, _, _, rfl, rfl, _, rfl, _, rfl, _, _, rfl, rfl, _, _, rfl, rfl, _, rfl, _, rfl, _, _, rfl, rfl, r, tr, a + 1 + tl.size, bb + tl.size + 1, c + tl.size, rfl, hr'.same s4, by omega, by omega, fun p5 us5 H5 s5 e5 t5 => ?_⟩
      have l5 := t5.len
      rw [spots_len] at l5
      refine ⟨p3, p5, _, _, rfl, rfl, s5 _ _ ep3, e5, Nat.le_of_lt (small1000 (by rw [List.length_append]; show 1 + us2.length + us5.length ≤ 1000; omega)), fun p6 np6 => ?_⟩
      have k6 := same_new np6 (.lst ([.ref q1] ++ us2 ++ us5))
      refine q p6 _ _ (s4.trans (s5.trans k6)) upd_same ?_
      have sq := (s3.trans k4).trans (s5.trans k6)
      exact TsAt.app (us := [.ref q1] ++ us2) (TsAt.app (us := [.ref q1]) (xs := [(a, bb + tl.size, c + (1 + tl.size + tr.size) - 1)]) (.cons (sq _ _ eq2) .nil) (t2.same (k4.trans (s5.trans k6)))) (t5.same k6)
end
/-! ### _law_letter -/
def spLetter : Sp := fun vs H Q _ => ∃ (p s : Addr) (a b c : List Nat) (i j k : Nat), vs = [.ref p, .ref s] ∧ H p = some (.tup [vt a, vt b, vt c]) ∧ H s = some (.tup [.int (i : Int), .int (j : Int), .int (k : Int)]) ∧ i < a.length ∧ j < b.length ∧ k < c.length ∧ a.length ≤ 12 ∧ b.length ≤ 12 ∧ c.length ≤ 12 ∧ (∀ y ∈ a ++ b ++ c, y < 128) ∧
  ∀ H', Same H H' → Q (vt (lettOf [a.getD i 63, b.getD j 63, c.getD k 63])) H'
theorem known_snoc (l : List Nat) (x : Nat) : knownL (l ++ [x]) = knownL l ++ if x ≠ 63 then [x] else [] := by
  unfold knownL
  rw [List.filter_append]
  by_cases h : x = 63 <;> simp [h]
theorem if_f {b : Bool} {p q : Prop} (e : b = false) (h : q) : if b = true then p else q := by subst e; exact h
theorem if_t {b : Bool} {p q : Prop} (e : b = true) (h : p) : if b = true then p else q := by subst e; exact h
def chsD (l : List Nat) : List PyData := l.map fun c => .str (ch c)
theorem dp_chs {K : PySem.W.Frag} {H : Hp} : ∀ l : List Nat, DpAll K H (l.map vc) (chsD l)
  | [] => .nil
  | _ :: l => .cons (.str _) (dp_chs l)
theorem eqv_chs : ∀ l m : List Nat, PyData.eqv (.list (chsD l)) (.list (chsD m)) = decide (l = m)
  | [], [] => by simp [chsD, PyData.eqv, PyData.eqvAll]
  | [], _ :: _ => by simp [chsD, PyData.eqv, PyData.eqvAll]
  | _ :: _, [] => by simp [chsD, PyData.eqv, PyData.eqvAll]
  | a :: l, b :: m => by
    have ih := eqv_chs l m
    have e := eqv_ch a b
    simp only [chsD, List.map_cons, PyData.eqv, PyData.eqvAll] at ih e ⊢
    rw [ih, e]
    by_cases h1 : a = b <;> by_cases h2 : l = m <;> simp [h1, h2]
theorem str_ok {a : Nat} (h : a < 128) : PyData.strOk (ch a) = true := by
  simp [PyData.strOk, ch]
  omega
theorem shaped_chs (l : List Nat) (hl : ∀ c ∈ l, c < 128) : SeqAt.shaped (.list (chsD l)) = true := by
  have h : ∀ l : List Nat, (∀ c ∈ l, c < 128) → PyData.canLayAll0 (chsD l) = true ∧ PyData.depthAll (chsD l) = 0 := fun l => by
    induction l with
    | nil => exact fun _ => ⟨by simp [chsD, PyData.canLayAll0], by simp [chsD, PyData.depthAll]⟩
    | cons a l ih =>
      intro hl
      obtain ⟨h1, h2⟩ := ih fun c hc => hl c (List.mem_cons_of_mem _ hc)
      have ha := hl a List.mem_cons_self
      have hs : PySem.PyData.canLay0 (.str (ch a)) = true := by
        simp only [PyData.canLay0]
        exact str_ok ha
      unfold chsD at *
      simp [PyData.canLayAll0, PyData.depthAll, PyData.depth, hs, h1, h2]
  obtain ⟨h1, h2⟩ := h l hl
  simp [SeqAt.shaped, PyData.canLay0, PyData.depth, h1, h2]
section
variable {P : Program} {w : World} {K : PySem.W.Frag} {mg : Str → Option Value} {base : Heap} {f : Addr} {fd : FuncData}
theorem ok_letter (F : Fun K "_law_letter" "_law_letter" s__law_letter f fd) (M : Mgs mg) : FnOk P w K mg base CX0 1 f fd ["_law_rows_here", "_law_spot"] spLetter := by
  refine F.ok sc__law_letter (fun vs H Q E h => ?_) (fun cdv A outer s H vs Q E hr h => ?_)
  · obtain ⟨p, s, a, b, c, i, j, k, rfl, _⟩ := h
    rfl
  obtain ⟨p, sp, a, b, c, i, j, k, rfl, ep, es, hi, hj, hk, la, lb, lc, all, q⟩ := h
  refine ⟨_, (pss_cons (ps_setLc (i := 3) (own := [("_law_k", 2)]) (g := gName 2) (by rfl) sc__law_letter.nd rfl rfl (sw_true rfl rfl rfl (by decide +kernel)) (pi_range1 rfl M.range (pa_cons pe_int pa_nil)) (blkOk_by (N := ["_law_rows_here", "_law_spot", "_law_k", "_law_known"]) (sc := defScope s__law_letter) (by decide +kernel)) (fun _ _ _ _ _ => (pg_name (i := 2) sc__law_letter.nd rfl (.inl rfl))) (fun _ _ _ _ _ => pts_one (pt_cmpR op_ne (pe_ix ix_str (pe_ix (show IxR _ (rIxT K) from ix_tup) (pv 0) (pv 2) (fun _ _ => rfl)) (pe_ix (show IxR _ (rIxT K) from ix_tup) (pv 1) (pv 2) (fun _ _ => rfl)) (fun _ _ => rfl)) pe_str (nomark _))) (fun _ _ _ _ _ => (pe_ix ix_str (pe_ix (show IxR _ (rIxT K) from ix_tup) (pv 0) (pv 2) (fun _ _ => rfl)) (pe_ix (show IxR _ (rIxT K) from ix_tup) (pv 1) (pv 2) (fun _ _ => rfl)) (fun _ _ => rfl))))
    (pss_cons (ps_if (pt_cmpR (op_eqD hr.units) (pv 3) (pe_lst pa_nil) (nomark _))
      (pss_one (ps_ret pe_str)) pss_nil)
    (pss_one (ps_ret (pe_ifExp (pt_cmpR (op_eqD hr.units) (pv 3) (pe_op op_rep (pe_lst (pa_cons (pe_ix ix_list (pv 3) pe_int (fun _ _ => rfl)) pa_nil)) (pe_callB call_len_seq rfl M.len PySem.boot_len (pa_cons (pv 3) pa_nil))) (nomark _)) (pe_ix ix_list (pv 3) pe_int (fun _ _ => rfl)) pe_str))))), ?_⟩
  let sg : List Nat := [a.getD i 63, b.getD j 63, c.getD k 63]
  refine ⟨3, rfl, by decide, by decide, fun L nL => ?_⟩
  have kL := same_new nL (.lst [])
  refine lc_range (lo := 0) (n := 3) (fun m H' => Same H H' ∧ H' L = some (.lst ((knownL (sg.take m)).map vc))) ⟨kL, upd_same⟩ (fun m H' hm hp => ?_) (fun H2 hp => ?_)
  · obtain ⟨s2, eL⟩ := hp
    have ep2 := s2 _ _ ep
    have es2 := s2 _ _ es
    obtain ⟨r, o, g1, g2, g3, lr⟩ : ∃ (r : List Nat) (o : Nat), atI [vt a, vt b, vt c] (0 + (m : Int)) = some (vt r) ∧ atI [V.int (i : Int), .int (j : Int), .int (k : Int)] (0 + (m : Int)) = some (.int (o : Int)) ∧ sg[m]? = some (r.getD o 63) ∧ o < r.length ∧ r.length ≤ 12 := by
      match m, hm with
      | 0, _ => exact ⟨a, i, rfl, rfl, rfl, hi, la⟩
      | 1, _ => exact ⟨b, j, rfl, rfl, rfl, hj, lb⟩
      | 2, _ => exact ⟨c, k, rfl, rfl, rfl, hk, lc⟩
    have g4 : atI (tx r).cps.toList (o : Int) = some (r.getD o 63) := getD_at lr.1
    have nx : knownL (sg.take (m + 1)) = knownL (sg.take m) ++ if r.getD o 63 ≠ 63 then [r.getD o 63] else [] := by rw [take_next g3, known_snoc]
    refine ⟨rfl, ?_⟩
    refine ⟨_, rfl, _, rfl, p, _, _, _, rfl, rfl, SqT.of ep2, g1, _, rfl, _, rfl, sp, _, _, _, rfl, rfl, SqT.of es2, g2, ?_⟩
    refine ⟨_, _, _, rfl, rfl, small (by rw [tx_len]; omega), g4, rfl, _, rfl, ?_⟩
    by_cases h : r.getD o 63 = 63
    · refine if_f (by show (!decide (V.str (ch (r.getD o 63)) = V.str (Str.ofString "?"))) = false; rw [h, str_q, decide_eq_true rfl]; rfl) ⟨s2, ?_⟩
      rw [nx, if_neg (by simpa using h), List.append_nil]
      exact eL
    · refine if_t (by show (!decide (V.str (ch (r.getD o 63)) = V.str (Str.ofString "?"))) = true; rw [str_q, decide_eq_false (fun z => h (ch_inj (V.str.inj z)))]; rfl) ?_
      refine ⟨_, rfl, _, rfl, p, _, _, _, rfl, rfl, SqT.of ep2, g1, _, rfl, _, rfl, sp, _, _, _, rfl, rfl, SqT.of es2, g2, ?_⟩
      refine ⟨_, _, _, rfl, rfl, small (by rw [tx_len]; omega), g4, _, eL, ?_, fun b' o' e' => ?_, ?_⟩
      · rw [List.length_map]
        have h1 : (knownL (sg.take m)).length ≤ (sg.take m).length := List.length_filter_le _ _
        rw [List.length_take] at h1
        exact small1000 (by omega)
      · rw [upd_ne (ne_of_none e' nL)]; exact s2 _ _ e'
      · rw [upd_same, nx, if_pos h, List.map_append]; rfl
  · obtain ⟨s2, eL⟩ := hp
    have eL : H2 L = some (.lst ((knownL sg).map vc)) := eL
    have gm : ∀ (x : List Nat) (o : Nat), o < x.length → x.getD o 63 ∈ x := fun x o ho => by
      rw [List.getD_eq_getElem?_getD, List.getElem?_eq_getElem ho]
      exact List.getElem_mem _
    have sgl : ∀ y ∈ knownL sg, y < 128 := fun y hy => by
      have hy := (List.mem_filter.mp hy).1
      rcases List.mem_cons.mp hy with rfl | hy
      · exact all _ (List.mem_append_left _ (List.mem_append_left _ (gm a i hi)))
      rcases List.mem_cons.mp hy with rfl | hy
      · exact all _ (List.mem_append_left _ (List.mem_append_right _ (gm b j hj)))
      · rw [List.mem_singleton.mp hy]
        exact all _ (List.mem_append_right _ (gm c k hk))
    have lk : (knownL sg).length ≤ 3 := List.length_filter_le _ _
    have q : ∀ H', Same H H' → Q (vt (lettOf sg)) H' := q
    refine ⟨_, rfl, (by show 0 ≤ sizeLine; decide), fun z nz => ?_⟩
    have kz := same_new nz (.lst [])
    have eLz := kz _ _ eL
    refine ⟨_, _, .lst (SqL.of eLz) (dp_chs (knownL sg)), .lst (SqL.of upd_same) (dp_chs []), shaped_chs _ sgl, shaped_chs _ (fun c h => nomatch h), _, rfl, ?_⟩
    rw [eqv_chs]
    unfold lettOf at q
    generalize upd H2 z (.lst []) = H3 at kz eLz ⊢
    have s3 := s2.trans kz
    cases hk : knownL sg with
    | nil =>
      rw [hk] at q
      refine if_t (decide_eq_true rfl) ?_
      have := q H3 s3
      show Q (V.str (Str.ofString "?")) H3
      rw [str_q]
      exact this
    | cons c0 r0 =>
      rw [hk] at q eLz lk sgl
      have lk : r0.length + 1 ≤ 3 := lk
      refine if_f (decide_eq_false (List.cons_ne_nil _ _)) ?_
      refine ⟨_, rfl, _, rfl, L, _, _, _, rfl, rfl, SqL.of eLz, atI_nat (j := 0) rfl, (by show 1 ≤ sizeLine; decide), fun y ny => ?_⟩
      have ky := same_new ny (.lst [vc c0])
      have eLy := ky _ _ eLz
      have ey := upd_same (H := H3) (a := y) (o := .lst [vc c0])
      generalize upd H3 y (.lst [vc c0]) = H4 at ky eLy ey ⊢
      have ln : ((c0 :: r0).map vc).length = r0.length + 1 := by rw [List.length_map, List.length_cons]
      refine ⟨_, rfl, L, _, rfl, .inl (SqL.of eLy), y, _, _, rfl, rfl, ey, by rw [ln]; omega, by rw [ln]; omega, ?_, fun t nt => ?_⟩
      · show ([vc c0] : List V).length * (((c0 :: r0).map vc).length : Int).toNat ≤ sizeLine
        rw [ln, Int.toNat_natCast]
        show 1 * (r0.length + 1) ≤ 16777216
        omega
      have kt := same_new nt (.lst (List.replicate (((c0 :: r0).map vc).length : Int).toNat [vc c0]).flatten)
      have eLt := kt _ _ eLy
      have er : (List.replicate (((c0 :: r0).map vc).length : Int).toNat [vc c0]).flatten = (List.replicate (r0.length + 1) c0).map vc := by
        rw [ln, Int.toNat_natCast, List.map_replicate]
        exact List.flatten_replicate_singleton
      have et := upd_same (H := H4) (a := t) (o := .lst (List.replicate (((c0 :: r0).map vc).length : Int).toNat [vc c0]).flatten)
      generalize upd H4 t (.lst (List.replicate (((c0 :: r0).map vc).length : Int).toNat [vc c0]).flatten) = H5 at kt eLt et ⊢
      rw [er] at et
      refine ⟨_, _, .lst (SqL.of eLt) (dp_chs (c0 :: r0)), .lst (SqL.of et) (dp_chs (List.replicate (r0.length + 1) c0)), shaped_chs _ sgl, shaped_chs _ (fun y hy => by rw [List.eq_of_mem_replicate hy]; exact sgl _ List.mem_cons_self), _, rfl, ?_⟩
      rw [eqv_chs]
      have q5 := q H5 (s3.trans (ky.trans kt))
      by_cases h : c0 :: r0 = List.replicate (r0.length + 1) c0
      · have q5 : Q (vt (if c0 :: r0 = List.replicate (r0.length + 1) c0 then [c0] else [])) H5 := q5
        rw [if_pos h] at q5
        refine if_t (decide_eq_true h) ?_
        exact ⟨_, rfl, L, _, _, _, rfl, rfl, SqL.of eLt, atI_nat (j := 0) rfl, q5⟩
      · have q5 : Q (vt (if c0 :: r0 = List.replicate (r0.length + 1) c0 then [c0] else [])) H5 := q5
        rw [if_neg h] at q5
        refine if_f (decide_eq_false h) ?_
        show Q (V.str (Str.ofString "")) H5
        rw [str_0]
        exact q5
end
/-! ### _law_shapes -/
inductive ShsAt (H : Hp) : List V → List S → Prop
  | nil : ShsAt H [] []
  | cons {v : V} {x : S} {us : List V} {xs : List S} : ShAt H v x → ShsAt H us xs → ShsAt H (v :: us) (x :: xs)
theorem ShsAt.keep {H H' : Hp} (k : KeepT H H') {us : List V} {xs : List S} (h : ShsAt H us xs) : ShsAt H' us xs := by
  induction h with
  | nil => exact .nil
  | cons e _ ih => exact .cons (e.keep k) ih
theorem ShsAt.same {H H' : Hp} (k : Same H H') {us : List V} {xs : List S} (h : ShsAt H us xs) : ShsAt H' us xs := h.keep (Tw.Same.keepT k)
theorem ShsAt.app {H : Hp} {us vs : List V} {xs ys : List S} (h : ShsAt H us xs) (g : ShsAt H vs ys) : ShsAt H (us ++ vs) (xs ++ ys) := by
  induction h with
  | nil => exact g
  | cons e _ ih => exact .cons e ih
theorem ShsAt.len {H : Hp} {us : List V} {xs : List S} (h : ShsAt H us xs) : us.length = xs.length := by
  induction h with
  | nil => rfl
  | cons _ _ ih => exact congrArg Nat.succ ih
theorem ShsAt.get {H : Hp} {us : List V} {xs : List S} (h : ShsAt H us xs) : ∀ {i : Nat} {u : V}, us[i]? = some u → ∃ c, xs[i]? = some c ∧ ShAt H u c := by
  induction h with
  | nil => intro i u e; simp at e
  | cons a _ ih =>
    intro i u e
    match i, e with
    | 0, e => cases e; exact ⟨_, rfl, a⟩
    | i + 1, e => exact ih e
inductive LsAt (H : Hp) (L : Addr) : List V → List (List S) → Prop
  | nil : LsAt H L [] []
  | cons {p : Addr} {us : List V} {xs : List S} {vs : List V} {xss : List (List S)} : p ≠ L → H p = some (.lst us) → ShsAt H us xs → LsAt H L vs xss → LsAt H L (.ref p :: vs) (xs :: xss)
theorem LsAt.but {H H' : Hp} {L : Addr} {ws : List V} (eL : H L = some (.lst ws)) (k : ∀ a o, a ≠ L → H a = some o → H' a = some o) {vs : List V} {xss : List (List S)} (h : LsAt H L vs xss) : LsAt H' L vs xss := by
  induction h with
  | nil => exact .nil
  | cons n e s _ ih => exact .cons n (k _ _ n e) (s.keep fun a o ea => k _ _ (fun z => by rw [z, eL] at ea; cases ea) ea) ih
theorem LsAt.same {H H' : Hp} {L : Addr} (k : Same H H') {vs : List V} {xss : List (List S)} (h : LsAt H L vs xss) : LsAt H' L vs xss := by
  induction h with
  | nil => exact .nil
  | cons n e s _ ih => exact .cons n (k _ _ e) (s.same k) ih
theorem LsAt.app {H : Hp} {L : Addr} {us vs : List V} {xs ys : List (List S)} (h : LsAt H L us xs) (g : LsAt H L vs ys) : LsAt H L (us ++ vs) (xs ++ ys) := by
  induction h with
  | nil => exact g
  | cons n e s _ ih => exact .cons n e s ih
theorem LsAt.len {H : Hp} {L : Addr} {us : List V} {xs : List (List S)} (h : LsAt H L us xs) : us.length = xs.length := by
  induction h with
  | nil => rfl
  | cons _ _ _ _ ih => exact congrArg Nat.succ ih
theorem LsAt.get {H : Hp} {L : Addr} {vs : List V} {xss : List (List S)} (h : LsAt H L vs xss) : ∀ {i : Nat}, i < xss.length → ∃ p us, vs[i]? = some (.ref p) ∧ p ≠ L ∧ H p = some (.lst us) ∧ ShsAt H us (xss.getD i []) := by
  induction h with
  | nil => intro i e; exact absurd e (Nat.not_lt_zero _)
  | cons n e s _ ih =>
    intro i hi
    match i, hi with
    | 0, _ => exact ⟨_, _, rfl, n, e, s⟩
    | i + 1, hi => exact ih (Nat.lt_of_succ_lt_succ hi)
theorem shapes_few {i : Nat} (h : i ≤ 5) : (shapes i).length ≤ 42 := by
  have h : i = 0 ∨ i = 1 ∨ i = 2 ∨ i = 3 ∨ i = 4 ∨ i = 5 := by omega
  rcases h with rfl | rfl | rfl | rfl | rfl | rfl <;> decide +kernel
theorem fm_few {α β : Type} (f : α → List β) (k : Nat) : ∀ l : List α, (∀ x ∈ l, (f x).length ≤ k) → (l.flatMap f).length ≤ k * l.length
  | [], _ => Nat.zero_le _
  | x :: l, h => by
    rw [List.flatMap_cons, List.length_append, List.length_cons, Nat.mul_add, Nat.mul_one]
    have h1 := h x List.mem_cons_self
    have h2 := fm_few f k l fun y hy => h y (List.mem_cons_of_mem _ hy)
    omega
/-- the shapes of n + 1 nodes whose left part has the shape l -/
def shR (m : Nat) (l : S) : List S := (shapes m).map fun r => .node l r
def shS (n s : Nat) : List S := (shapes s).flatMap (shR (n - s))
theorem shapes_succ' (n : Nat) : shapes (n + 1) = (List.range (n + 1)).flatMap (shS n) := shapes_succ n
theorem shL_succ (n : Nat) : shL (n + 1) = shL n ++ [shapes (n + 1)] := by
  have e : shL (n + 1) = shL n ++ [(List.range (n + 1)).flatMap fun s => ((shL n).getD s []).flatMap fun l => ((shL n).getD (n - s) []).map fun r => S.node l r] := rfl
  have g : (shL (n + 1)).getD (n + 1) [] = shapes (n + 1) := shL_get (n + 1) (Nat.le_refl _)
  rw [e, List.getD_eq_getElem?_getD, List.getElem?_append_right (by rw [shL_len]; omega), shL_len, Nat.sub_self] at g
  rw [e, ← g]
  rfl
theorem shR_len {m : Nat} (h : m ≤ 5) (l : S) : (shR m l).length ≤ 42 := by
  unfold shR
  rw [List.length_map]
  exact shapes_few h
theorem shS_len {n s : Nat} (h : n ≤ 5) (hs : s ≤ 5) : (shS n s).length ≤ 1764 := by
  have := fm_few (shR (n - s)) 42 (shapes s) fun l _ => shR_len (by omega) l
  have := shapes_few hs
  unfold shS
  omega
theorem shP_len {n j : Nat} (h : n ≤ 5) (hj : j ≤ 5) : ((List.range j).flatMap (shS n)).length ≤ 8820 := by
  have := fm_few (shS n) 1764 (List.range j) fun s hs => shS_len h (by have := List.mem_range.mp hs; omega)
  rw [List.length_range] at this
  omega
def spShapes : Sp := fun vs H Q _ => ∃ n : Nat, vs = [.int (n : Int)] ∧ n ≤ 5 ∧ ∀ (p : Addr) (us : List V) (H' : Hp), Same H H' → H' p = some (.lst us) → ShsAt H' us (shapes n) → Q (.ref p) H'
section
variable {P : Program} {w : World} {K : PySem.W.Frag} {mg : Str → Option Value} {base : Heap} {f : Addr} {fd : FuncData}
theorem ok_shapes (F : Fun K "_law_shapes" "_law_shapes" s__law_shapes f fd) (M : Mgs mg) : FnOk P w K mg base CX0 1 f fd ["_law_many"] spShapes := by
  refine F.ok sc__law_shapes (fun vs H Q E h => ?_) (fun cdv A outer s H vs Q E hr h => ?_)
  · obtain ⟨n, rfl, _⟩ := h
    rfl
  obtain ⟨n, rfl, hn, q⟩ := h
  refine ⟨_, (pss_cons (ps_set (i := 1) sc__law_shapes.nd rfl (.inl rfl) (pe_lst (pa_cons (pe_lst (pa_cons pe_non pa_nil)) pa_nil)))
    (pss_cons (ps_for PassesOwn.never rfl (pi_range2 rfl M.range (pa_cons pe_int (pa_cons (pe_op op_add (pv 0) pe_int) pa_nil))) (pg_name (i := 2) sc__law_shapes.nd rfl (.inl rfl))
      (pss_cons (ps_set (i := 3) sc__law_shapes.nd rfl (.inl rfl) (pe_lst pa_nil))
    (pss_cons (ps_for PassesOwn.never rfl (pi_range1 rfl M.range (pa_cons (pv 2) pa_nil)) (pg_name (i := 4) sc__law_shapes.nd rfl (.inl rfl))
      (pss_one (ps_for PassesOwn.never rfl (pi_list (pe_ix ix_list (pv 1) (pv 4) (fun _ _ => rfl))) (pg_name (i := 5) sc__law_shapes.nd rfl (.inr rfl))
      (pss_one (ps_set (i := 3) sc__law_shapes.nd rfl (.inl rfl) (pe_op op_cat (pv 3) (pe_lc (own := [("_law_right", 6)]) (g := gName 6) (tt := tYes) rfl sc__law_shapes.nd (pi_list (pe_ix ix_list (pv 1) (pe_op op_sub (pe_op op_sub (pv 2) pe_int) (pv 4)) (fun _ _ => rfl))) (blkOk_by (N := ["_law_many", "_law_found", "_law_size_here", "_law_some", "_law_split", "_law_left", "_law_right"]) (sc := defScope s__law_shapes) (by decide +kernel)) (fun _ _ _ _ _ => (pg_name (i := 6) sc__law_shapes.nd rfl (.inl rfl))) (fun _ _ _ _ _ => pts_nil) (fun _ _ _ _ _ => (pe_tup (pa_cons (pv 5) (pa_cons (pv 6) pa_nil)))))))))))
    (pss_one (ps_expr (pe_bm PySem.F.plainAttrs_list PySem.F.slot_list_append PySem.F.type_list_append mt_append (pv 1) (pa_cons (pv 3) pa_nil)))))))
    (pss_one (ps_ret (pe_ix ix_list (pv 1) (pv 0) (fun _ _ => rfl)))))), ?_⟩
  refine ⟨(by show 1 ≤ sizeLine; decide), fun p0 np0 => ?_⟩
  have k0 := same_new np0 (.lst [.non])
  have e0 := upd_same (H := H) (a := p0) (o := .lst [.non])
  generalize upd H p0 (.lst [.non]) = H0 at k0 e0 ⊢
  refine ⟨(by show 1 ≤ sizeLine; decide), fun L nL => ?_⟩
  have kL := same_new nL (.lst [.ref p0])
  have pL : p0 ≠ L := fun z => by rw [z, nL] at e0; cases e0
  refine ⟨_, rfl, _, _, rfl, rfl, 1, (n : Int) + 1, rfl, ⟨by decide, by decide, by omega, by omega⟩, ?_⟩
  rw [show ((n : Int) + 1 - 1).toNat = n by omega]
  refine for_range (lo := 1) (n := n) (fun i σ H' => Same H H' ∧ (∃ vs, H' L = some (.lst vs) ∧ LsAt H' L vs (shL i)) ∧ ∃ o2 o3 o4 o5 : Option V, σ = [some (.int (n : Int)), some (.ref L), o2, o3, o4, o5, none]) ⟨k0.trans kL, ⟨_, upd_same, .cons pL (kL _ _ e0) (.cons .nil .nil) .nil⟩, none, none, none, none, rfl⟩ (fun i σ H2 hi hp => ?_) (fun σ H2 hp => ?_)
  · obtain ⟨s2, ⟨vs, eL, ls⟩, o2, o3, o4, o5, rfl⟩ := hp
    have lv := ls.len
    rw [shL_len] at lv
    refine ⟨(by show 0 ≤ sizeLine; decide), fun p1 np1 => ?_⟩
    have k1 := same_new np1 (.lst [])
    have e1 := upd_same (H := H2) (a := p1) (o := .lst [])
    have n1 : p1 ≠ L := fun z => by rw [z, eL] at np1; cases np1
    have eL1 := k1 _ _ eL
    have ls1 := ls.same k1
    generalize upd H2 p1 (.lst []) = H3 at k1 e1 eL1 ls1 ⊢
    refine ⟨_, rfl, (1 : Int) + (i : Int), rfl, by omega, by omega, ?_⟩
    rw [show ((1 : Int) + (i : Int)).toNat = i + 1 by omega]
    refine for_range (lo := 0) (n := i + 1) (fun j σ H' => Same H3 H' ∧ ∃ (p : Addr) (us : List V) (o4 o5 : Option V), σ = [some (.int (n : Int)), some (.ref L), some (.int (1 + (i : Int))), some (.ref p), o4, o5, none] ∧ p ≠ L ∧ H' p = some (.lst us) ∧ ShsAt H' us ((List.range j).flatMap (shS i))) ⟨Same.refl _, p1, [], o4, o5, rfl, n1, e1, .nil⟩ (fun j σ H4 hj hp => ?_) (fun σ H4 hp => ?_)
    · obtain ⟨s4, p, us, o4', o5', rfl, np, ep, hs⟩ := hp
      have eL4 := s4 _ _ eL1
      have ls4 := ls1.same s4
      obtain ⟨pj, uj, gj, nj, ej, hj'⟩ := ls4.get (i := j) (by rw [shL_len]; omega)
      rw [shL_get i (by omega)] at hj'
      obtain ⟨pk, uk, gk, nk, ek, hk'⟩ := ls4.get (i := i - j) (by rw [shL_len]; omega)
      rw [shL_get i (by omega)] at hk'
      refine ⟨_, rfl, _, rfl, L, _, _, _, rfl, rfl, SqL.of eL4, (by rw [Int.zero_add]; exact atI_nat gj), ?_⟩
      refine ⟨pj, rfl, ⟨_, SqL.of ej⟩, ?_⟩
      have lj := hj'.len
      have lk := hk'.len
      have fk := shapes_few (i := i - j) (by omega)
      have fj := shapes_few (i := j) (by omega)
      have fp := shP_len (n := i) (j := j) (by omega) (by omega)
      refine for_list (K := K) (a := pj) (xs := uj) (fun m σ H' => Same H4 H' ∧ ∃ (p : Addr) (us : List V) (o5 : Option V), σ = [some (.int (n : Int)), some (.ref L), some (.int (1 + (i : Int))), some (.ref p), some (.int (0 + (j : Int))), o5, none] ∧ p ≠ L ∧ H' p = some (.lst us) ∧ ShsAt H' us ((List.range j).flatMap (shS i) ++ ((shapes j).take m).flatMap (shR (i - j)))) ⟨Same.refl _, p, us, o5', rfl, np, ep, by rw [List.take_zero, List.flatMap_nil, List.append_nil]; exact hs⟩ (fun m σ H' _ hp => SqL.of (hp.1 _ _ ej)) (fun m u σ H5 hu hp => ?_) (fun σ H5 hp => ?_)
      · obtain ⟨s5, p', us', o5'', rfl, np', ep', hs'⟩ := hp
        obtain ⟨x, hx, hux⟩ := hj'.get hu
        have eL5 := s5 _ _ eL4
        have ek5 := s5 _ _ ek
        have hk5 := hk'.same s5
        have hux5 := hux.same s5
        have mj : m < (shapes j).length := (List.getElem?_eq_some_iff.mp hx).1
        have l5 : us'.length ≤ 10584 := by
          have h1 := fm_few (shR (i - j)) 42 ((shapes j).take m) fun l _ => shR_len (by omega) l
          rw [List.length_take] at h1
          rw [hs'.len, List.length_append]
          omega
        refine ⟨_, rfl, _, rfl, _, rfl, _, _, rfl, rfl, _, rfl, _, _, rfl, rfl, L, _, _, _, rfl, rfl, SqL.of eL5, (by rw [show (1 : Int) + (i : Int) - 1 - (0 + (j : Int)) = ((i - j : Nat) : Int) by omega]; exact atI_nat gk), ?_⟩
        refine ⟨pk, rfl, ⟨_, SqL.of ek5⟩, fun D nD => ?_⟩
        have kD := same_new nD (.lst [])
        refine lc_list (K := K) (a := pk) (xs := uk) (fun y H' => Same H5 H' ∧ ∃ zs, H' D = some (.lst zs) ∧ ShsAt H' zs (((shapes (i - j)).take y).map fun r => S.node x r)) ⟨kD, [], upd_same, .nil⟩ (fun y H' _ hp => SqL.of (hp.1 _ _ ek5)) (fun y v H6 hv hp => ?_) (fun H6 hp => ?_)
        · obtain ⟨s6, zs, eD, hz⟩ := hp
          obtain ⟨r, hr2, hvr⟩ := hk5.get hv
          have yk : y < (shapes (i - j)).length := (List.getElem?_eq_some_iff.mp hr2).1
          refine ⟨rfl, kept ?_⟩
          refine ⟨_, rfl, _, rfl, (by show 2 ≤ sizeLine; decide), fun z nz => ?_⟩
          have kz := same_new nz (.tup [u, v])
          have eD7 := kz _ _ eD
          have lz := hz.len
          rw [List.length_map, List.length_take] at lz
          refine ⟨_, eD7, small1000 (by omega), fun b o e => by rw [upd_ne (ne_of_none e nD)]; exact (s6.trans kz) _ _ e, zs ++ [.ref z], upd_same, ?_⟩
          rw [take_next hr2, List.map_append]
          refine ShsAt.keep (H := upd H6 z (.tup [u, v])) (fun b xs e => ?_) ((hz.same kz).app (.cons (.node upd_same ((hux5.same s6).same kz) ((hvr.same s6).same kz)) .nil))
          rw [upd_ne (fun z' => by rw [z', eD7] at e; cases e)]
          exact e
        · obtain ⟨s6, zs, eD, hz⟩ := hp
          have lz := hz.len
          rw [List.length_map, lk, List.take_length] at lz
          rw [lk, List.take_length] at hz
          refine ⟨p', D, _, _, rfl, rfl, s6 _ _ ep', eD, (by show us'.length + zs.length ≤ 16777216; omega), fun p3 np3 => ?_⟩
          have k3 := same_new np3 (.lst (us' ++ zs))
          refine ⟨s5.trans (s6.trans k3), p3, us' ++ zs, _, rfl, fun z => ?_, upd_same, ?_⟩
          · rw [z, s6 _ _ eL5] at np3
            cases np3
          · rw [take_next hx, List.flatMap_append, ← List.append_assoc]
            refine ((hs'.same s6).same k3).app ?_
            rw [List.flatMap_cons, List.flatMap_nil, List.append_nil]
            exact hz.same k3
      · obtain ⟨s5, p', us', o5'', rfl, np', ep', hs'⟩ := hp
        rw [lj, List.take_length] at hs'
        refine ⟨s4.trans s5, p', us', _, _, rfl, np', ep', ?_⟩
        rw [List.range_succ, List.flatMap_append, List.flatMap_cons, List.flatMap_nil, List.append_nil]
        exact hs'
    · obtain ⟨s4, p, us, o4', o5', rfl, np, ep, hs⟩ := hp
      rw [← shapes_succ'] at hs
      have eL4 := s4 _ _ eL1
      have ls4 := ls1.same s4
      refine ⟨_, rfl, (.inl ⟨rfl, _, SqL.of eL4⟩), _, rfl, L, _, _, rfl, rfl, eL4, small1000 (by omega), ?_⟩
      refine ⟨fun b o e => ?_, ⟨vs ++ [.ref p], upd_same, ?_⟩, _, _, _, _, rfl⟩
      · rw [upd_ne (ne_of_none (k0 _ _ e) nL)]
        exact (s2.trans (k1.trans s4)) _ _ e
      · rw [shL_succ]
        exact LsAt.but eL4 (fun a o n e => by rw [upd_ne n]; exact e) (ls4.app (.cons np ep hs .nil))
  · obtain ⟨s2, ⟨vs, eL, ls⟩, o2, o3, o4, o5, rfl⟩ := hp
    obtain ⟨p, us, gp, _, ep, hs⟩ := ls.get (i := n) (by rw [shL_len]; omega)
    rw [shL_get n (Nat.le_refl n)] at hs
    exact ⟨_, rfl, _, rfl, L, _, _, _, rfl, rfl, SqL.of eL, atI_nat gp, q p us H2 s2 ep hs⟩
end
/-! ### sorted(xs) of tuples of two whose first items decide; xs.count(x) -/
noncomputable def headKind (h : Heap) (ks : List (PyData × PyData)) : PyProof.Rows.KeyKind where
  toKeyOrd := PyProof.Rows.listOrd PyProof.Rows.itemOrd
  keyOf v := open Classical in if q : ∃ d, d ∈ ks ∧ ∃ as, Reads h v (.tuple [d.1, d.2]) as then some (PySem.W.keyToks q.choose.1) else none
  dflt := ([] : List (Int ⊕ List Nat))
structure Heads (ks : List (PyData × PyData)) : Prop where
  al : ∀ d ∈ ks, ∀ e ∈ ks, PySem.W.alike d.1 e.1 = true
  tup : ∀ d ∈ ks, ∃ xs, d.1 = .tuple xs
  dp : ∀ d ∈ ks, d.1.depth ≤ 50 ∧ d.2.depth ≤ 50
  lay : ∀ d ∈ ks, d.2.canLay0 = true
  eqk : ∀ d ∈ ks, ∀ e ∈ ks, PyData.eqv d.1 e.1 = true → PyData.eqv d.2 e.2 = true
theorem head_uniq {h : Heap} {ks : List (PyData × PyData)} (hk : Heads ks) {v : Value} {d e : PyData × PyData} (hd : d ∈ ks) (he : e ∈ ks) {as bs : List Addr} (r : Reads h v (.tuple [d.1, d.2]) as) (q : Reads h v (.tuple [e.1, e.2]) bs) : d.1 = e.1 := by
  cases r with
  | @tuple a o xs n _ _ h1 h2 h3 h4 =>
    cases q with
    | @tuple _ o' ys m _ _ k1 k2 k3 k4 =>
      have eo : o = o' := Option.some.inj (h1.symm.trans k1)
      subst eo
      have ex : xs = ys := by
        have := h3.symm.trans k3
        injection this
      subst ex
      generalize xs.toList = l at h4 k4
      cases h4 with
      | cons a1 a2 =>
        cases k4 with
        | cons b1 b2 => exact PySem.W.alike_unique _ _ _ _ _ (hk.al _ hd _ he) a1 b1
theorem headKind_some {h : Heap} {ks : List (PyData × PyData)} (hk : Heads ks) {v : Value} {d : PyData × PyData} {as : List Addr} (hd : d ∈ ks) (r : Reads h v (.tuple [d.1, d.2]) as) : (headKind h ks).keyOf v = some (PySem.W.keyToks d.1) := by
  have q : ∃ d, d ∈ ks ∧ ∃ as, Reads h v (.tuple [d.1, d.2]) as := ⟨d, hd, as, r⟩
  have e : (headKind h ks).keyOf v = some (PySem.W.keyToks q.choose.1) := by
    show (open Classical in if q : ∃ d, d ∈ ks ∧ ∃ as, Reads h v (.tuple [d.1, d.2]) as then some (PySem.W.keyToks q.choose.1) else none) = _
    rw [dif_pos q]
  obtain ⟨h1, as', h2⟩ := q.choose_spec
  rw [e, head_uniq hk h1 hd h2 r]
theorem headKind_inv {h : Heap} {ks : List (PyData × PyData)} {v : Value} {k : List (Int ⊕ List Nat)} (e : (headKind h ks).keyOf v = some k) : ∃ d as, d ∈ ks ∧ Reads h v (.tuple [d.1, d.2]) as ∧ k = PySem.W.keyToks d.1 := by
  by_cases q : ∃ d, d ∈ ks ∧ ∃ as, Reads h v (.tuple [d.1, d.2]) as
  · have e' : (headKind h ks).keyOf v = some (PySem.W.keyToks q.choose.1) := by
      show (open Classical in if q : ∃ d, d ∈ ks ∧ ∃ as, Reads h v (.tuple [d.1, d.2]) as then some (PySem.W.keyToks q.choose.1) else none) = _
      rw [dif_pos q]
    obtain ⟨h1, as', h2⟩ := q.choose_spec
    rw [e'] at e
    exact ⟨_, as', h1, h2, (Option.some.inj e).symm⟩
  · have e' : (headKind h ks).keyOf v = none := by
      show (open Classical in if q : ∃ d, d ∈ ks ∧ ∃ as, Reads h v (.tuple [d.1, d.2]) as then some (PySem.W.keyToks q.choose.1) else none) = _
      rw [dif_neg q]
      rfl
    rw [e'] at e
    exact absurd e (by simp)
section
variable {prog : Program} {w : World} {A : Around} {s : Shared}
theorem sorts_heads {vs : List Value} {ks : List (PyData × PyData)} (e : PySem.W.EachIs (fun v d => ∃ as, Reads s.heap v (.tuple [d.1, d.2]) as) vs ks) (hk : Heads ks) (hu : A.units + 60 < cLine) : PySem.W.SortsAt prog w A s (headKind s.heap ks) vs := by
  refine ⟨fun v hv => ?_, PyProof.Rows.tuples' false, ?_, fun h2 E Q hq => ?_⟩
  · obtain ⟨d, hd, as, r⟩ := e.left v hv
    exact ⟨_, headKind_some hk hd r⟩
  · intro E x y a b Q ha hb hq
    obtain ⟨d, as, hd, ra, rfl⟩ := headKind_inv ha
    obtain ⟨f, bs, hf, rb, rfl⟩ := headKind_inv hb
    have hdd := hk.al d hd f hf
    obtain ⟨d1, d2⟩ := hk.dp d hd
    have hq' : Q (PySem.W.dataLt d.1 f.1) s := hq
    cases ra with
    | @tuple l o xs n _ _ h1 h2 h3 h4 =>
      cases rb with
      | @tuple l' o' xs' n' _ _ k1 k2 k3 k4 =>
        have n1 : xs.size = 2 := by simpa using SeqAt.ReadsAll.length _ _ _ h4
        have n2 : xs'.size = 2 := by simpa using SeqAt.ReadsAll.length _ _ _ k4
        refine PySem.W.kat_lt h1 h3 k1 k3 ?_
        rw [n1, n2]
        generalize xs.toList = l1 at h4 ⊢
        generalize xs'.toList = l2 at k4 ⊢
        cases h4 with
        | cons a1 a2 =>
          cases a2 with
          | cons a3 a4 =>
            cases a4
            cases k4 with
            | cons b1 b2 =>
              cases b2 with
              | cons b3 b4 =>
                cases b4
                refine PySem.W.kat_cons (PySem.W.eqAt_alike _ _ A s _ _ _ _ a1 b1 hdd (by omega) prog w _ _ ?_)
                refine PySem.W.kat_go (fun e1 => ?_) (fun e1 => ?_)
                · refine PySem.W.kat_yes (PySem.W.kat_cons (SeqAt.eqAt_reads _ _ A s _ _ _ _ a3 b3 (hk.lay d hd) (hk.lay f hf) (by omega) prog w _ _ ?_))
                  rw [hk.eqk d hd f hf e1]
                  refine PySem.W.kat_yes (PySem.W.kat_nil ?_)
                  have el : PySem.W.dataLt d.1 f.1 = false := by
                    unfold PySem.W.dataLt
                    rw [(PySem.W.toks_eqv _ _ hdd).1 e1]
                    exact PyProof.Rows.lex_irrefl (O := PyProof.Rows.itemOrd) _
                  rw [el] at hq'
                  exact hq'
                · refine PySem.W.kat_no (PySem.W.kat_one _ _ (PySem.W.lt_data a1 b1 hdd (fun z => ?_) (by omega) ?_))
                  · obtain ⟨zs, hz⟩ := hk.tup d hd
                    rw [hz] at z
                    cases z
                  · exact hq'
  · obtain ⟨fs, t1, t2, t3⟩ := PySem.W.each_katTups (ds := ks.map fun d => .tuple [d.1, d.2]) (PySem.W.each_map (R := fun v d => ∃ as, Reads s.heap v d as) (fun d : PyData × PyData => PyData.tuple [d.1, d.2]) e) fun d hd => by
      obtain ⟨z, _, rfl⟩ := List.mem_map.mp hd
      exact ⟨_, _, rfl⟩
    refine PySem.W.kat_kind (T := .type "tuple") t1 (by omega) (fun f hf => ?_) (beq_self_eq_true _) ?_
    · obtain ⟨x, r, as, m1, m2⟩ := t3 f hf
      obtain ⟨z, hz, ez⟩ := List.mem_map.mp m1
      obtain ⟨zs, ez2⟩ := hk.tup z hz
      injection ez with ez
      injection ez with ez3 ez4
      rw [← ez3, ez2] at m2
      exact PySem.W.looks_reads m2
    · have e : (Value.type "tuple" != Value.type "tuple") = false := by first | decide +kernel | rfl | decide
      rw [e]
      exact hq
end
theorem each_of_map2 {β : Type} {xs : List V} {us : List Value} (r : Vals xs us) : ∀ {bs : List (V × β)}, bs.map (·.1) = xs → PySem.W.EachIs (fun v (b : V × β) => RelV b.1 v) us bs := by
  induction r with
  | nil =>
    intro bs e
    cases bs with
    | nil => exact .nil
    | cons b bs => cases e
  | cons h _ ih =>
    intro bs e
    cases bs with
    | nil => cases e
    | cons b bs =>
      obtain ⟨e1, e2⟩ := List.cons.inj (show b.1 :: bs.map (·.1) = _ from e)
      exact .cons (by rw [e1]; exact h) (ih e2)
theorem each_map3 {β γ : Type} {R : Value → γ → Prop} (f : β → γ) : ∀ {us : List Value} {bs : List β}, PySem.W.EachIs (fun v b => R v (f b)) us bs → PySem.W.EachIs R us (bs.map f)
  | _, _, .nil => .nil
  | _, _, .cons h t => .cons h (each_map3 f t)
theorem each_back2 {β : Type} {us : List Value} {bs : List (V × β)} (h : PySem.W.EachIs (fun v (b : V × β) => RelV b.1 v) us bs) : Vals (bs.map (·.1)) us := by
  induction h with
  | nil => exact .nil
  | cons h _ ih => exact .cons h ih
theorem each_reads2 {β : Type} {S T : Value → V × β → Prop} {us : List Value} {bs : List (V × β)} (h : PySem.W.EachIs S us bs) (f : ∀ v b, b ∈ bs → S v b → T v b) : PySem.W.EachIs T us bs := by
  induction h with
  | nil => exact .nil
  | cons h _ ih => exact .cons (f _ _ List.mem_cons_self h) (ih fun v b hb => f v b (List.mem_cons_of_mem _ hb))
def rSortHead (K : PySem.W.Frag) : List V → Hp → VK → Prop := fun vs H Q => ∃ (a : Addr) (bs : List (V × PyData × PyData)), vs = [V.ref a] ∧ SqL K H a (bs.map (·.1)) ∧ (∀ b ∈ bs, Dp K H b.1 (.tuple [b.2.1, b.2.2])) ∧ Heads (bs.map (·.2)) ∧
  ∀ p : Addr, H p = none → Q (.ref p) (upd H p (.lst ((bs.mergeSort (PySem.W.dataLe false (·.2.1))).map (·.1))))
theorem cr_sortHead {X : Cx} (hu : X.A.units + 64 < cLine) : CallR X (.builtin "sorted") (rSortHead X.K) := by
  intro pins s σ H vs us Q I r h
  obtain ⟨a, bs, rfl, hs, hd, hk, q⟩ := h
  obtain ⟨its, rv, hl, hz⟩ := I.list hs
  obtain ⟨u, rfl, ru⟩ := vals1 r
  obtain rfl : u = Value.ref a := ru
  have e := each_of_map2 rv rfl
  have er : PySem.W.EachIs (fun v (b : V × PyData × PyData) => ∃ as, Reads s.heap v (.tuple [b.2.1, b.2.2]) as) its bs := each_reads2 e fun v b hb rel => Dp.reads I _ b.1 v (hd b hb) rel
  rw [List.length_map] at hz
  have er' : PySem.W.EachIs (fun v (b : V × PyData × PyData) => ∃ as, Reads (PySem.W.sortingHeap (PySem.W.copyHeap s.heap its) (s.heap.objs.size + 1) its) v (.tuple [b.2.1, b.2.2]) as) its bs := er.mono fun _ _ ⟨as, r⟩ => ⟨as, PyProof.Rows.Reads.keeps (fun _ _ => PySem.W.sorting_copy_old) r⟩
  have em : PySem.W.EachIs (fun v (d : PyData × PyData) => ∃ as, Reads (PySem.W.sortingHeap (PySem.W.copyHeap s.heap its) (s.heap.objs.size + 1) its) v (.tuple [d.1, d.2]) as) its (bs.map (·.2)) := each_map3 (R := fun v (d : PyData × PyData) => ∃ as, Reads _ v (.tuple [d.1, d.2]) as) (fun b : V × PyData × PyData => b.2) er'
  refine PySem.W.sorted_vals hl.isList (sorts_heads (s := { s with heap := PySem.W.sortingHeap (PySem.W.copyHeap s.heap its) (s.heap.objs.size + 1) its }) em hk (by show X.A.units + 2 + 60 < cLine; omega)) (by rw [e.length]; exact hz) ?_
  have hkeys : PySem.W.EachIs (fun v (b : V × PyData × PyData) => (headKind (PySem.W.sortingHeap (PySem.W.copyHeap s.heap its) (s.heap.objs.size + 1) its) (bs.map (·.2))).keyOf v = some (PySem.W.keyToks b.2.1)) its bs := each_reads2 er' fun v b hb ⟨as, r⟩ => headKind_some hk (List.mem_map_of_mem (f := fun b : V × PyData × PyData => b.2) hb) r
  have eo := PySem.W.sortVals_each (κ := headKind (PySem.W.sortingHeap (PySem.W.copyHeap s.heap its) (s.heap.objs.size + 1) its) (bs.map (·.2))) (rev := false) (fun b : V × PyData × PyData => PySem.W.keyToks b.2.1) e hkeys
  have rel : Vals ((bs.mergeSort (PySem.W.dataLe false (·.2.1))).map (·.1)) _ := each_back2 eo
  have lo := PySem.W.sortVals_length (κ := headKind (PySem.W.sortingHeap (PySem.W.copyHeap s.heap its) (s.heap.objs.size + 1) its) (bs.map (·.2))) (ks := its) (vs := its) false rfl
  generalize PySem.W.sortVals (headKind (PySem.W.sortingHeap (PySem.W.copyHeap s.heap its) (s.heap.objs.size + 1) its) (bs.map (·.2))) false its its = out at rel lo ⊢
  obtain ⟨ep, at_⟩ := PyProof.Rows.sortedAll_at s.heap its out.toArray
  have few : ((bs.mergeSort (PySem.W.dataLe false (·.2.1))).map (·.1)).length ≤ sizeLine := by rw [rel.length, lo, e.length]; exact hz
  refine ⟨.ref _, upd H (s.heap.objs.size + 1) (.lst ((bs.mergeSort (PySem.W.dataLe false (·.2.1))).map (·.1))), I.laid (t' := s.toks) (fun _ _ => PyProof.Rows.sortedAll_old) (Nat.le_succ _) ⟨few, out, ep, rel, ?_⟩, rfl, q _ (I.hok.fresh (Nat.le_succ _))⟩
  exact at_
/-! ### xs.count(x) of data -/
theorem ty_list_count : PySem.typeOf (.builtin "list.count") = pure (.type "method_descriptor") := by show builtinType _ = _; rw [builtinType_eq_fast]; kernel_rfl
def rCountD (K : PySem.W.Frag) : V → List V → Hp → VK → Prop := fun x xs H Q => ∃ (a : Addr) (y : V) (d : PyData) (ds : List PyData), x = .ref a ∧ xs = [y] ∧ Dp K H (.ref a) (.list ds) ∧ Dp K H y d ∧ SeqAt.shaped (.list ds) = true ∧ SeqAt.shaped d = true ∧ Q (.int ((ds.countP fun y => PyData.eqv y d : Nat) : Int)) H
theorem mt_countD {X : Cx} (hu : X.A.units + 65 < cLine) : MtR X "list.count" (rCountD X.K) := by
  intro pins s σ H x xs v us Q I rx rxs h
  obtain ⟨a, y, d, ds, rfl, rfl, hl, hy, sl, sd, q⟩ := h
  cases rx
  cases rxs with
  | cons ry rt =>
    rename_i uy ut
    cases rt
    obtain ⟨bs, r1⟩ := Dp.reads I d y uy hy ry
    have hxs : PyData.canLayAll0 ds = true := SeqAt.canLay_of_shaped sl
    have hroom : X.A.units + 1 + min (PyData.depthAll ds) d.depth < cLine := PyProof.Rows.room_in_shaped sd hu
    cases hl with
    | lst hs ha =>
      obtain ⟨its, rv, ⟨⟨cls, dd, data, sls⟩, n, ho, hc, hdn, hdt⟩, hlen⟩ := I.list hs
      simp only at hc hdt
      subst hc hdt
      obtain ⟨as, h4⟩ := Dp.readsAll I ds _ its ha rv
      have hmap : its.map (SeqAt.readOf s.heap) = ds := SeqAt.readsAll_map ds its as hxs h4
      have hcnt : its.toArray.toList.countP (fun u => PyData.eqv (SeqAt.readOf s.heap u) d) = ds.countP fun y => PyData.eqv y d := by
        rw [← hmap, List.countP_map]
        rfl
      refine call_meets PySem.F.slot_list_count ⟨_, ho, rfl⟩ PySem.F.entry_list_count (PySem.F.args_list_count_2 _ _) (SeqAt.list_countAt a its.toArray n dd sls uy (fun u => PyData.eqv (SeqAt.readOf s.heap u) d))
        ⟨ho, SeqAt.items_eqAt (vs := its.toArray) (show ReadsAll s.heap its.toArray.toList ds as from h4) r1 hxs (SeqAt.canLay_of_shaped sd) hroom, ?_⟩
      rw [hcnt]
      exact ⟨.int _, H, I.tok _, ⟨_, rfl⟩, q⟩
/-! ### the trees that the law tells -/
def LT (G : G3) (x : S) : List (List Nat) := (spotsOf x 0 0 0).map fun p => lettOf (sigs G p)
def labB : S → List Nat → B
  | .nil, _ => .nil
  | .node l r, ls => .node (labB l ((ls.drop 1).take l.size)) (ls.headD 0) (labB r ((ls.drop 1).drop l.size))
theorem shp_size : ∀ b : B, b.shp.size = b.size
  | .nil => rfl
  | .node l x r => by
    show 1 + l.shp.size + r.shp.size = l.size + 1 + r.size
    rw [shp_size l, shp_size r]
    omega
theorem lab_eq : ∀ b : B, labB b.shp b.pre = b
  | .nil => rfl
  | .node l x r => by
    show B.node (labB l.shp ((l.pre ++ r.pre).take l.shp.size)) x (labB r.shp ((l.pre ++ r.pre).drop l.shp.size)) = _
    rw [shp_size, ← l.pre_len, List.take_left, List.drop_left, lab_eq l, lab_eq r]
theorem each_app {α β : Type} {R : α → β → Prop} {as : List α} {bs : List β} {cs : List α} {ds : List β} (h : PySem.W.EachIs R as bs) (g : PySem.W.EachIs R cs ds) : PySem.W.EachIs R (as ++ cs) (bs ++ ds) := by
  induction h with
  | nil => exact g
  | cons h _ ih => exact .cons h ih
theorem fit_lets {G : G3} : ∀ (b : B) (t : St4), FitS G t b → (∀ c ∈ b.pre, 97 ≤ c ∧ c ≤ 122) → PySem.W.EachIs (fun c p => c ∈ comm (sigs G p)) b.pre (spotsOf b.shp t.2.1 t.2.2.1 t.2.2.2)
  | .nil, _, _, _ => .nil
  | .node l x r, (m, i, j, k), h, low => by
    obtain ⟨h1, h2, h3⟩ := node_fit h
    have hs : l.size + 1 + r.size = m := h.sz
    have e1 := fit_lets l _ h1 fun c hc => low c (List.mem_cons_of_mem _ (List.mem_append_left _ hc))
    have e2 := fit_lets r _ h2 fun c hc => low c (List.mem_cons_of_mem _ (List.mem_append_right _ hc))
    show PySem.W.EachIs _ (x :: (l.pre ++ r.pre)) ((i, j + l.shp.size, k + (1 + l.shp.size + r.shp.size) - 1) :: (spotsOf l.shp (i + 1) j k ++ spotsOf r.shp (i + 1 + l.shp.size) (j + l.shp.size + 1) (k + l.shp.size)))
    rw [shp_size, shp_size]
    refine .cons ?_ (each_app e1 e2)
    have hm := mat_comm (low x List.mem_cons_self) h3
    show x ∈ comm [G.a.getD i 63, G.b.getD (j + l.size) 63, G.c.getD (k + (1 + l.size + r.size) - 1) 63]
    rw [show 1 + l.size + r.size = m by omega]
    exact hm
theorem lett_comm {l : List Nat} {c : Nat} (h : c ∈ comm l) : lettOf l ≠ [] ∧ (lettOf l ≠ [63] → lettOf l = [c]) := by
  unfold comm at h
  unfold lettOf
  cases e : knownL l with
  | nil => exact ⟨by simp, fun z => absurd rfl z⟩
  | cons c0 r =>
    rw [e] at h
    have h : c ∈ (if c0 :: r = List.replicate (r.length + 1) c0 then [c0] else []) := h
    show (if c0 :: r = List.replicate (r.length + 1) c0 then [c0] else []) ≠ [] ∧ ((if c0 :: r = List.replicate (r.length + 1) c0 then [c0] else []) ≠ [63] → (if c0 :: r = List.replicate (r.length + 1) c0 then [c0] else []) = [c])
    by_cases z : c0 :: r = List.replicate (r.length + 1) c0
    · rw [if_pos z] at h ⊢
      rw [List.mem_singleton.mp h]
      exact ⟨by simp, fun _ => rfl⟩
    · rw [if_neg z] at h
      cases h
theorem each_lett {G : G3} {cs : List Nat} {ps : List (Nat × Nat × Nat)} (h : PySem.W.EachIs (fun c p => c ∈ comm (sigs G p)) cs ps) : [] ∉ (ps.map fun p => lettOf (sigs G p)) ∧ ([63] ∉ (ps.map fun p => lettOf (sigs G p)) → (ps.map fun p => lettOf (sigs G p)).flatten = cs) := by
  induction h with
  | nil => exact ⟨by simp, fun _ => rfl⟩
  | cons hc _ ih =>
    obtain ⟨h1, h2⟩ := lett_comm hc
    refine ⟨fun z => ?_, fun z => ?_⟩
    · rcases List.mem_cons.mp z with z | z
      · exact h1 z.symm
      · exact ih.1 z
    · rw [List.map_cons, List.flatten_cons, h2 fun e => z (by rw [List.map_cons, e]; exact List.mem_cons_self), ih.2 fun e => z (List.mem_cons_of_mem _ e)]
      rfl
/-- no letter is left open -/
def Told (G : G3) (n : Nat) : Prop := ∀ x ∈ shapes n, [] ∈ LT G x ∨ [63] ∉ LT G x
def okS (G : G3) (x : S) : Bool := decide ([] ∉ LT G x)
def tree1 (G : G3) (x : S) : B := labB x (LT G x).flatten
def toldL (G : G3) (n : Nat) : List B := ((shapes n).filter (okS G)).map (tree1 G)
theorem shapes_all : ∀ x : S, x ∈ shapes x.size
  | .nil => List.mem_singleton.mpr rfl
  | .node l r => by
    show S.node l r ∈ shapes (1 + l.size + r.size)
    rw [show 1 + l.size + r.size = (l.size + r.size) + 1 by omega, shapes_succ]
    refine List.mem_flatMap.mpr ⟨l.size, List.mem_range.mpr (by omega), List.mem_flatMap.mpr ⟨l, shapes_all l, List.mem_map.mpr ⟨r, ?_, rfl⟩⟩⟩
    rw [Nat.add_sub_cancel_left]
    exact shapes_all r
def numL (G : G3) (n : Nat) : List B := (List.range (cnt G (wholeS n))).map (num G (wholeS n))
theorem num_told {G : G3} {n i : Nat} (g : G.Sg) (h : Told G n) (hi : i < cnt G (wholeS n)) : num G (wholeS n) i ∈ toldL G n := by
  have f := num_fits n (wholeS n) i rfl hi
  have low := num_low g n (wholeS n) i rfl hi
  have sz : (num G (wholeS n) i).size = n := f.sz
  generalize num G (wholeS n) i = b at f low sz ⊢
  obtain ⟨e1, e2⟩ := each_lett (fit_lets b (wholeS n) f low)
  have e1 : [] ∉ LT G b.shp := e1
  have hx : b.shp ∈ shapes n := by
    rw [← sz, ← shp_size]
    exact shapes_all _
  refine List.mem_map.mpr ⟨b.shp, List.mem_filter.mpr ⟨hx, decide_eq_true e1⟩, ?_⟩
  have e3 : (LT G b.shp).flatten = b.pre := e2 ((h _ hx).resolve_left e1)
  unfold tree1
  rw [e3, lab_eq]
theorem told_len {G : G3} {n : Nat} (h : Told G n) : (toldL G n).length = cnt G (wholeS n) := by
  rw [law_num]
  unfold toldL lawNum
  rw [List.length_map]
  have key : ∀ l : List S, (∀ x ∈ l, [] ∈ LT G x ∨ [63] ∉ LT G x) → (l.filter (okS G)).length = (l.map fun x => if [] ∈ ((spotsOf x 0 0 0).map fun p => lettOf (sigs G p)) then 0 else 26 ^ (((spotsOf x 0 0 0).map fun p => lettOf (sigs G p)).count [63])).sum := fun l => by
    induction l with
    | nil => intro _; rfl
    | cons x l ih =>
      intro hl
      have ih := ih fun y hy => hl y (List.mem_cons_of_mem _ hy)
      have hx := hl x List.mem_cons_self
      rw [List.map_cons, List.sum_cons, ← ih]
      show _ = (if [] ∈ LT G x then 0 else 26 ^ (LT G x).count [63]) + _
      by_cases e : [] ∈ LT G x
      · rw [if_pos e, List.filter_cons_of_neg (by unfold okS; simpa using e), Nat.zero_add]
      · rw [if_neg e, List.filter_cons_of_pos (by unfold okS; simpa using e), List.count_eq_zero.mpr (hx.resolve_left e), List.length_cons, Nat.pow_zero, Nat.add_comm]
  exact key _ h
theorem nums_sorted {G : G3} {n : Nat} : (numL G n).Pairwise fun a b => PySem.W.dataLt (keyD a) (keyD b) = true := by
  unfold numL
  have key : ∀ k, k ≤ cnt G (wholeS n) → ((List.range k).map (num G (wholeS n))).Pairwise fun a b => PySem.W.dataLt (keyD a) (keyD b) = true := fun k => by
    induction k with
    | zero => intro _; exact .nil
    | succ k ih =>
      intro hk
      rw [List.range_succ, List.map_append]
      refine List.pairwise_append.mpr ⟨ih (by omega), List.pairwise_singleton _ _, fun a ha b hb => ?_⟩
      obtain ⟨i, hi, rfl⟩ := List.mem_map.mp ha
      rw [List.map_cons, List.map_nil] at hb
      rw [List.mem_singleton.mp hb]
      exact num_mono n (wholeS n) i k rfl (List.mem_range.mp hi) (by omega)
  exact key _ (Nat.le_refl _)
theorem perm_of_sub {α : Type} [DecidableEq α] : ∀ L M : List α, L.Nodup → (∀ x ∈ L, x ∈ M) → M.length ≤ L.length → L.Perm M
  | [], M, _, _, h => by
    rw [List.length_eq_zero_iff.mp (Nat.le_zero.mp h)]
  | a :: L, M, nd, sub, len => by
    have ha : a ∈ M := sub a List.mem_cons_self
    obtain ⟨n1, n2⟩ := List.nodup_cons.mp nd
    have hl := List.length_erase_of_mem ha
    have h0 := List.length_pos_of_mem ha
    refine (List.Perm.cons a (perm_of_sub L (M.erase a) n2 (fun x hx => ?_) ?_)).trans (List.perm_cons_erase ha).symm
    · exact (List.mem_erase_of_ne (fun z : x = a => n1 (by rw [← z]; exact hx))).mpr (sub x (List.mem_cons_of_mem _ hx))
    · rw [List.length_cons] at len
      omega
theorem sorted_uniq {α : Type} {lt le : α → α → Prop} (hh : ∀ a b, lt a b → ¬ le b a) : ∀ L M : List α, L.Pairwise lt → M.Pairwise le → L.Perm M → L = M
  | [], M, _, _, p => p.nil_eq
  | a :: L, [], _, _, p => absurd p.length_eq (by simp)
  | a :: L, b :: M, h, g, p => by
    obtain ⟨h1, h2⟩ := List.pairwise_cons.mp h
    obtain ⟨g1, g2⟩ := List.pairwise_cons.mp g
    by_cases e : a = b
    · subst e
      rw [sorted_uniq hh L M h2 g2 (List.Perm.cons_inv p)]
    · have ha : a ∈ M := (List.mem_cons.mp (p.mem_iff.mp List.mem_cons_self)).resolve_left e
      have hb : b ∈ L := (List.mem_cons.mp (p.mem_iff.mpr List.mem_cons_self)).resolve_left fun z => e z.symm
      exact absurd (g1 a ha) (hh a b (h1 b hb))
theorem lt_irr (b : B) : PySem.W.dataLt (keyD b) (keyD b) = false := by
  cases h : PySem.W.dataLt (keyD b) (keyD b) with
  | false => rfl
  | true =>
    have := not_eqv h
    rw [self_eqv] at this
    cases this
theorem nums_nodup {G : G3} {n : Nat} : (numL G n).Nodup := by
  refine List.Pairwise.imp (fun {a b} h => ?_) nums_sorted
  intro z
  rw [z, lt_irr] at h
  cases h
theorem told_perm {G : G3} {n : Nat} (g : G.Sg) (h : Told G n) : (numL G n).Perm (toldL G n) := by
  refine perm_of_sub _ _ nums_nodup (fun x hx => ?_) ?_
  · obtain ⟨i, hi, rfl⟩ := List.mem_map.mp hx
    exact num_told g h (List.mem_range.mp hi)
  · rw [told_len h]
    unfold numL
    rw [List.length_map, List.length_range]
    exact Nat.le_refl _
theorem told_sorted {G : G3} {n : Nat} (g : G.Sg) (h : Told G n) : (toldL G n).mergeSort (PySem.W.dataLe false keyD) = numL G n := by
  refine (sorted_uniq (lt := fun a b => PySem.W.dataLt (keyD a) (keyD b) = true) (le := fun a b => PySem.W.dataLe false keyD a b = true) (fun a b h1 h2 => ?_) _ _ nums_sorted (PySem.W.sort_pairwise (PySem.W.sortLe_total _ false _) _) ((told_perm g h).trans (List.mergeSort_perm _ _).symm)).symm
  have h2 : (!PySem.W.dataLt (keyD a) (keyD b)) = true := h2
  rw [h1] at h2
  cases h2
/-! ### _law_number -/
theorem room_u1 {k : Nat} {A : Around} (r : Room k A) : A.units + 65 < cLine := by have := r.un; omega
theorem spots_lt : ∀ (x : S) (a b c : Nat), ∀ p ∈ spotsOf x a b c, p.1 < a + x.size ∧ p.2.1 < b + x.size ∧ p.2.2 < c + x.size
  | .nil, _, _, _, p, h => by cases h
  | .node l r, a, b, c, p, h => by
    have e : (S.node l r).size = 1 + l.size + r.size := rfl
    rw [e]
    rcases List.mem_cons.mp h with rfl | h
    · exact ⟨by show a < _; omega, by show b + l.size < _; omega, by show c + (1 + l.size + r.size) - 1 < _; omega⟩
    rcases List.mem_append.mp h with h | h
    · obtain ⟨h1, h2, h3⟩ := spots_lt l _ _ _ p h
      exact ⟨by omega, by omega, by omega⟩
    · obtain ⟨h1, h2, h3⟩ := spots_lt r _ _ _ p h
      exact ⟨by omega, by omega, by omega⟩
theorem TsAt.get {H : Hp} {us : List V} {xs : List (Nat × Nat × Nat)} (h : TsAt H us xs) : ∀ {i : Nat} {u : V}, us[i]? = some u → ∃ (q : Addr) (x : Nat × Nat × Nat), u = .ref q ∧ xs[i]? = some x ∧ H q = some (.tup [.int (x.1 : Int), .int (x.2.1 : Int), .int (x.2.2 : Int)]) := by
  induction h with
  | nil => intro i u e; simp at e
  | cons a _ ih =>
    intro i u e
    match i, e with
    | 0, e => cases e; exact ⟨_, _, rfl, rfl, a⟩
    | i + 1, e => exact ih e
theorem all_flat : ∀ l : List (List Nat), (l.map vt).all flatV = true
  | [] => rfl
  | _ :: l => by
    rw [List.map_cons, List.all_cons, all_flat l]
    rfl
theorem eqV_vt (a b : List Nat) : eqV (vt a) (vt b) = decide (a = b) := by
  by_cases h : a = b
  · subst h
    rw [decide_eq_true rfl]
    show eqV (.str _) (.str _) = true
    simp [eqV]
  · rw [decide_eq_false h]
    show eqV (.str _) (.str _) = false
    have : ¬ tx a = tx b := fun z => h (tx_inj z)
    simp [eqV, this]
theorem in_vt (x : List Nat) : ∀ l : List (List Nat), inV (vt x) (l.map vt) = decide (x ∈ l)
  | [] => by simp [inV]
  | a :: l => by
    have ih := in_vt x l
    unfold inV at ih ⊢
    rw [List.map_cons, List.any_cons, ih, eqV_vt]
    by_cases h : a = x
    · subst h; simp
    · have h' : ¬ x = a := fun z => h z.symm
      simp [h, h']
def txsD (l : List (List Nat)) : List PyData := l.map fun x => .str (tx x)
theorem dp_txs {K : PySem.W.Frag} {H : Hp} : ∀ l : List (List Nat), DpAll K H (l.map vt) (txsD l)
  | [] => .nil
  | _ :: l => .cons (.str _) (dp_txs l)
theorem strOk_tx {x : List Nat} (h : ∀ c ∈ x, c < 128) : PyData.strOk (tx x) = true := by
  simp only [PyData.strOk, tx, List.all_toArray, List.all_eq_true, decide_eq_true_eq]
  intro c hc
  have := h c hc
  omega
theorem shaped_txs (l : List (List Nat)) (hl : ∀ x ∈ l, ∀ c ∈ x, c < 128) : SeqAt.shaped (.list (txsD l)) = true := by
  have h : ∀ l : List (List Nat), (∀ x ∈ l, ∀ c ∈ x, c < 128) → PyData.canLayAll0 (txsD l) = true ∧ PyData.depthAll (txsD l) = 0 := fun l => by
    induction l with
    | nil => exact fun _ => ⟨by simp [txsD, PyData.canLayAll0], by simp [txsD, PyData.depthAll]⟩
    | cons a l ih =>
      intro hl
      obtain ⟨h1, h2⟩ := ih fun c hc => hl c (List.mem_cons_of_mem _ hc)
      have hs : PySem.PyData.canLay0 (.str (tx a)) = true := by
        simp only [PyData.canLay0]
        exact strOk_tx (hl a List.mem_cons_self)
      unfold txsD at *
      simp [PyData.canLayAll0, PyData.depthAll, PyData.depth, hs, h1, h2]
  obtain ⟨h1, h2⟩ := h l hl
  simp [SeqAt.shaped, PyData.canLay0, PyData.depth, h1, h2]
theorem eqv_tx (a b : List Nat) : PyData.eqv (.str (tx a)) (.str (tx b)) = decide (a = b) := by
  by_cases h : a = b
  · subst h
    simp [PyData.eqv]
  · have : ¬ tx a = tx b := fun z => h (tx_inj z)
    simp [PyData.eqv, this, h]
theorem count_tx (x : List Nat) : ∀ l : List (List Nat), (txsD l).countP (fun y => PyData.eqv y (.str (tx x))) = l.count x
  | [] => rfl
  | a :: l => by
    have ih := count_tx x l
    unfold txsD at ih ⊢
    rw [List.map_cons, List.countP_cons, ih, eqv_tx, List.count_cons]
    by_cases h : a = x <;> simp [h]
theorem lett_small {l : List Nat} (h : ∀ c ∈ l, c < 128) : ∀ c ∈ lettOf l, c < 128 := by
  intro c hc
  unfold lettOf at hc
  cases e : knownL l with
  | nil =>
    rw [e] at hc
    have hc : c ∈ [63] := hc
    rw [List.mem_singleton.mp hc]
    decide
  | cons c0 r =>
    rw [e] at hc
    have hc : c ∈ (if c0 :: r = List.replicate (r.length + 1) c0 then [c0] else []) := hc
    split at hc
    · rw [List.mem_singleton.mp hc]
      have : c0 ∈ knownL l := by rw [e]; exact List.mem_cons_self
      exact h _ (List.mem_filter.mp this).1
    · cases hc
/-- the three rows are all of the same length, at most five, and have plain signs -/
structure G3.Five (G : G3) (n : Nat) : Prop where
  a : G.a.length = n
  b : G.b.length = n
  c : G.c.length = n
  few : n ≤ 5
  all : ∀ y ∈ G.a ++ G.b ++ G.c, y < 128
theorem getD_small {l : List Nat} {n : Nat} (h : ∀ y ∈ l, y < n) (h63 : 63 < n) (i : Nat) : l.getD i 63 < n := by
  rw [List.getD_eq_getElem?_getD]
  cases e : l[i]? with
  | none => exact h63
  | some y => exact h y (List.mem_of_getElem? e)
theorem LT_small {G : G3} {n : Nat} (g : G.Five n) (x : S) : ∀ l ∈ LT G x, ∀ c ∈ l, c < 128 := by
  intro l hl
  obtain ⟨p, _, rfl⟩ := List.mem_map.mp hl
  refine lett_small fun y hy => ?_
  have ha := getD_small (fun y hy => g.all y (List.mem_append_left _ (List.mem_append_left _ hy))) (show 63 < 128 by decide) p.1
  have hb := getD_small (fun y hy => g.all y (List.mem_append_left _ (List.mem_append_right _ hy))) (show 63 < 128 by decide) p.2.1
  have hc := getD_small (fun y hy => g.all y (List.mem_append_right _ hy)) (show 63 < 128 by decide) p.2.2
  rcases List.mem_cons.mp hy with rfl | hy
  · exact ha
  rcases List.mem_cons.mp hy with rfl | hy
  · exact hb
  · rw [List.mem_singleton.mp hy]; exact hc
theorem LT_len (G : G3) (x : S) : (LT G x).length = x.size := by
  unfold LT
  rw [List.length_map, spots_len]
/-- what a shape counts for -/
def numS (G : G3) (x : S) : Nat := if [] ∈ LT G x then 0 else 26 ^ (LT G x).count [63]
theorem lawNum_eq (G : G3) (n : Nat) : lawNum G n = ((shapes n).map (numS G)).sum := rfl
def spNumber : Sp := fun vs H Q _ => ∃ (p : Addr) (G : G3) (n : Nat), vs = [.ref p] ∧ H p = some (.tup G.tup) ∧ G.Five n ∧ ∀ H' : Hp, Same H H' → Q (.int (cnt G (wholeS n) : Int)) H'
section
variable {P : Program} {w : World} {K : PySem.W.Frag} {mg : Str → Option Value} {base : Heap} {f : Addr} {fd : FuncData}
theorem ok_number (F : Fun K "_law_number" "_law_number" s__law_number f fd) (M : Mgs mg) (D_law_shapes : Df P w K mg base 1 "_law_shapes" ["_law_many"] spShapes) (D_law_spots : Df P w K mg base 43 "_law_spots" ["_law_shape_here", "_law_a", "_law_b", "_law_c"] (spSpots 13))
    (D_law_letter : Df P w K mg base 1 "_law_letter" ["_law_rows_here", "_law_spot"] spLetter) (D_law_power : Df P w K mg base 1 "_law_power" ["_law_many"] spPow) : FnOk P w K mg base CX0 44 f fd ["_law_rows_here"] spNumber := by
  refine F.ok (k := 43) sc__law_number (fun vs H Q E h => ?_) (fun cdv A outer s H vs Q E hr h => ?_)
  · obtain ⟨p, G, n, rfl, _⟩ := h
    rfl
  obtain ⟨p, G, n, rfl, ep, g, q⟩ := h
  have n5 := g.few
  refine ⟨_, (pss_cons (ps_set (i := 1) sc__law_number.nd rfl (.inl rfl) pe_int)
    (pss_cons (ps_for PassesOwn.never rfl (pi_list (pe_call D_law_shapes.ok (hr.mono (by omega)) rfl D_law_shapes.g D_law_shapes.kp D_law_shapes.b .nil pass0 (pa_cons (pe_callB call_len_str rfl M.len PySem.boot_len (pa_cons (pe_ix ix_tup (pv 0) pe_int (fun _ _ => rfl)) pa_nil)) pa_nil))) (pg_name (i := 2) sc__law_number.nd rfl (.inl rfl))
      (pss_cons (ps_setLc (i := 4) (own := [("_law_spot", 3)]) (g := gName 3) (tt := tYes) (by rfl) sc__law_number.nd rfl rfl (sw_true rfl rfl rfl (by decide +kernel)) (pi_list (pe_call D_law_spots.ok (hr.mono (by omega)) rfl D_law_spots.g D_law_spots.kp D_law_spots.b .nil pass0 (pa_cons (pv 2) (pa_cons pe_int (pa_cons pe_int (pa_cons pe_int pa_nil)))))) (blkOk_by (N := ["_law_rows_here", "_law_total", "_law_shape_here", "_law_spot", "_law_letters"]) (sc := defScope s__law_number) (by decide +kernel)) (fun _ _ _ _ _ => (pg_name (i := 3) sc__law_number.nd rfl (.inl rfl))) (fun _ _ _ _ _ => pts_nil) (fun _ _ _ _ _ => (pe_call D_law_letter.ok (hr.mono (by omega)) rfl D_law_letter.g D_law_letter.kp D_law_letter.b .nil pass0 (pa_cons (pv 0) (pa_cons (pv 3) pa_nil)))))
    (pss_one (ps_if (pt_cmpR op_notIn_seq pe_str (pv 4) (by rfl))
      (pss_one (ps_set (i := 1) sc__law_number.nd rfl (.inl rfl) (pe_op op_add (pv 1) (pe_call D_law_power.ok (hr.mono (by omega)) rfl D_law_power.g D_law_power.kp D_law_power.b .nil pass0 (pa_cons (pe_bm PySem.F.plainAttrs_list PySem.F.slot_list_count ty_list_count (mt_countD (room_u1 hr)) (pv 4) (pa_cons pe_str pa_nil)) pa_nil))))) pss_nil))))
    (pss_one (ps_ret (pv 1))))), ?_⟩
  refine ⟨_, rfl, p, _, _, _, rfl, rfl, SqT.of ep, atI_nat (j := 0) rfl, _, rfl, small (by rw [tx_len, g.a]; omega), ?_⟩
  rw [tx_len, g.a]
  refine ⟨n, rfl, n5, fun q1 us H1 s1 e1 sh => ?_⟩
  refine ⟨q1, rfl, ⟨_, SqL.of e1⟩, ?_⟩
  have ls := sh.len
  have few := shapes_few n5
  refine for_list (K := K) (a := q1) (xs := us) (fun m σ H' => Same H1 H' ∧ ∃ o2 o4 : Option V, σ = [some (.ref p), some (.int ((((shapes n).take m).map (numS G)).sum : Nat)), o2, none, o4]) ⟨Same.refl _, none, none, rfl⟩ (fun m σ H' _ hp => SqL.of (hp.1 _ _ e1)) (fun m u σ H2 hu hp => ?_) (fun σ H2 hp => ?_)
  · obtain ⟨s2, o2, o4, rfl⟩ := hp
    obtain ⟨x, hx, hux⟩ := sh.get hu
    have xz := shapes_size n x (List.mem_of_getElem? hx)
    refine ⟨_, rfl, u, x, 0, 0, 0, rfl, hux.same s2, by omega, by omega, fun q3 us3 H3 s3 e3 t3 => ?_⟩
    have l3 := t3.len
    rw [spots_len] at l3
    have sA := s1.trans (s2.trans s3)
    refine ⟨q3, rfl, ⟨_, SqL.of e3⟩, fun D nD => ?_⟩
    have kD := same_new nD (.lst [])
    refine lc_list (K := K) (a := q3) (xs := us3) (fun j H' => Same H3 H' ∧ H' D = some (.lst (((LT G x).take j).map vt))) ⟨kD, upd_same⟩ (fun j H' _ hp => SqL.of (hp.1 _ _ e3)) (fun j v H4 hv hp => ?_) (fun H4 hp => ?_)
    · obtain ⟨s4, eD⟩ := hp
      obtain ⟨t, y, rfl, hy, et⟩ := t3.get hv
      obtain ⟨y1, y2, y3⟩ := spots_lt x 0 0 0 y (List.mem_of_getElem? hy)
      refine ⟨rfl, kept ?_⟩
      refine ⟨_, rfl, _, rfl, p, t, G.a, G.b, G.c, y.1, y.2.1, y.2.2, rfl, (sA.trans s4) _ _ ep, s4 _ _ et, by rw [g.a]; omega, by rw [g.b]; omega, by rw [g.c]; omega, by rw [g.a]; omega, by rw [g.b]; omega, by rw [g.c]; omega, g.all, fun H5 s5 => ?_⟩
      have hl : (LT G x)[j]? = some (lettOf (sigs G y)) := by
        unfold LT
        rw [List.getElem?_map, hy]
        rfl
      refine ⟨_, s5 _ _ eD, ?_, fun b o e => by rw [upd_ne (ne_of_none e nD)]; exact (s4.trans s5) _ _ e, ?_⟩
      · rw [List.length_map, List.length_take]
        have := LT_len G x
        exact small1000 (by omega)
      · rw [upd_same, take_next hl, List.map_append]
        rfl
    · obtain ⟨s4, eD⟩ := hp
      rw [l3, ← LT_len G x, List.take_length] at eD
      have lz := LT_len G x
      refine ⟨_, rfl, D, _, rfl, .inl (SqL.of eD), rfl, all_flat _, ?_⟩
      have e0 : inV (.str (Str.ofString "")) ((LT G x).map vt) = decide ([] ∈ LT G x) := by rw [str_0]; exact in_vt [] (LT G x)
      rw [e0]
      have nx : (((shapes n).take (m + 1)).map (numS G)).sum = (((shapes n).take m).map (numS G)).sum + numS G x := by
        rw [take_next hx, List.map_append, List.sum_append]
        rfl
      by_cases hz : [] ∈ LT G x
      · rw [decide_eq_true hz]
        refine ⟨_, rfl, iteF ?_⟩
        have e9 : numS G x = 0 := if_pos hz
        refine ⟨s2.trans (s3.trans s4), some u, some (.ref D), ?_⟩
        rw [nx, e9, Nat.add_zero]
        rfl
      · rw [decide_eq_false hz]
        refine ⟨_, rfl, iteT ?_⟩
        have sm := LT_small g x
        refine ⟨_, rfl, _, rfl, .inl ⟨rfl, _, SqL.of eD⟩, D, _, .str (tx [63]), txsD (LT G x), rfl, rfl, .lst (SqL.of eD) (dp_txs _), .str _, shaped_txs _ sm, ?_, ?_⟩
        · decide +kernel
        rw [count_tx]
        have cl : (LT G x).count [63] ≤ (LT G x).length := List.count_le_length
        refine ⟨_, rfl, by omega, _, _, rfl, rfl, s2.trans (s3.trans s4), some u, some (.ref D), ?_⟩
        have e9 : numS G x = 26 ^ (LT G x).count [63] := if_neg hz
        rw [nx, e9, Int.natCast_add]
        rfl
  · obtain ⟨s2, o2, o4, rfl⟩ := hp
    rw [ls, List.take_length, ← lawNum_eq, ← law_num]
    exact ⟨_, rfl, q H2 (s1.trans s2)⟩
end
/-! ### _law_all -/
def But (L : Addr) (H H' : Hp) : Prop := ∀ a o, a ≠ L → H a = some o → H' a = some o
theorem But.of {L : Addr} {H H' : Hp} (s : Same H H') : But L H H' := fun a o _ e => s a o e
theorem But.trans {L : Addr} {H H' H'' : Hp} (s : But L H H') (t : But L H' H'') : But L H H'' := fun a o n e => t a o n (s a o n e)
theorem But.upd {L : Addr} (H : Hp) (o : HO) : But L H (upd H L o) := fun a u n e => by rw [upd_ne n]; exact e
theorem But.keepT {L : Addr} {H H' : Hp} {ws : List V} (s : But L H H') (e : H L = some (.lst ws)) : KeepT H H' := fun a o h => s a _ (fun z => by rw [z, e] at h; cases h) h
def PairAt (H : Hp) (v : V) (b : B) : Prop := ∃ (q : Addr) (k t : V), v = .ref q ∧ H q = some (.tup [k, t]) ∧ KeyAt H k b ∧ BAt H t b
theorem PairAt.keep {H H' : Hp} (k : KeepT H H') {v : V} {b : B} (h : PairAt H v b) : PairAt H' v b := by
  obtain ⟨q, x, t, e, e1, e2, e3⟩ := h
  exact ⟨q, x, t, e, k _ _ e1, e2.keep k, e3.keep k⟩
theorem each_get {α β : Type} {R : α → β → Prop} {us : List α} {bs : List β} (h : PySem.W.EachIs R us bs) : ∀ {i : Nat} {u : α}, us[i]? = some u → ∃ b, bs[i]? = some b ∧ R u b := by
  induction h with
  | nil => intro i u e; simp at e
  | cons a _ ih =>
    intro i u e
    match i, e with
    | 0, e => cases e; exact ⟨_, rfl, a⟩
    | i + 1, e => exact ih e
theorem each_zip {α β : Type} {R : α → β → Prop} {us : List α} {xs : List β} (h : PySem.W.EachIs R us xs) : (us.zip xs).map (·.1) = us ∧ (us.zip xs).map (·.2) = xs ∧ ∀ p ∈ us.zip xs, R p.1 p.2 := by
  induction h with
  | nil => exact ⟨rfl, rfl, fun p hp => nomatch hp⟩
  | cons a _ ih =>
    obtain ⟨h1, h2, h3⟩ := ih
    refine ⟨congrArg (_ :: ·) h1, congrArg (_ :: ·) h2, fun p hp => ?_⟩
    rcases List.mem_cons.mp hp with rfl | hp
    · exact a
    · exact h3 p hp
theorem each_of_zip {α β : Type} {R : α → β → Prop} : ∀ l : List (α × β), (∀ p ∈ l, R p.1 p.2) → PySem.W.EachIs R (l.map (·.1)) (l.map (·.2))
  | [], _ => .nil
  | p :: l, h => .cons (h p List.mem_cons_self) (each_of_zip l fun q hq => h q (List.mem_cons_of_mem _ hq))
theorem kd_inj : ∀ a b : B, PyData.eqv (keyD a) (keyD b) = true → a = b
  | .nil, .nil, _ => rfl
  | .nil, .node _ _ _, h => by simp [keyD, PyData.eqv, PyData.eqvAll] at h
  | .node _ _ _, .nil, h => by simp [keyD, PyData.eqv, PyData.eqvAll] at h
  | .node l x r, .node l' x' r', h => by
    have h0 : PyData.eqv (.tuple [.str (ch x), .int (l.size : Int), keyD l, keyD r]) (.tuple [.str (ch x'), .int (l'.size : Int), keyD l', keyD r']) = true := h
    rw [PyData.eqv, PyData.eqvAll, PyData.eqvAll, PyData.eqvAll, PyData.eqvAll, PyData.eqvAll, Bool.and_eq_true, Bool.and_eq_true, Bool.and_eq_true, eqv_ch] at h0
    obtain ⟨h1, _, h3, h4⟩ := h0
    have h4 : PyData.eqv (keyD r) (keyD r') = true := by simpa using h4
    rw [kd_inj l l' h3, kd_inj r r' h4, of_decide_eq_true h1]
theorem data_alike : ∀ b : B, PySem.W.alike b.data b.data = true
  | .nil => rfl
  | .node l x r => by
    have h1 := data_alike l
    have h2 := data_alike r
    simp [B.data, PySem.W.alike, PySem.W.alikeAll, h1, h2]
theorem key_depth : ∀ b : B, (keyD b).depth ≤ b.size + 1
  | .nil => by simp [keyD, PyData.depth, PyData.depthAll]
  | .node l x r => by
    have h1 := key_depth l
    have h2 := key_depth r
    simp only [keyD, PyData.depth, PyData.depthAll, B.size]
    omega
theorem data_depth : ∀ b : B, b.data.depth ≤ b.size
  | .nil => by simp [B.data, PyData.depth]
  | .node l x r => by
    have h1 := data_depth l
    have h2 := data_depth r
    simp only [B.data, PyData.depth, PyData.depthAll, B.size]
    omega
theorem data_lay : ∀ b : B, (∀ c ∈ b.pre, c < 128) → b.data.canLay0 = true
  | .nil, _ => by simp [B.data, PyData.canLay0]
  | .node l x r, h => by
    have h1 := data_lay l fun c hc => h c (List.mem_cons_of_mem _ (List.mem_append_left _ hc))
    have h2 := data_lay r fun c hc => h c (List.mem_cons_of_mem _ (List.mem_append_right _ hc))
    have h3 : PyData.strOk (ch x) = true := str_ok (h x List.mem_cons_self)
    simp [B.data, PyData.canLay0, PyData.canLayAll0, h1, h2, h3]
theorem heads_of {bs : List B} (h : ∀ b ∈ bs, b.size ≤ 20 ∧ ∀ c ∈ b.pre, c < 128) : Heads (bs.map fun b => (keyD b, b.data)) := by
  have mem : ∀ d ∈ bs.map (fun b => (keyD b, b.data)), ∃ b ∈ bs, d = (keyD b, b.data) := fun d hd => by
    obtain ⟨b, hb, rfl⟩ := List.mem_map.mp hd
    exact ⟨b, hb, rfl⟩
  refine ⟨fun d hd e he => ?_, fun d hd => ?_, fun d hd => ?_, fun d hd => ?_, fun d hd e he h => ?_⟩
  · obtain ⟨a, _, rfl⟩ := mem d hd
    obtain ⟨b, _, rfl⟩ := mem e he
    exact key_alike a b
  · obtain ⟨a, _, rfl⟩ := mem d hd
    cases a with
    | nil => exact ⟨_, rfl⟩
    | node l x r => exact ⟨_, rfl⟩
  · obtain ⟨a, ha, rfl⟩ := mem d hd
    have h1 := key_depth a
    have h2 := data_depth a
    have h3 := (h a ha).1
    exact ⟨by show (keyD a).depth ≤ 50; omega, by show a.data.depth ≤ 50; omega⟩
  · obtain ⟨a, ha, rfl⟩ := mem d hd
    exact data_lay a (h a ha).2
  · obtain ⟨a, _, rfl⟩ := mem d hd
    obtain ⟨b, _, rfl⟩ := mem e he
    have := kd_inj a b h
    rw [this]
    exact PySem.W.eqv_refl_alike _ (data_alike b)
theorem lett_len (l : List Nat) : (lettOf l).length ≤ 1 := by
  unfold lettOf
  split
  · exact Nat.le_refl _
  · split
    · exact Nat.le_refl _
    · exact Nat.zero_le _
theorem singles : ∀ ls : List (List Nat), (∀ l ∈ ls, l.length ≤ 1) → [] ∉ ls → ls = ls.flatten.map fun c => [c]
  | [], _, _ => rfl
  | l :: ls, h, hn => by
    have ih := singles ls (fun m hm => h m (List.mem_cons_of_mem _ hm)) fun z => hn (List.mem_cons_of_mem _ z)
    have hl := h l List.mem_cons_self
    match l, hl with
    | [], _ => exact absurd List.mem_cons_self hn
    | [c], _ =>
      rw [List.flatten_cons, List.map_append, ← ih]
      rfl
    | _ :: _ :: _, hl => exact absurd hl (by simp)
theorem LT_single {G : G3} {x : S} (h : [] ∉ LT G x) : LT G x = (LT G x).flatten.map fun c => [c] := singles _ (fun l hl => by
  obtain ⟨p, _, rfl⟩ := List.mem_map.mp hl
  exact lett_len _) h
def spAll : Sp := fun vs H Q _ => ∃ (p : Addr) (G : G3) (n : Nat), vs = [.ref p] ∧ H p = some (.tup G.tup) ∧ G.Five n ∧ G.Sg ∧ (¬ Told G n → ∀ H' : Hp, Same H H' → Q .non H') ∧
  (Told G n → ∀ (r : Addr) (us : List V) (H' : Hp), Same H H' → H' r = some (.lst us) → PySem.W.EachIs (BAt H') us (numL G n) → Q (.ref r) H')
section
variable {P : Program} {w : World} {K : PySem.W.Frag} {mg : Str → Option Value} {base : Heap} {f : Addr} {fd : FuncData}
theorem ok_all (F : Fun K "_law_all" "_law_all" s__law_all f fd) (M : Mgs mg) (D_law_shapes : Df P w K mg base 1 "_law_shapes" ["_law_many"] spShapes) (D_law_spots : Df P w K mg base 43 "_law_spots" ["_law_shape_here", "_law_a", "_law_b", "_law_c"] (spSpots 13))
    (D_law_letter : Df P w K mg base 1 "_law_letter" ["_law_rows_here", "_law_spot"] spLetter) (D_law_labelled : Df P w K mg base 51 "_law_labelled" ["_law_shape_here", "_law_letters"] (spLab 21)) (D_law_key : Df P w K mg base 51 "_law_key" ["_law_tree_here"] (spKey 21)) : FnOk P w K mg base CX0 52 f fd ["_law_rows_here"] spAll := by
  refine F.ok (k := 51) sc__law_all (fun vs H Q E h => ?_) (fun cdv A outer s H vs Q E hr h => ?_)
  · obtain ⟨p, G, n, rfl, _⟩ := h
    rfl
  obtain ⟨p, G, n, rfl, ep, g, sg, qn, qt⟩ := h
  have n5 := g.few
  refine ⟨_, (pss_cons (ps_set (i := 1) sc__law_all.nd rfl (.inl rfl) (pe_lst pa_nil))
    (pss_cons (ps_for PassesOwn.never rfl (pi_list (pe_call D_law_shapes.ok (hr.mono (by omega)) rfl D_law_shapes.g D_law_shapes.kp D_law_shapes.b .nil pass0 (pa_cons (pe_callB call_len_str rfl M.len PySem.boot_len (pa_cons (pe_ix ix_tup (pv 0) pe_int (fun _ _ => rfl)) pa_nil)) pa_nil))) (pg_name (i := 2) sc__law_all.nd rfl (.inl rfl))
      (pss_cons (ps_setLc (i := 4) (own := [("_law_spot", 3)]) (g := gName 3) (tt := tYes) (by rfl) sc__law_all.nd rfl rfl (sw_true rfl rfl rfl (by decide +kernel)) (pi_list (pe_call D_law_spots.ok (hr.mono (by omega)) rfl D_law_spots.g D_law_spots.kp D_law_spots.b .nil pass0 (pa_cons (pv 2) (pa_cons pe_int (pa_cons pe_int (pa_cons pe_int pa_nil)))))) (blkOk_by (N := ["_law_rows_here", "_law_found", "_law_shape_here", "_law_spot", "_law_letters", "_law_tree_here", "_law_key_here"]) (sc := defScope s__law_all) (by decide +kernel)) (fun _ _ _ _ _ => (pg_name (i := 3) sc__law_all.nd rfl (.inl rfl))) (fun _ _ _ _ _ => pts_nil) (fun _ _ _ _ _ => (pe_call D_law_letter.ok (hr.mono (by omega)) rfl D_law_letter.g D_law_letter.kp D_law_letter.b .nil pass0 (pa_cons (pv 0) (pa_cons (pv 3) pa_nil)))))
    (pss_one (ps_if (pt_cmpR op_notIn_seq pe_str (pv 4) (by rfl))
      (pss_cons (ps_if (pt_cmpR op_in_seq pe_str (pv 4) (by rfl))
      (pss_one (ps_ret pe_non)) pss_nil)
    (pss_cons (ps_set (i := 5) sc__law_all.nd rfl (.inl rfl) (pe_call D_law_labelled.ok (hr.mono (by omega)) rfl D_law_labelled.g D_law_labelled.kp D_law_labelled.b .nil pass0 (pa_cons (pv 2) (pa_cons (pe_bm PySem.F.plainAttrs_str PySem.F.slot_str_join PySem.F.type_str_join mt_join pe_str (pa_cons (pv 4) pa_nil)) pa_nil))))
    (pss_one (ps_expr (pe_bm PySem.F.plainAttrs_list PySem.F.slot_list_append PySem.F.type_list_append mt_append (pv 1) (pa_cons (pe_tup (pa_cons (pe_call D_law_key.ok (hr.mono (by omega)) rfl D_law_key.g D_law_key.kp D_law_key.b .nil pass0 (pa_cons (pv 5) pa_nil)) (pa_cons (pv 5) pa_nil))) pa_nil)))))) pss_nil))))
    (pss_one (ps_ret (pe_lc (own := [("_law_key_here", 6), ("_law_tree_here", 5)]) (g := gTup K 2 (gCons (gName 6) (gCons (gName 5) gNil))) (tt := tYes) rfl sc__law_all.nd (pi_list (pe_callB (cr_sortHead hr.units) rfl M.sorted (by decide +kernel) (pa_cons (pv 1) pa_nil))) (blkOk_by (N := ["_law_rows_here", "_law_found", "_law_shape_here", "_law_spot", "_law_letters", "_law_tree_here", "_law_key_here"]) (sc := defScope s__law_all) (by decide +kernel)) (fun _ _ _ _ _ => (pg_tup rfl (pgs_cons (pg_name (i := 6) sc__law_all.nd rfl (.inl rfl)) (pgs_cons (pg_name (i := 5) sc__law_all.nd rfl (.inl rfl)) pgs_nil)))) (fun _ _ _ _ _ => pts_nil) (fun _ _ _ _ _ => (pv 5))))))), ?_⟩
  refine ⟨(by show 0 ≤ sizeLine; decide), fun L nL => ?_⟩
  have kL := same_new nL (.lst [])
  have eL0 := upd_same (H := H) (a := L) (o := .lst [])
  have ep0 := kL _ _ ep
  have pL : p ≠ L := fun z => by rw [z, nL] at ep; cases ep
  have back : ∀ {H'}, But L (upd H L (.lst [])) H' → Same H H' := fun {H'} b a o e => b a o (fun z => by rw [z, nL] at e; cases e) (kL _ _ e)
  generalize upd H L (.lst []) = H0 at kL eL0 ep0 back ⊢
  refine ⟨_, rfl, p, _, _, _, rfl, rfl, SqT.of ep0, atI_nat (j := 0) rfl, _, rfl, small (by rw [tx_len, g.a]; omega), ?_⟩
  rw [tx_len, g.a]
  refine ⟨n, rfl, n5, fun q1 us H1 s1 e1 sh => ?_⟩
  refine ⟨q1, rfl, ⟨_, SqL.of e1⟩, ?_⟩
  have ls := sh.len
  have few := shapes_few n5
  have eL1 := s1 _ _ eL0
  have q1L : q1 ≠ L := fun z => by
    rw [z, eL1] at e1
    cases e1
    have h : n = 0 ∨ n = 1 ∨ n = 2 ∨ n = 3 ∨ n = 4 ∨ n = 5 := by omega
    rcases h with rfl | rfl | rfl | rfl | rfl | rfl <;> exact absurd ls (by decide +kernel)
  refine for_list (K := K) (a := q1) (xs := us) (fun m σ H' => But L H1 H' ∧ (∀ x ∈ (shapes n).take m, [] ∈ LT G x ∨ [63] ∉ LT G x) ∧ (∃ ws, H' L = some (.lst ws) ∧ PySem.W.EachIs (PairAt H') ws ((((shapes n).take m).filter (okS G)).map (tree1 G))) ∧ ∃ o2 o4 o5 : Option V, σ = [some (.ref p), some (.ref L), o2, none, o4, o5, none])
    ⟨fun a o _ e => e, fun x hx => absurd hx (by rw [List.take_zero]; exact List.not_mem_nil), ⟨[], eL1, .nil⟩, none, none, none, rfl⟩ (fun m σ H' _ hp => SqL.of (hp.1 _ _ q1L e1)) (fun m u σ H2 hu hp => ?_) (fun σ H2 hp => ?_)
  · obtain ⟨s2, tol, ⟨ws, eL2, prs⟩, o2, o4, o5, rfl⟩ := hp
    obtain ⟨x, hx, hux⟩ := sh.get hu
    have hux2 : ShAt H2 u x := hux.keep (s2.keepT eL1)
    have hm := List.mem_of_getElem? hx
    have xz := shapes_size n x hm
    have mf : m < (shapes n).length := (List.getElem?_eq_some_iff.mp hx).1
    refine ⟨_, rfl, u, x, 0, 0, 0, rfl, hux2, by omega, by omega, fun q3 us3 H3 s3 e3 t3 => ?_⟩
    have l3 := t3.len
    rw [spots_len] at l3
    have ep3 : H3 p = some (.tup G.tup) := s3 _ _ (s2 _ _ pL (s1 _ _ ep0))
    refine ⟨q3, rfl, ⟨_, SqL.of e3⟩, fun D nD => ?_⟩
    have kD := same_new nD (.lst [])
    refine lc_list (K := K) (a := q3) (xs := us3) (fun j H' => Same H3 H' ∧ H' D = some (.lst (((LT G x).take j).map vt))) ⟨kD, upd_same⟩ (fun j H' _ hp => SqL.of (hp.1 _ _ e3)) (fun j v H4 hv hp => ?_) (fun H4 hp => ?_)
    · obtain ⟨s4, eD⟩ := hp
      obtain ⟨t, y, rfl, hy, et⟩ := t3.get hv
      obtain ⟨y1, y2, y3⟩ := spots_lt x 0 0 0 y (List.mem_of_getElem? hy)
      refine ⟨rfl, kept ?_⟩
      refine ⟨_, rfl, _, rfl, p, t, G.a, G.b, G.c, y.1, y.2.1, y.2.2, rfl, s4 _ _ ep3, s4 _ _ et, by rw [g.a]; omega, by rw [g.b]; omega, by rw [g.c]; omega, by rw [g.a]; omega, by rw [g.b]; omega, by rw [g.c]; omega, g.all, fun H5 s5 => ?_⟩
      have hl : (LT G x)[j]? = some (lettOf (sigs G y)) := by
        unfold LT
        rw [List.getElem?_map, hy]
        rfl
      refine ⟨_, s5 _ _ eD, ?_, fun b o e => by rw [upd_ne (ne_of_none e nD)]; exact (s4.trans s5) _ _ e, ?_⟩
      · rw [List.length_map, List.length_take]
        have := LT_len G x
        exact small1000 (by omega)
      · rw [upd_same, take_next hl, List.map_append]
        rfl
    · obtain ⟨s4, eD⟩ := hp
      rw [l3, ← LT_len G x, List.take_length] at eD
      have lz := LT_len G x
      have s34 := s3.trans s4
      have b4 : But L H1 H4 := s2.trans (But.of s34)
      have eL4 := s34 _ _ eL2
      have prs4 : PySem.W.EachIs (PairAt H4) ws ((((shapes n).take m).filter (okS G)).map (tree1 G)) := prs.mono fun v b h => h.keep (Tw.Same.keepT s34)
      refine ⟨_, rfl, D, _, rfl, .inl (SqL.of eD), rfl, all_flat _, ?_⟩
      have e0 : inV (.str (Str.ofString "")) ((LT G x).map vt) = decide ([] ∈ LT G x) := by rw [str_0]; exact in_vt [] (LT G x)
      rw [e0]
      by_cases hz : [] ∈ LT G x
      · rw [decide_eq_true hz]
        refine ⟨_, rfl, iteF ?_⟩
        refine ⟨b4, fun y hy => ?_, ⟨ws, eL4, ?_⟩, some u, some (.ref D), o5, rfl⟩
        · rw [take_next hx] at hy
          rcases List.mem_append.mp hy with hy | hy
          · exact tol y hy
          · rw [List.mem_singleton.mp hy]; exact .inl hz
        · rw [take_next hx, List.filter_append, List.filter_cons_of_neg (by unfold okS; simpa using hz), List.filter_nil, List.append_nil]
          exact prs4
      · rw [decide_eq_false hz]
        refine ⟨_, rfl, iteT ?_⟩
        refine ⟨_, rfl, D, _, rfl, .inl (SqL.of eD), rfl, all_flat _, ?_⟩
        have e63 : inV (.str (Str.ofString "?")) ((LT G x).map vt) = decide ([63] ∈ LT G x) := by rw [str_q]; exact in_vt [63] (LT G x)
        rw [e63]
        by_cases hq : [63] ∈ LT G x
        · rw [decide_eq_true hq]
          refine ⟨_, rfl, iteT ?_⟩
          refine qn (fun z => ?_) H4 (back ((But.of s1).trans b4))
          rcases z x hm with z | z
          · exact hz z
          · exact z hq
        · rw [decide_eq_false hq]
          refine ⟨_, rfl, iteF ?_⟩
          have es := LT_single hz
          have lf : (LT G x).flatten.length = x.size := by
            have := congrArg List.length es
            rw [List.length_map] at this
            omega
          have eDc : H4 D = some (.lst (((LT G x).flatten.map ch).map V.str)) := by
            rw [eD, es, List.map_map, List.map_map]
            have e2 : ((LT G x).flatten.map fun c => [c]).flatten = (LT G x).flatten := by rw [← es]
            rw [e2]
            rfl
          refine ⟨_, rfl, rfl, _, rfl, _, D, (LT G x).flatten.map ch, rfl, rfl, .inl (SqL.of eDc), tx_joinOk _ (by omega), ?_⟩
          rw [tx_join]
          refine ⟨u, x, (LT G x).flatten, rfl, hux2.same s34, by omega, by omega, lf, fun u5 b H5 s5 hb eb ej => ?_⟩
          have ebt : b = tree1 G x := by
            unfold tree1
            rw [← eb, ← ej, lab_eq]
          have b5 : But L H1 H5 := b4.trans (But.of s5)
          have bz : b.size ≤ 5 := by
            have := shp_size b
            rw [ej] at this
            omega
          refine ⟨_, rfl, .inl ⟨rfl, _, SqL.of (s5 _ _ eL4)⟩, _, rfl, u5, b, rfl, hb, by omega, by omega, fun k H6 s6 hk => ?_⟩
          refine ⟨_, rfl, (by show 2 ≤ sizeLine; decide), fun z nz => ?_⟩
          have kz := same_new nz (.tup [V.ref k, u5])
          have sz := s5.trans (s6.trans kz)
          have eL7 := sz _ _ eL4
          have lw := prs.length
          rw [List.length_map] at lw
          have lw2 : (((shapes n).take m).filter (okS G)).length ≤ m := Nat.le_trans (List.length_filter_le _ _) (by rw [List.length_take]; omega)
          refine ⟨L, _, _, rfl, rfl, eL7, small1000 (by omega), b4.trans ((But.of sz).trans (But.upd _ _)), fun y hy => ?_, ⟨ws ++ [.ref z], upd_same, ?_⟩, some u, some (.ref D), some u5, rfl⟩
          · rw [take_next hx] at hy
            rcases List.mem_append.mp hy with hy | hy
            · exact tol y hy
            · rw [List.mem_singleton.mp hy]; exact .inr hq
          · rw [take_next hx, List.filter_append, List.filter_cons_of_pos (by unfold okS; simpa using hz), List.filter_nil, List.map_append]
            have kk := (But.upd (L := L) (upd H6 z (.tup [V.ref k, u5])) (.lst (ws ++ [V.ref z]))).keepT eL7
            refine each_app (prs4.mono fun v c h => (h.keep (Tw.Same.keepT sz)).keep kk) (.cons ?_ .nil)
            rw [← ebt]
            exact PairAt.keep kk ⟨z, .ref k, u5, rfl, upd_same, hk.same kz, (hb.same s6).same kz⟩
  · obtain ⟨b2, tol, ⟨ws, eL2, prs⟩, o2, o4, o5, rfl⟩ := hp
    rw [ls, List.take_length] at tol prs
    have told : Told G n := tol
    have prs : PySem.W.EachIs (PairAt H2) ws (toldL G n) := prs
    have s02 := back ((But.of s1).trans b2)
    obtain ⟨z1, z2, z3⟩ := each_zip prs
    have good : ∀ b ∈ toldL G n, b.size ≤ 20 ∧ ∀ c ∈ b.pre, c < 128 := fun b hb => by
      have hb := (told_perm sg told).mem_iff.mpr hb
      obtain ⟨i, hi, rfl⟩ := List.mem_map.mp hb
      have hi := List.mem_range.mp hi
      have f := (num_fits n (wholeS n) i rfl hi).sz
      have f : (num G (wholeS n) i).size = n := f
      refine ⟨by omega, fun c hc => ?_⟩
      have := num_low sg n (wholeS n) i rfl hi c hc
      omega
    have m1 : ((ws.zip (toldL G n)).map fun p => (p.1, keyD p.2, p.2.data)).map (·.1) = ws := by rw [List.map_map]; exact z1
    have m2 : ((ws.zip (toldL G n)).map fun p => (p.1, keyD p.2, p.2.data)).map (·.2) = (toldL G n).map fun b => (keyD b, b.data) := by
      rw [List.map_map, ← congrArg (List.map fun b : B => (keyD b, b.data)) z2, List.map_map]
      rfl
    refine ⟨_, rfl, L, (ws.zip (toldL G n)).map fun p => (p.1, keyD p.2, p.2.data), rfl, SqL.of (by rw [m1]; exact eL2), fun b hb => ?_, by rw [m2]; exact heads_of good, fun r nr => ?_⟩
    · obtain ⟨p, hp, rfl⟩ := List.mem_map.mp hb
      obtain ⟨q, k, t, e, eq, hk, ht⟩ := z3 p hp
      show Dp _ _ p.1 _
      rw [e]
      exact .tup (SqT.of eq) (.cons hk.dp (.cons ht.dp .nil))
    · have k9 := same_new nr (.lst ((((ws.zip (toldL G n)).map fun p => (p.1, keyD p.2, p.2.data)).mergeSort (PySem.W.dataLe false (·.2.1))).map (·.1)))
      have er := upd_same (H := H2) (a := r) (o := .lst ((((ws.zip (toldL G n)).map fun p => (p.1, keyD p.2, p.2.data)).mergeSort (PySem.W.dataLe false (·.2.1))).map (·.1)))
      generalize upd H2 r (.lst ((((ws.zip (toldL G n)).map fun p => (p.1, keyD p.2, p.2.data)).mergeSort (PySem.W.dataLe false (·.2.1))).map (·.1))) = H9 at k9 er ⊢
      have e1 : (((ws.zip (toldL G n)).map fun p => (p.1, keyD p.2, p.2.data)).mergeSort (PySem.W.dataLe false (·.2.1))) = ((ws.zip (toldL G n)).mergeSort (PySem.W.dataLe false fun p => keyD p.2)).map fun p => (p.1, keyD p.2, p.2.data) := (List.map_mergeSort (f := fun p : V × B => (p.1, keyD p.2, p.2.data)) (s := PySem.W.dataLe false (·.2.1)) fun a _ b _ => rfl).symm
      have e2 : numL G n = ((ws.zip (toldL G n)).mergeSort (PySem.W.dataLe false fun p => keyD p.2)).map (·.2) := by
        have m := List.map_mergeSort (r := PySem.W.dataLe false fun p : V × B => keyD p.2) (s := PySem.W.dataLe false keyD) (f := fun p : V × B => p.2) (l := ws.zip (toldL G n)) fun a _ b _ => rfl
        rw [m, z2, told_sorted sg told]
      have c9 := (each_of_zip ((ws.zip (toldL G n)).mergeSort (PySem.W.dataLe false fun p => keyD p.2)) fun p hp => z3 p ((List.mergeSort_perm _ _).mem_iff.mp hp)).mono fun v b (h : PairAt H2 v b) => h.keep (Tw.Same.keepT k9)
      rw [← e2] at c9
      have e3 : (((ws.zip (toldL G n)).map fun p => (p.1, keyD p.2, p.2.data)).mergeSort (PySem.W.dataLe false (·.2.1))).map (·.1) = ((ws.zip (toldL G n)).mergeSort (PySem.W.dataLe false fun p => keyD p.2)).map (·.1) := by
        rw [e1, List.map_map]
        rfl
      rw [e3] at er
      generalize ((ws.zip (toldL G n)).mergeSort (PySem.W.dataLe false fun p => keyD p.2)).map (·.1) = vs9 at er c9
      have l9 := c9.length
      have ln : (numL G n).length ≤ 42 := by
        rw [(told_perm sg told).length_eq]
        unfold toldL
        rw [List.length_map]
        exact Nat.le_trans (List.length_filter_le _ _) few
      refine ⟨r, rfl, ⟨_, SqL.of er⟩, fun D nD => ?_⟩
      have kD := same_new nD (.lst [])
      refine lc_list (K := K) (a := r) (xs := vs9) (fun j H' => Same H9 H' ∧ ∃ us, H' D = some (.lst us) ∧ PySem.W.EachIs (BAt H') us ((numL G n).take j)) ⟨kD, [], upd_same, .nil⟩ (fun j H' _ hp => SqL.of (hp.1 _ _ er)) (fun j v H4 hv hp => ?_) (fun H4 hp => ?_)
      · obtain ⟨s4, us4, eD, bs4⟩ := hp
        obtain ⟨b, hb, q, k, t, rfl, eq, hk, ht⟩ := each_get c9 hv
        refine ⟨q, _, rfl, SqT.of (s4 _ _ eq), rfl, _, _, rfl, _, _, rfl, rfl, rfl, kept ?_⟩
        have lu := bs4.length
        rw [List.length_take] at lu
        refine ⟨_, rfl, _, eD, small1000 (by omega), fun b o e => by rw [upd_ne (ne_of_none e nD)]; exact s4 _ _ e, us4 ++ [t], upd_same, ?_⟩
        rw [take_next hb]
        have kk := (But.upd (L := D) H4 (.lst (us4 ++ [t]))).keepT eD
        exact each_app (bs4.mono fun v c h => h.keep kk) (.cons ((ht.same s4).keep kk) .nil)
      · obtain ⟨s4, us4, eD, bs4⟩ := hp
        rw [l9, List.take_length] at bs4
        exact qt told D us4 H4 (s02.trans (k9.trans s4)) eD bs4
end
/-! ### _law_same, of equal data -/
theorem dpAll_len {K : PySem.W.Frag} {H : Hp} : ∀ {vs : List V} {ds : List PyData}, DpAll K H vs ds → vs.length = ds.length
  | _, _, .nil => rfl
  | _, _, .cons _ a => congrArg (· + 1) (dpAll_len a)
theorem dpAll_get {K : PySem.W.Frag} {H : Hp} : ∀ {vs : List V} {ds : List PyData} {i : Nat} {d : PyData}, DpAll K H vs ds → ds[i]? = some d → ∃ v, vs[i]? = some v ∧ Dp K H v d
  | _, _, _, _, .nil, h => by simp at h
  | _, _, 0, _, .cons h _, e => by
    cases e
    exact ⟨_, rfl, h⟩
  | _, _, i + 1, _, .cons _ a, e => dpAll_get (i := i) a e
def tyD : PyData → String
  | .none => "NoneType"
  | .bool _ => "bool"
  | .int _ => "int"
  | .str _ => "str"
  | .list _ => "list"
  | .tuple _ => "tuple"
  | .dict _ => "dict"
theorem dp_ty {K : PySem.W.Frag} {H : Hp} {v : V} {d : PyData} (h : Dp K H v d) : TyX K H v (.type (tyD d)) := by
  cases h with
  | non => exact .base .non
  | bl b => exact .base (.bl b)
  | int i => exact .base (.int i)
  | str x => exact .base (.str x)
  | lst h _ =>
    rcases h with (h | ⟨o, h⟩) | ⟨o, its, n, h, hc, _⟩
    · exact .base (.lst h)
    · exact .base (.frz h)
    · exact .kList h hc
  | tup h _ =>
    rcases h with (h | ⟨o, h⟩) | ⟨o, its, n, h, hc, _⟩
    · exact .base (.tup h)
    · exact .fTuple h
    · exact .kTuple h hc
theorem kit_lt {K : PySem.W.Frag} {a : String} {r s : Bool} (h1 : kitB a "list" = some r) (h2 : kitB a "tuple" = some s) : PySem.W.kitAny K (.type a) [.type "list", .type "tuple"] = some (r || s) := by
  refine kitAny_cons (kit_ty h1) (fun e => kitAny_cons (kit_ty h2) (fun e2 => ?_) fun e2 => ?_) fun e => ?_
  · rw [kitAny_nil, e, e2]; rfl
  · rw [e2, Bool.or_true]
  · rw [e, Bool.true_or]
theorem depth_get : ∀ {ds : List PyData} {i : Nat} {d : PyData}, ds[i]? = some d → d.depth ≤ PyData.depthAll ds
  | [], _, _, h => by simp at h
  | x :: xs, 0, _, h => by
    cases h
    simp only [PyData.depthAll]
    omega
  | x :: xs, i + 1, d, h => by
    have := depth_get (ds := xs) (i := i) h
    simp only [PyData.depthAll]
    omega
mutual
def nar : PyData → Bool
  | .list xs => decide (xs.length ≤ 1000000) && narAll xs
  | .tuple xs => decide (xs.length ≤ 1000000) && narAll xs
  | .dict _ => false
  | .none => true
  | .bool _ => true
  | .int _ => true
  | .str _ => true
def narAll : List PyData → Bool
  | [] => true
  | x :: xs => nar x && narAll xs
end
theorem nar_get : ∀ {ds : List PyData} {i : Nat} {d : PyData}, ds[i]? = some d → narAll ds = true → nar d = true
  | [], _, _, h, _ => by simp at h
  | x :: xs, 0, _, h, k => by
    cases h
    simp only [narAll, Bool.and_eq_true] at k
    exact k.1
  | x :: xs, i + 1, d, h, k => by
    simp only [narAll, Bool.and_eq_true] at k
    exact nar_get (ds := xs) (i := i) h k.2
theorem okR_get : ∀ {ds : List PyData} {i : Nat} {d : PyData}, ds[i]? = some d → okRs ds = true → okR d = true
  | [], _, _, h, _ => by simp at h
  | x :: xs, 0, _, h, k => by
    cases h
    simp only [okRs, Bool.and_eq_true] at k
    exact k.1
  | x :: xs, i + 1, d, h, k => by
    simp only [okRs, Bool.and_eq_true] at k
    exact okR_get (ds := xs) (i := i) h k.2
def spSame (K : PySem.W.Frag) (n : Nat) : Sp := fun vs H Q _ => ∃ (v v' : V) (d : PyData), vs = [v, v'] ∧ Dp K H v d ∧ Dp K H v' d ∧ d.depth < n ∧ nar d = true ∧ okR d = true ∧ ∀ H', Same H H' → Q (.bl true) H'
theorem dp_two {K : PySem.W.Frag} {H : Hp} {v v' : V} {d : PyData} {n : Nat} (h : Dp K H v d) (h' : Dp K H v' d) (hd : d.depth < n + 1) (hn : nar d = true) (ho : okR d = true) :
    (∃ (p p' : Addr) (xs xs' : List V) (ds : List PyData) (bl : Bool) (ty : String), v = .ref p ∧ v' = .ref p' ∧ (SqL K H p xs ∨ SqT K H p xs) ∧ (SqL K H p' xs' ∨ SqT K H p' xs') ∧ DpAll K H xs ds ∧ DpAll K H xs' ds ∧
      TyX K H v (.type ty) ∧ TyX K H v' (.type ty) ∧ kitB ty "list" = some bl ∧ kitB ty "tuple" = some (!bl) ∧ PyData.depthAll ds < n ∧ ds.length ≤ 1000000 ∧ narAll ds = true ∧ okRs ds = true) ∨ (v = v' ∧ (v = .non ∨ (∃ b, v = .bl b) ∨ (∃ i, v = .int i) ∨ ∃ x, v = .str x)) := by
  have t1 := dp_ty h
  have t2 := dp_ty h'
  cases h with
  | non =>
    cases h'
    exact .inr ⟨rfl, .inl rfl⟩
  | bl b =>
    cases h'
    exact .inr ⟨rfl, .inr (.inl ⟨b, rfl⟩)⟩
  | int b =>
    cases h'
    exact .inr ⟨rfl, .inr (.inr (.inl ⟨b, rfl⟩))⟩
  | str b =>
    cases h'
    exact .inr ⟨rfl, .inr (.inr (.inr ⟨b, rfl⟩))⟩
  | lst h a =>
    cases h' with
    | lst h' a' =>
      simp only [PyData.depth] at hd
      simp only [nar, Bool.and_eq_true, decide_eq_true_eq] at hn
      simp only [okR] at ho
      exact .inl ⟨_, _, _, _, _, true, "list", rfl, rfl, .inl h, .inl h', a, a', t1, t2, by decide +kernel, by decide +kernel, by omega, hn.1, hn.2, ho⟩
  | tup h a =>
    cases h' with
    | tup h' a' =>
      simp only [PyData.depth] at hd
      simp only [nar, Bool.and_eq_true, decide_eq_true_eq] at hn
      simp only [okR] at ho
      exact .inl ⟨_, _, _, _, _, false, "tuple", rfl, rfl, .inr h, .inr h', a, a', t1, t2, by decide +kernel, by decide +kernel, by omega, hn.1, hn.2, ho⟩
theorem seq_same {K : PySem.W.Frag} {H H' : Hp} {p : Addr} {xs : List V} (e : Same H H') (h : SqL K H p xs ∨ SqT K H p xs) : SqL K H' p xs ∨ SqT K H' p xs := h.elim (fun h => .inl (e.seq h)) fun h => .inr (sqT_same e h)
theorem seq_ix {K : PySem.W.Frag} {H : Hp} {p : Addr} {xs : List V} {i : Int} {v : V} {Q : VK} (h : SqL K H p xs ∨ SqT K H p xs) (a : atI xs i = some v) (q : Q v H) : rIx K (.ref p) (.int i) H Q :=
  h.elim (fun h => .inl ⟨p, xs, i, v, rfl, rfl, h, a, q⟩) fun h => .inr (.inl ⟨p, xs, i, v, rfl, rfl, h, a, q⟩)
theorem tyX_same {K : PySem.W.Frag} {H H' : Hp} {v : V} {d : PyData} (e : Same H H') (h : Dp K H v d) : TyX K H' v (.type (tyD d)) := dp_ty (dp_same e h)
theorem kit_tl2 {K : PySem.W.Frag} {a : String} {r s : Bool} (h1 : kitB a "list" = some r) (h2 : kitB a "tuple" = some s) : PySem.W.kitAny K (.type a) [.type "tuple", .type "list"] = some (r || s) := by
  refine kitAny_cons (kit_ty h2) (fun e => kitAny_cons (kit_ty h1) (fun e2 => ?_) fun e2 => ?_) fun e => ?_
  · rw [kitAny_nil, e, e2]; rfl
  · rw [e2, Bool.true_or]
  · rw [e, Bool.or_true]
section
variable {P : Program} {w : World} {K : PySem.W.Frag} {mg : Str → Option Value} {base : Heap} {f : Addr} {fd : FuncData}
theorem ok_same (F : Fun K "_law_same" "_law_same" s__law_same f fd) (b : Binds K fd ["_law_found", "_law_due"] []) (g : mg "_law_same" = some (.ref f)) (M : Mgs mg) (mrepr : mg "repr" = none) : ∀ n : Nat, FnOkG P w K mg base n f fd ["_law_found", "_law_due"] (spSame K n)
  | 0 => by
    have no : ∀ vs H Q E, ¬ spSame K 0 vs H Q E := fun vs H Q E h => by
      obtain ⟨v, t, d, _, _, _, h1, _, _⟩ := h
      omega
    exact ⟨fun vs H Q E h => absurd h (no vs H Q E), fun A outer s H args us vs Q E _ _ _ _ _ h => absurd h (no vs H Q E)⟩
  | n + 1 => by
    have Dself : DfG P w K mg base n "_law_same" ["_law_found", "_law_due"] (spSame K n) := ⟨f, fd, ok_same F b g M mrepr n, b, F.kp, g⟩
    refine fnG F sc__law_same (fun vs H Q E h => ?_) (fun cdv A outer s H vs Q E gs hr h => ?_)
    · obtain ⟨v, t, d, rfl, _⟩ := h
      rfl
    obtain ⟨v, v', d, rfl, hv, hv', hd, hna, hok, q⟩ := h
    refine ⟨_, (pss_cons (ps_if (pt_val (pe_callB call_isiT rfl M.isinstance (by decide +kernel) (pa_cons (pv 1) (pa_cons (pe_tup (pa_cons (pe_bltn (v := .ty "tuple") rfl M.tuple (by decide +kernel) rfl) (pa_cons (pe_bltn (v := .ty "list") rfl M.list (by decide +kernel) rfl) pa_nil))) pa_nil))))
      (pss_cons (ps_if (PW.pt (pw_or (pt_cmpR op_ne (pe_callB call_isi rfl M.isinstance (by decide +kernel) (pa_cons (pv 0) (pa_cons (pe_bltn (v := .ty "tuple") rfl M.tuple (by decide +kernel) rfl) pa_nil))) (pe_callB call_isi rfl M.isinstance (by decide +kernel) (pa_cons (pv 1) (pa_cons (pe_bltn (v := .ty "tuple") rfl M.tuple (by decide +kernel) rfl) pa_nil))) (nomark _)) (pw_or1 (pt_cmpR op_ne (pe_callB call_isi rfl M.isinstance (by decide +kernel) (pa_cons (pv 0) (pa_cons (pe_bltn (v := .ty "list") rfl M.list (by decide +kernel) rfl) pa_nil))) (pe_callB call_isi rfl M.isinstance (by decide +kernel) (pa_cons (pv 1) (pa_cons (pe_bltn (v := .ty "list") rfl M.list (by decide +kernel) rfl) pa_nil))) (nomark _)))))
      (pss_one (ps_ret pe_bl)) pss_nil)
    (pss_cons (ps_if (pt_cmpR op_ne (pe_callB call_len_seq rfl M.len PySem.boot_len (pa_cons (pv 0) pa_nil)) (pe_callB call_len_seq rfl M.len PySem.boot_len (pa_cons (pv 1) pa_nil)) (nomark _))
      (pss_one (ps_ret pe_bl)) pss_nil)
    (pss_one (ps_ret (pe_cmpR (op_eqD hr.units) (pe_lc (own := [("_law_k", 2)]) (g := gName 2) rfl sc__law_same.nd (pi_range1 rfl M.range (pa_cons (pe_callB call_len_seq rfl M.len PySem.boot_len (pa_cons (pv 1) pa_nil)) pa_nil)) (blkOk_by (N := ["_law_found", "_law_due", "_law_k"]) (sc := defScope s__law_same) (by decide +kernel)) (fun _ _ _ _ _ => (pg_name (i := 2) sc__law_same.nd rfl (.inl rfl))) (fun _ _ _ _ _ => pts_one (pt_not (pt_val (pe_callG Dself.ok gs (hr.mono (by omega)) rfl Dself.g Dself.kp Dself.b (pa_cons (pe_ix (show IxR _ (rIx K) from ix_seq) (pv 0) (pv 2) (fun _ _ => rfl)) (pa_cons (pe_ix (show IxR _ (rIx K) from ix_seq) (pv 1) (pv 2) (fun _ _ => rfl)) pa_nil)))))) (fun _ _ _ _ _ => (pv 2))) (pe_lst pa_nil) (nomark _)))))) pss_nil)
    (pss_one (ps_ret (pe_cmpR op_eq (pe_callB (call_reprV gs hr.units) rfl mrepr (by decide +kernel) (pa_cons (pv 0) pa_nil)) (pe_callB (call_reprV gs hr.units) rfl mrepr (by decide +kernel) (pa_cons (pv 1) pa_nil)) (nomark _))))), ?_⟩
    refine ⟨v', rfl, (by show 2 ≤ sizeLine; decide), fun tp np => ?_⟩
    have s1 := same_new np (.tup [.ty "tuple", .ty "list"])
    have hw := dp_same s1 hv
    have hw' := dp_same s1 hv'
    have pr : Paired ClsV [V.ty "tuple", V.ty "list"] [Value.type "tuple", Value.type "list"] := .cons (.ty _) (.cons (.ty _) .nil)
    rcases dp_two hw hw' hd hna hok with ⟨p, p', xs, xs', ds, bl, ty, rfl, rfl, hq, hq', ha, ha', ht, ht', k1, k2, hdd, hwl, hwn, hwo⟩ | ⟨rfl, hk⟩
    · have ka : PySem.W.kitAny K (.type ty) [.type "tuple", .type "list"] = some true := by
        rw [kit_tl2 k1 k2]
        cases bl <;> rfl
      have hl := dpAll_len ha
      have hl' := dpAll_len ha'
      refine ⟨_, tp, _, _, _, true, rfl, upd_same, pr, ht', ka, _, rfl, iteT ?_⟩
      refine ⟨_, rfl, _, _, _, _, !bl, rfl, .ty _, ht, kit_ty k2, _, rfl, _, _, _, _, !bl, rfl, .ty _, ht', kit_ty k2, by cases bl <;> rfl, _, rfl, iteNS rfl ?_⟩
      refine ⟨_, rfl, _, _, _, _, bl, rfl, .ty _, ht, kit_ty k1, _, rfl, _, _, _, _, bl, rfl, .ty _, ht', kit_ty k1, by cases bl <;> rfl, _, rfl, iteNS rfl ?_⟩
      refine ⟨_, rfl, p, xs, rfl, hq, _, rfl, p', xs', rfl, hq', rfl, _, rfl, iteNS (by rw [hl, hl']) ?_⟩
      refine ⟨_, rfl, p', xs', rfl, hq', _, rfl, ?_, ?_, fun D nD => ?_⟩
      · omega
      · omega
      have s2 := same_new nD (.lst [])
      rw [Int.toNat_natCast]
      refine lc_range (lo := 0) (n := xs'.length) (fun i H' => Same (upd H tp (.tup [.ty "tuple", .ty "list"])) H' ∧ H' D = some (.lst [])) ⟨s2, upd_same⟩ (fun i H' hi hp => ?_) (fun H' hp => ?_)
      · obtain ⟨sm, eD⟩ := hp
        obtain ⟨di, edi⟩ : ∃ di, ds[i]? = some di := ⟨_, List.getElem?_eq_getElem (by omega)⟩
        obtain ⟨x, ex, hx⟩ := dpAll_get ha edi
        obtain ⟨x', ex', hx'⟩ := dpAll_get ha' edi
        have hdi := depth_get edi
        have e0 : (0 : Int) + (i : Int) = ((i : Nat) : Int) := by omega
        rw [e0]
        refine ⟨rfl, ?_⟩
        refine ⟨_, rfl, _, rfl, seq_ix (seq_same sm hq) (atI_nat ex) ⟨_, rfl, _, rfl, seq_ix (seq_same sm hq') (atI_nat ex') ⟨x, x', di, rfl, dp_same sm hx, dp_same sm hx', by omega, nar_get edi hwn, okR_get edi hwo, fun H'' s'' => ?_⟩⟩⟩
        exact ⟨_, rfl, iteF ⟨sm.trans s'', s'' _ _ eD⟩⟩
      · obtain ⟨sm, eD⟩ := hp
        refine ⟨(by show 0 ≤ sizeLine; decide), fun e ne => ?_⟩
        refine ⟨.list [], .list [], .lst (SqL.of ((same_new ne _) _ _ eD)) .nil, .lst (SqL.of upd_same) .nil, rfl, rfl, ?_⟩
        exact q _ (s1.trans (sm.trans (same_new ne _)))
    · have fin := q _ s1
      rcases hk with rfl | ⟨c, rfl⟩ | ⟨c, rfl⟩ | ⟨c, rfl⟩
      · refine ⟨_, tp, _, _, _, false, rfl, upd_same, pr, .base .non, kit_tl2 (r := false) (s := false) (by decide +kernel) (by decide +kernel), _, rfl, iteF ?_⟩
        refine ⟨_, rfl, _, .none, rfl, .non, by decide, by decide, by decide, _, rfl, _, .none, rfl, .non, by decide, by decide, by decide, rfl, ?_⟩
        rw [decide_eq_true rfl]
        exact fin
      · refine ⟨_, tp, _, _, _, false, rfl, upd_same, pr, .base (.bl c), kit_tl2 (r := false) (s := false) (by decide +kernel) (by decide +kernel), _, rfl, iteF ?_⟩
        cases hv
        have okc : okR (.bool c) = true := by simp [okR]
        refine ⟨_, rfl, _, .bool c, rfl, .bl c, okc, by show 5 ≤ 1000000; decide, by show 0 ≤ 60; decide, _, rfl, _, .bool c, rfl, .bl c, okc, by show 5 ≤ 1000000; decide, by show 0 ≤ 60; decide, rfl, ?_⟩
        rw [decide_eq_true rfl]
        exact fin
      · refine ⟨_, tp, _, _, _, false, rfl, upd_same, pr, .base (.int c), kit_tl2 (r := false) (s := false) (by decide +kernel) (by decide +kernel), _, rfl, iteF ?_⟩
        cases hv
        have okc : okR (.int c) = true := hok
        refine ⟨_, rfl, _, .int c, rfl, .int c, okc, by show 31 ≤ 1000000; decide, by show 0 ≤ 60; decide, _, rfl, _, .int c, rfl, .int c, okc, by show 31 ≤ 1000000; decide, by show 0 ≤ 60; decide, rfl, ?_⟩
        rw [decide_eq_true rfl]
        exact fin
      · refine ⟨_, tp, _, _, _, false, rfl, upd_same, pr, .base (.str c), kit_tl2 (r := false) (s := false) (by decide +kernel) (by decide +kernel), _, rfl, iteF ?_⟩
        cases hv
        have okc : okR (.str c) = true := hok
        have wz : wtR (.str c) ≤ 1000000 := by
          simp only [okR, Bool.and_eq_true, decide_eq_true_eq] at okc
          show 10 * c.length + 2 ≤ 1000000
          omega
        refine ⟨_, rfl, _, .str c, rfl, .str c, okc, wz, by show 0 ≤ 60; decide, _, rfl, _, .str c, rfl, .str c, okc, wz, by show 0 ≤ 60; decide, rfl, ?_⟩
        rw [decide_eq_true rfl]
        exact fin
end
/-! ### _law_left_out_right -/
def tCut (t : TS) : TS := fun D σ H => ∃ I : L2.St → Hp → Prop, t { D with nx := I } σ H ∧ ∀ σ' H', I σ' H' → D.nx σ' H'
theorem ps_cut {X : Cx} {st : Stmt} {t : TS} (h : PS X st t) : PS X st (tCut t) := by
  refine ⟨fun pins s σ H D I hh => ?_⟩
  obtain ⟨J, a, b⟩ := hh
  refine thn (h.run pins s σ H _ I a) fun f s' q => ?_
  cases f with
  | next =>
    obtain ⟨σ', H', i, j⟩ := q
    exact ⟨σ', H', i, b _ _ j⟩
  | brk => exact q
  | cont => exact q
  | ret u => exact q
theorem ps_ifC {X : Cx} {c : Expr} {a b : List Stmt} {tc : TT} {t u : TS} {pos : Pos} (hc : PT X c tc) (ha : PSs X a t) (hb : PSs X b u) : PS X (.If c a b pos) (tCut (tIfS tc t u)) := ps_cut (ps_if hc ha hb)
structure DfKs (P : Program) (w : World) (K : PySem.W.Frag) (mg : Str → Option Value) (base : Heap) (k : Nat) (nm : Str) (n : Nat) (all : List (List Kd)) (sp : List Kd → List V → List V → Hp → VK → Prop) where
  f : Addr
  ok : ∀ ks : List Kd, ks ∈ all → FnKw P w K mg base k f n (ks.map Kd.str) (sp ks)
  kp : PySem.W.keepIn K (.ref f) = true
  g : mg nm = some (.ref f)
def ksC : List (List Kd) := [[.first, .between, .last], [.between, .last], [.last, .first], [.first, .between], [.first], [.between], [.last]]
def ksA : List (List Kd) := [[.last, .between, .first]]
def ksI : List (List Kd) := [[.first, .last, .between]]
theorem named1 (k : Kd) {r : List Nat} {n : Nat} (kr : RowOk r) (lr : r.length = n) : Named [k] [vt r] [(k, r)] n :=
  ⟨rfl, rfl, by simp, (by show [k].Nodup; simp), (by show 1 ≤ 3; decide), fun p hp => by rw [List.mem_singleton.mp hp]; exact ⟨kr, lr⟩⟩
theorem named2 (k l : Kd) (ne : k ≠ l) {r q : List Nat} {n : Nat} (kr : RowOk r) (kq : RowOk q) (lr : r.length = n) (lq : q.length = n) : Named [k, l] [vt r, vt q] [(k, r), (l, q)] n :=
  ⟨rfl, rfl, by simp, (by show [k, l].Nodup; simpa using ne), (by show 2 ≤ 3; decide), fun p hp => by
    rcases List.mem_cons.mp hp with rfl | hp
    · exact ⟨kr, lr⟩
    · rw [List.mem_singleton.mp hp]; exact ⟨kq, lq⟩⟩
theorem named3 (k l m : Kd) (ne : [k, l, m].Nodup) {r q z : List Nat} {n : Nat} (kr : RowOk r) (kq : RowOk q) (kz : RowOk z) (lr : r.length = n) (lq : q.length = n) (lz : z.length = n) : Named [k, l, m] [vt r, vt q, vt z] [(k, r), (l, q), (m, z)] n :=
  ⟨rfl, rfl, by simp, ne, (by show 3 ≤ 3; decide), fun p hp => by
    rcases List.mem_cons.mp hp with rfl | hp
    · exact ⟨kr, lr⟩
    rcases List.mem_cons.mp hp with rfl | hp
    · exact ⟨kq, lq⟩
    · rw [List.mem_singleton.mp hp]; exact ⟨kz, lz⟩⟩
def spLeft : Sp := fun vs H Q _ => ∃ (a b c : List Nat) (n : Nat), vs = [vt a, vt b, vt c, .int (cnt ⟨a, b, c⟩ (wholeS n) : Int)] ∧ RowOk a ∧ RowOk b ∧ RowOk c ∧ a.length = n ∧ b.length = n ∧ c.length = n ∧ cnt ⟨a, b, c⟩ (wholeS n) < 10 ^ 30 ∧ ∀ H' : Hp, Same H H' → Q (.bl true) H'
theorem eq_of_dec {x y : List Nat} (h : decide (V.str (tx x) = V.str (tx y)) = true) : x = y := tx_inj (V.str.inj (of_decide_eq_true h))
theorem rep_data (C : Nat) (hC : C < 10 ^ 30) : ∀ m : Nat, m ≤ 6 → okRs (List.replicate m (.int (C : Int))) = true ∧ wtRs (List.replicate m (.int (C : Int))) = 33 * m ∧ PyData.depthAll (List.replicate m (.int (C : Int))) = 0
  | 0, _ => ⟨by simp [okRs], by simp [wtRs], by simp [PyData.depthAll]⟩
  | m + 1, h => by
    obtain ⟨h1, h2, h3⟩ := rep_data C hC m (by omega)
    have hk : okR (.int (C : Int)) = true := by
      simp only [okR, Bool.and_eq_true, decide_eq_true_eq]
      exact ⟨by omega, by omega⟩
    rw [List.replicate_succ]
    refine ⟨by rw [okRs, hk, h1]; rfl, by rw [wtRs, h2]; show 31 + 2 + 33 * m = _; omega, by rw [PyData.depthAll, h3]; rfl⟩
theorem dp_rep {K : PySem.W.Frag} {H : Hp} (i : Int) : ∀ m : Nat, DpAll K H (List.replicate m (.int i)) (List.replicate m (.int i))
  | 0 => .nil
  | m + 1 => .cons (.int i) (dp_rep i m)
section
variable {P : Program} {w : World} {K : PySem.W.Frag} {mg : Str → Option Value} {base : Heap} {f : Addr} {fd : FuncData}
theorem ok_left (F : Fun K "_law_left_out_right" "_law_left_out_right" s__law_left_out_right f fd) (M : Mgs mg) (mrepr : mg "repr" = none) (Dcount_trees : DfKs P w K mg base 18 "count_trees" 0 ksC spCountT) :
    FnOkG P w K mg base 19 f fd ["_law_a", "_law_b", "_law_c", "_law_due"] spLeft := by
  refine fnG (k := 18) F sc__law_left_out_right (fun vs H Q E h => ?_) (fun cdv A outer s H vs Q E gs hr h => ?_)
  · obtain ⟨a, b, c, n, rfl, _⟩ := h
    rfl
  obtain ⟨a, b, c, n, rfl, ka, kb, kc, la, lb, lc, hC, q⟩ := h
  have n12 : n ≤ 12 := by have := ka.few; omega
  have n0 : 0 < n := by have := List.length_pos_iff.mpr ka.ne; omega
  refine ⟨_, (pss_cons (ps_par (i := 4) (j := 5) (by rfl) sc__law_left_out_right.nd rfl rfl (by decide) rfl rfl (pa_cons (pe_lst pa_nil) (pa_cons (pe_op op_timesS pe_str (pe_callB call_len_str rfl M.len PySem.boot_len (pa_cons (pv 0) pa_nil))) pa_nil)) (by rfl))
    (pss_cons (ps_ifC (pt_cmpR op_eq (pv 0) (pv 5) (nomark _))
      (pss_one (ps_expr (pe_bm PySem.F.plainAttrs_list PySem.F.slot_list_append PySem.F.type_list_append mt_append (pv 4) (pa_cons (pe_callKw0 (Dcount_trees.ok [.between, .last] (by decide)) (hr.mono (by omega)) rfl Dcount_trees.g Dcount_trees.kp (pk_cons (pv 1) (pk_cons (pv 2) pk_nil))) pa_nil)))) pss_nil)
    (pss_cons (ps_ifC (pt_cmpR op_eq (pv 1) (pv 5) (nomark _))
      (pss_one (ps_expr (pe_bm PySem.F.plainAttrs_list PySem.F.slot_list_append PySem.F.type_list_append mt_append (pv 4) (pa_cons (pe_callKw0 (Dcount_trees.ok [.last, .first] (by decide)) (hr.mono (by omega)) rfl Dcount_trees.g Dcount_trees.kp (pk_cons (pv 2) (pk_cons (pv 0) pk_nil))) pa_nil)))) pss_nil)
    (pss_cons (ps_ifC (pt_cmpR op_eq (pv 2) (pv 5) (nomark _))
      (pss_one (ps_expr (pe_bm PySem.F.plainAttrs_list PySem.F.slot_list_append PySem.F.type_list_append mt_append (pv 4) (pa_cons (pe_callKw0 (Dcount_trees.ok [.first, .between] (by decide)) (hr.mono (by omega)) rfl Dcount_trees.g Dcount_trees.kp (pk_cons (pv 0) (pk_cons (pv 1) pk_nil))) pa_nil)))) pss_nil)
    (pss_cons (ps_ifC (PW.pt (pw_and (pt_cmpR op_eq (pv 0) (pv 5) (nomark _)) (pw_and1 (pt_cmpR op_eq (pv 1) (pv 5) (nomark _)))))
      (pss_one (ps_expr (pe_bm PySem.F.plainAttrs_list PySem.F.slot_list_append PySem.F.type_list_append mt_append (pv 4) (pa_cons (pe_callKw0 (Dcount_trees.ok [.last] (by decide)) (hr.mono (by omega)) rfl Dcount_trees.g Dcount_trees.kp (pk_cons (pv 2) pk_nil)) pa_nil)))) pss_nil)
    (pss_cons (ps_ifC (PW.pt (pw_and (pt_cmpR op_eq (pv 0) (pv 5) (nomark _)) (pw_and1 (pt_cmpR op_eq (pv 2) (pv 5) (nomark _)))))
      (pss_one (ps_expr (pe_bm PySem.F.plainAttrs_list PySem.F.slot_list_append PySem.F.type_list_append mt_append (pv 4) (pa_cons (pe_callKw0 (Dcount_trees.ok [.between] (by decide)) (hr.mono (by omega)) rfl Dcount_trees.g Dcount_trees.kp (pk_cons (pv 1) pk_nil)) pa_nil)))) pss_nil)
    (pss_cons (ps_ifC (PW.pt (pw_and (pt_cmpR op_eq (pv 1) (pv 5) (nomark _)) (pw_and1 (pt_cmpR op_eq (pv 2) (pv 5) (nomark _)))))
      (pss_one (ps_expr (pe_bm PySem.F.plainAttrs_list PySem.F.slot_list_append PySem.F.type_list_append mt_append (pv 4) (pa_cons (pe_callKw0 (Dcount_trees.ok [.first] (by decide)) (hr.mono (by omega)) rfl Dcount_trees.g Dcount_trees.kp (pk_cons (pv 0) pk_nil)) pa_nil)))) pss_nil)
    (pss_one (ps_ret (pe_cmpR op_eq (pe_callB (call_reprV gs hr.units) rfl mrepr (by decide +kernel) (pa_cons (pv 4) pa_nil)) (pe_callB (call_reprV gs hr.units) rfl mrepr (by decide +kernel) (pa_cons (pe_op op_rep (pe_lst (pa_cons (pv 3) pa_nil)) (pe_callB call_len_seq rfl M.len PySem.boot_len (pa_cons (pv 4) pa_nil))) pa_nil)) (nomark _))))))))))), ?_⟩
  generalize hc : cnt ⟨a, b, c⟩ (wholeS n) = C at hC ⊢
  refine ⟨(by show 0 ≤ sizeLine; decide), fun L nL => ?_⟩
  have kL := same_new nL (.lst [])
  have eL := upd_same (H := H) (a := L) (o := .lst [])
  have back : ∀ {H'}, But L (upd H L (.lst [])) H' → Same H H' := fun {H'} b a o e => b a o (fun z => by rw [z, nL] at e; cases e) (kL _ _ e)
  generalize upd H L (.lst []) = H0 at kL eL back ⊢
  refine ⟨_, rfl, _, rfl, small (by rw [tx_len]; omega), 63, a.length, (by rw [str_q]; rfl), (by rw [tx_len]), by omega, by omega, ?_⟩
  rw [la]
  refine ⟨_, _, rfl, ?_⟩
  have hI : (fun (σ : L2.St) (H' : Hp) => σ = [some (vt a), some (vt b), some (vt c), some (.int (C : Int)), some (.ref L), some (vt (List.replicate n 63))] ∧ But L H0 H' ∧ ∃ m, m ≤ 0 ∧ H' L = some (.lst (List.replicate m (V.int (C : Int))))) [some (vt a), some (vt b), some (vt c), some (.int (C : Int)), some (.ref L), some (vt (List.replicate n 63))] H0 := ⟨rfl, fun _ _ _ e => e, 0, Nat.le_refl _, eL⟩
  refine ⟨(fun (σ : L2.St) (H' : Hp) => σ = [some (vt a), some (vt b), some (vt c), some (.int (C : Int)), some (.ref L), some (vt (List.replicate n 63))] ∧ But L H0 H' ∧ ∃ m, m ≤ 1 ∧ H' L = some (.lst (List.replicate m (V.int (C : Int))))), ?_, fun σ1 H1 hI1 => ?_⟩
  · obtain ⟨_, b1, m, hm, em⟩ := hI
    refine ⟨_, rfl, _, rfl, rfl, _, rfl, ?_⟩
    refine ite2 (fun e => ?_) (fun e => ?_)
    · have e1 := eq_of_dec e
      refine ⟨_, rfl, .inl ⟨rfl, _, SqL.of em⟩, _, rfl, _, rfl, rfl, rfl, [(.between, b), (.last, c)], n, named2 .between .last (by decide) kb kc lb lc, fun H9 s9 => ?_⟩
      have eg : g3 [(.between, b), (.last, c)] n = ⟨a, b, c⟩ := by rw [e1]; rfl
      rw [eg, hc]
      have em9 := s9 _ _ em
      refine ⟨L, _, _, rfl, rfl, em9, small1000 (by rw [List.length_replicate]; omega), rfl, b1.trans ((But.of s9).trans (But.upd _ _)), m + 1, by omega, ?_⟩
      rw [upd_same, List.replicate_succ']
    · exact ⟨rfl, b1, m, by omega, em⟩
  refine ⟨(fun (σ : L2.St) (H' : Hp) => σ = [some (vt a), some (vt b), some (vt c), some (.int (C : Int)), some (.ref L), some (vt (List.replicate n 63))] ∧ But L H0 H' ∧ ∃ m, m ≤ 2 ∧ H' L = some (.lst (List.replicate m (V.int (C : Int))))), ?_, fun σ2 H2 hI2 => ?_⟩
  · obtain ⟨rfl, b1, m, hm, em⟩ := hI1
    refine ⟨_, rfl, _, rfl, rfl, _, rfl, ?_⟩
    refine ite2 (fun e => ?_) (fun e => ?_)
    · have e1 := eq_of_dec e
      refine ⟨_, rfl, .inl ⟨rfl, _, SqL.of em⟩, _, rfl, _, rfl, rfl, rfl, [(.last, c), (.first, a)], n, named2 .last .first (by decide) kc ka lc la, fun H9 s9 => ?_⟩
      have eg : g3 [(.last, c), (.first, a)] n = ⟨a, b, c⟩ := by rw [e1]; rfl
      rw [eg, hc]
      have em9 := s9 _ _ em
      refine ⟨L, _, _, rfl, rfl, em9, small1000 (by rw [List.length_replicate]; omega), rfl, b1.trans ((But.of s9).trans (But.upd _ _)), m + 1, by omega, ?_⟩
      rw [upd_same, List.replicate_succ']
    · exact ⟨rfl, b1, m, by omega, em⟩
  refine ⟨(fun (σ : L2.St) (H' : Hp) => σ = [some (vt a), some (vt b), some (vt c), some (.int (C : Int)), some (.ref L), some (vt (List.replicate n 63))] ∧ But L H0 H' ∧ ∃ m, m ≤ 3 ∧ H' L = some (.lst (List.replicate m (V.int (C : Int))))), ?_, fun σ3 H3 hI3 => ?_⟩
  · obtain ⟨rfl, b1, m, hm, em⟩ := hI2
    refine ⟨_, rfl, _, rfl, rfl, _, rfl, ?_⟩
    refine ite2 (fun e => ?_) (fun e => ?_)
    · have e1 := eq_of_dec e
      refine ⟨_, rfl, .inl ⟨rfl, _, SqL.of em⟩, _, rfl, _, rfl, rfl, rfl, [(.first, a), (.between, b)], n, named2 .first .between (by decide) ka kb la lb, fun H9 s9 => ?_⟩
      have eg : g3 [(.first, a), (.between, b)] n = ⟨a, b, c⟩ := by rw [e1]; rfl
      rw [eg, hc]
      have em9 := s9 _ _ em
      refine ⟨L, _, _, rfl, rfl, em9, small1000 (by rw [List.length_replicate]; omega), rfl, b1.trans ((But.of s9).trans (But.upd _ _)), m + 1, by omega, ?_⟩
      rw [upd_same, List.replicate_succ']
    · exact ⟨rfl, b1, m, by omega, em⟩
  refine ⟨(fun (σ : L2.St) (H' : Hp) => σ = [some (vt a), some (vt b), some (vt c), some (.int (C : Int)), some (.ref L), some (vt (List.replicate n 63))] ∧ But L H0 H' ∧ ∃ m, m ≤ 4 ∧ H' L = some (.lst (List.replicate m (V.int (C : Int))))), ?_, fun σ4 H4 hI4 => ?_⟩
  · obtain ⟨rfl, b1, m, hm, em⟩ := hI3
    refine ⟨_, rfl, _, rfl, rfl, _, rfl, ?_⟩
    refine ite2 (fun e => ?_) (fun e => ?_)
    · have e1 := eq_of_dec e
      refine ⟨_, rfl, _, rfl, rfl, _, rfl, ?_⟩
      refine ite2 (fun e' => ?_) (fun e' => ?_)
      · have e2 := eq_of_dec e'
        refine ⟨_, rfl, .inl ⟨rfl, _, SqL.of em⟩, _, rfl, rfl, rfl, [(.last, c)], n, named1 .last kc lc, fun H9 s9 => ?_⟩
        have eg : g3 [(.last, c)] n = ⟨a, b, c⟩ := by rw [e1, e2]; rfl
        rw [eg, hc]
        have em9 := s9 _ _ em
        refine ⟨L, _, _, rfl, rfl, em9, small1000 (by rw [List.length_replicate]; omega), rfl, b1.trans ((But.of s9).trans (But.upd _ _)), m + 1, by omega, ?_⟩
        rw [upd_same, List.replicate_succ']
      · exact ⟨rfl, b1, m, by omega, em⟩
    · exact ⟨rfl, b1, m, by omega, em⟩
  refine ⟨(fun (σ : L2.St) (H' : Hp) => σ = [some (vt a), some (vt b), some (vt c), some (.int (C : Int)), some (.ref L), some (vt (List.replicate n 63))] ∧ But L H0 H' ∧ ∃ m, m ≤ 5 ∧ H' L = some (.lst (List.replicate m (V.int (C : Int))))), ?_, fun σ5 H5 hI5 => ?_⟩
  · obtain ⟨rfl, b1, m, hm, em⟩ := hI4
    refine ⟨_, rfl, _, rfl, rfl, _, rfl, ?_⟩
    refine ite2 (fun e => ?_) (fun e => ?_)
    · have e1 := eq_of_dec e
      refine ⟨_, rfl, _, rfl, rfl, _, rfl, ?_⟩
      refine ite2 (fun e' => ?_) (fun e' => ?_)
      · have e2 := eq_of_dec e'
        refine ⟨_, rfl, .inl ⟨rfl, _, SqL.of em⟩, _, rfl, rfl, rfl, [(.between, b)], n, named1 .between kb lb, fun H9 s9 => ?_⟩
        have eg : g3 [(.between, b)] n = ⟨a, b, c⟩ := by rw [e1, e2]; rfl
        rw [eg, hc]
        have em9 := s9 _ _ em
        refine ⟨L, _, _, rfl, rfl, em9, small1000 (by rw [List.length_replicate]; omega), rfl, b1.trans ((But.of s9).trans (But.upd _ _)), m + 1, by omega, ?_⟩
        rw [upd_same, List.replicate_succ']
      · exact ⟨rfl, b1, m, by omega, em⟩
    · exact ⟨rfl, b1, m, by omega, em⟩
  refine ⟨(fun (σ : L2.St) (H' : Hp) => σ = [some (vt a), some (vt b), some (vt c), some (.int (C : Int)), some (.ref L), some (vt (List.replicate n 63))] ∧ But L H0 H' ∧ ∃ m, m ≤ 6 ∧ H' L = some (.lst (List.replicate m (V.int (C : Int))))), ?_, fun σ6 H6 hI6 => ?_⟩
  · obtain ⟨rfl, b1, m, hm, em⟩ := hI5
    refine ⟨_, rfl, _, rfl, rfl, _, rfl, ?_⟩
    refine ite2 (fun e => ?_) (fun e => ?_)
    · have e1 := eq_of_dec e
      refine ⟨_, rfl, _, rfl, rfl, _, rfl, ?_⟩
      refine ite2 (fun e' => ?_) (fun e' => ?_)
      · have e2 := eq_of_dec e'
        refine ⟨_, rfl, .inl ⟨rfl, _, SqL.of em⟩, _, rfl, rfl, rfl, [(.first, a)], n, named1 .first ka la, fun H9 s9 => ?_⟩
        have eg : g3 [(.first, a)] n = ⟨a, b, c⟩ := by rw [e1, e2]; rfl
        rw [eg, hc]
        have em9 := s9 _ _ em
        refine ⟨L, _, _, rfl, rfl, em9, small1000 (by rw [List.length_replicate]; omega), rfl, b1.trans ((But.of s9).trans (But.upd _ _)), m + 1, by omega, ?_⟩
        rw [upd_same, List.replicate_succ']
      · exact ⟨rfl, b1, m, by omega, em⟩
    · exact ⟨rfl, b1, m, by omega, em⟩
  obtain ⟨rfl, b1, m, hm, em⟩ := hI6
  have hm : m ≤ 6 := hm
  obtain ⟨r1, r2, r3⟩ := rep_data C hC m hm
  have ok1 : okR (.list (List.replicate m (.int (C : Int)))) = true := by rw [okR]; exact r1
  have wt1 : wtR (.list (List.replicate m (.int (C : Int)))) ≤ 1000000 := by rw [wtR, r2]; omega
  have dp1 : (PyData.list (List.replicate m (.int (C : Int)))).depth ≤ 60 := by rw [PyData.depth, r3]; decide
  refine ⟨_, rfl, _, .list (List.replicate m (.int (C : Int))), rfl, .lst (SqL.of em) (dp_rep _ m), ok1, wt1, dp1, ?_⟩
  refine ⟨_, rfl, (by show 1 ≤ sizeLine; decide), fun y ny => ?_⟩
  have ky := same_new ny (.lst [.int (C : Int)])
  have emy := ky _ _ em
  have ey := upd_same (H := H6) (a := y) (o := .lst [.int (C : Int)])
  generalize upd H6 y (.lst [.int (C : Int)]) = H7 at ky emy ey ⊢
  have ln : (List.replicate m (V.int (C : Int))).length = m := List.length_replicate
  refine ⟨_, rfl, L, _, rfl, .inl (SqL.of emy), y, _, _, rfl, rfl, ey, by rw [ln]; omega, by rw [ln]; omega, ?_, fun t nt => ?_⟩
  · show ([V.int (C : Int)] : List V).length * (((List.replicate m (V.int (C : Int))).length : Int).toNat) ≤ sizeLine
    rw [ln, Int.toNat_natCast]
    show 1 * m ≤ 16777216
    omega
  have kt := same_new nt (.lst (List.replicate (((List.replicate m (V.int (C : Int))).length : Int)).toNat [V.int (C : Int)]).flatten)
  have er : (List.replicate (((List.replicate m (V.int (C : Int))).length : Int)).toNat [V.int (C : Int)]).flatten = List.replicate m (V.int (C : Int)) := by
    rw [ln, Int.toNat_natCast]
    exact List.flatten_replicate_singleton
  have et := upd_same (H := H7) (a := t) (o := .lst (List.replicate (((List.replicate m (V.int (C : Int))).length : Int)).toNat [V.int (C : Int)]).flatten)
  generalize upd H7 t (.lst (List.replicate (((List.replicate m (V.int (C : Int))).length : Int)).toNat [V.int (C : Int)]).flatten) = H8 at kt et ⊢
  rw [er] at et
  refine ⟨_, .list (List.replicate m (.int (C : Int))), rfl, .lst (SqL.of et) (dp_rep _ m), ok1, wt1, dp1, rfl, ?_⟩
  rw [decide_eq_true rfl]
  exact q _ (back (b1.trans (But.of (ky.trans kt))))
end
/-! ### law -/
theorem okR_tree : ∀ t : B, (∀ c ∈ t.pre, c < 128) → okR t.data = true ∧ nar t.data = true
  | .nil, _ => ⟨by simp only [B.data, okR], by simp only [B.data, nar]⟩
  | .node l x r, h => by
    obtain ⟨a1, a2⟩ := okR_tree l fun c hc => h c (List.mem_cons_of_mem _ (List.mem_append_left _ hc))
    obtain ⟨b1, b2⟩ := okR_tree r fun c hc => h c (List.mem_cons_of_mem _ (List.mem_append_right _ hc))
    have hx := h x List.mem_cons_self
    have e1 : okR (.str (ch x)) = true := by
      simp only [okR, Bool.and_eq_true, decide_eq_true_eq, List.all_eq_true]
      refine ⟨by show 1 ≤ 64; decide, fun z hz => ?_⟩
      have : z = x := by simpa using hz
      omega
    refine ⟨by simp only [B.data, okR, okRs, a1, b1, Bool.and_true, Bool.true_and]; simpa only [okR] using e1, by simp only [B.data, nar, narAll, a2, b2]; rfl⟩
theorem kw_c {kV dc pm cd ct : Value} {an : Option Addr} {ks : List Kd} (h : ks ∈ ksC) : KwBind (PySem.W.fnOf "count_trees" "count_trees" (defArgs s_count_trees) (defBody s_count_trees) (defScope s_count_trees) .none kV dc pm an cd ct) [] "rows" (ks.map Kd.str) := by
  rcases List.mem_cons.mp h with rfl | h
  · refine ⟨fun us ws h1 h2 => ?_, by decide +kernel⟩
    match us, ws, h1, h2 with
    | [], [w1, w2, w3], _, _ => rfl
  rcases List.mem_cons.mp h with rfl | h
  · refine ⟨fun us ws h1 h2 => ?_, by decide +kernel⟩
    match us, ws, h1, h2 with
    | [], [w1, w2], _, _ => rfl
  rcases List.mem_cons.mp h with rfl | h
  · refine ⟨fun us ws h1 h2 => ?_, by decide +kernel⟩
    match us, ws, h1, h2 with
    | [], [w1, w2], _, _ => rfl
  rcases List.mem_cons.mp h with rfl | h
  · refine ⟨fun us ws h1 h2 => ?_, by decide +kernel⟩
    match us, ws, h1, h2 with
    | [], [w1, w2], _, _ => rfl
  rcases List.mem_cons.mp h with rfl | h
  · refine ⟨fun us ws h1 h2 => ?_, by decide +kernel⟩
    match us, ws, h1, h2 with
    | [], [w1], _, _ => rfl
  rcases List.mem_cons.mp h with rfl | h
  · refine ⟨fun us ws h1 h2 => ?_, by decide +kernel⟩
    match us, ws, h1, h2 with
    | [], [w1], _, _ => rfl
  rw [List.mem_singleton.mp h]
  refine ⟨fun us ws h1 h2 => ?_, by decide +kernel⟩
  match us, ws, h1, h2 with
  | [], [w1], _, _ => rfl
theorem kw_at {kV dc pm cd ct : Value} {an : Option Addr} {ks : List Kd} (h : ks ∈ ksA) : KwBind (PySem.W.fnOf "tree_at" "tree_at" (defArgs s_tree_at) (defBody s_tree_at) (defScope s_tree_at) .none kV dc pm an cd ct) ["index"] "rows" (ks.map Kd.str) := by
  rw [List.mem_singleton.mp h]
  refine ⟨fun us ws h1 h2 => ?_, by decide +kernel⟩
  match us, ws, h1, h2 with
  | [u], [w1, w2, w3], _, _ => rfl
theorem kw_ix {kV dc pm cd ct : Value} {an : Option Addr} {ks : List Kd} (h : ks ∈ ksI) : KwBind (PySem.W.fnOf "tree_index" "tree_index" (defArgs s_tree_index) (defBody s_tree_index) (defScope s_tree_index) .none kV dc pm an cd ct) ["value"] "rows" (ks.map Kd.str) := by
  rw [List.mem_singleton.mp h]
  refine ⟨fun us ws h1 h2 => ?_, by decide +kernel⟩
  match us, ws, h1, h2 with
  | [u], [w1, w2, w3], _, _ => rfl
theorem len_c {ks : List Kd} (h : ks ∈ ksC) : ks.length ≤ 3 := by
  have : ∀ k ∈ ksC, k.length ≤ 3 := by decide
  exact this ks h
theorem len_a {ks : List Kd} (h : ks ∈ ksA) : ks.length ≤ 3 := by
  have : ∀ k ∈ ksA, k.length ≤ 3 := by decide
  exact this ks h
theorem len_i {ks : List Kd} (h : ks ∈ ksI) : ks.length ≤ 3 := by
  have : ∀ k ∈ ksI, k.length ≤ 3 := by decide
  exact this ks h
section
variable {P : Program} {w : World} {K : PySem.W.Frag} {mg : Str → Option Value} {base : Heap} {f : Addr} {fd : FuncData}
theorem run_law {s : Shared} {H : Hp} {a0 : Addr} {ns : List Int} (F : Fun K "law" "law" s_law f fd) (bd : BindsTo s fd ⟨[.ref a0], []⟩ [("_law_script", .ref a0)]) (en : Env0 P w K mg base callerA [] s H) (hS : SqL K H a0 (ns.map V.int))
    (M : Mgs mg) (D_law_deck : Df P w K mg base 1 "_law_deck" ["_law_script"] (spDeck K)) (D_law_rows : Df P w K mg base 53 "_law_rows" ["_law_deck_here", "_law_most"] spLRows) (D_law_number : Df P w K mg base 44 "_law_number" ["_law_rows_here"] spNumber)
    (D_law_same : DfG P w K mg base 20 "_law_same" ["_law_found", "_law_due"] (spSame K 20)) (D_law_left_out_right : DfG P w K mg base 19 "_law_left_out_right" ["_law_a", "_law_b", "_law_c", "_law_due"] spLeft) (D_law_all : Df P w K mg base 52 "_law_all" ["_law_rows_here"] spAll)
    (Dcount_trees : DfKs P w K mg base 18 "count_trees" 0 ksC spCountT) (Dtree_at : DfKs P w K mg base 19 "tree_at" 1 ksA spTreeAtT) (Dtree_index : DfKs P w K mg base 75 "tree_index" 1 ksI spTreeIxT) :
    codeAny (model P w) callerA (.call (.ref f) ⟨[.ref a0], []⟩) (CR CX0 [] P w H s (fun v _ => v = .bl true) fun _ _ _ => False) s := by
  refine enter_def (k := 76) (vs := [.ref a0]) (us := [.ref a0]) F sc_law ⟨rfl, by decide, by decide⟩ en bd (.cons rfl .nil) rfl fun cdv hr => ?_
  refine ⟨_, (pss_cons (ps_set (i := 1) sc_law.nd rfl (.inl rfl) (pe_call D_law_deck.ok (hr.mono (by omega)) rfl D_law_deck.g D_law_deck.kp D_law_deck.b .nil pass0 (pa_cons (pv 0) pa_nil)))
    (pss_cons (ps_for PassesOwn.never rfl (pi_range1 rfl M.range (pa_cons pe_int pa_nil)) (pg_name (i := 2) sc_law.nd rfl (.inl rfl))
      (pss_cons (ps_asg (pe_call D_law_rows.ok (hr.mono (by omega)) rfl D_law_rows.g D_law_rows.kp D_law_rows.b .nil pass0 (pa_cons (pv 1) (pa_cons pe_int pa_nil))) (pg_tup rfl (pgs_cons (pg_name (i := 3) sc_law.nd rfl (.inl rfl)) (pgs_cons (pg_name (i := 4) sc_law.nd rfl (.inl rfl)) (pgs_cons (pg_name (i := 5) sc_law.nd rfl (.inl rfl)) pgs_nil)))))
    (pss_cons (ps_set (i := 6) sc_law.nd rfl (.inl rfl) (pe_call D_law_number.ok (hr.mono (by omega)) rfl D_law_number.g D_law_number.kp D_law_number.b .nil pass0 (pa_cons (pe_tup (pa_cons (pv 3) (pa_cons (pv 4) (pa_cons (pv 5) pa_nil)))) pa_nil)))
    (pss_cons (ps_if (PW.pt (pw_or (pt_not (pt_val (pe_callG D_law_same.ok rfl (hr.mono (by omega)) rfl D_law_same.g D_law_same.kp D_law_same.b (pa_cons (pe_callKw0 (Dcount_trees.ok [.first, .between, .last] (by decide)) (hr.mono (by omega)) rfl Dcount_trees.g Dcount_trees.kp (pk_cons (pv 3) (pk_cons (pv 4) (pk_cons (pv 5) pk_nil)))) (pa_cons (pv 6) pa_nil))))) (pw_or1 (pt_not (pt_val (pe_callG D_law_left_out_right.ok rfl (hr.mono (by omega)) rfl D_law_left_out_right.g D_law_left_out_right.kp D_law_left_out_right.b (pa_cons (pv 3) (pa_cons (pv 4) (pa_cons (pv 5) (pa_cons (pv 6) pa_nil))))))))))
      (pss_one (ps_ret pe_bl)) pss_nil)
    (pss_cons (ps_set (i := 7) sc_law.nd rfl (.inl rfl) (pe_call D_law_all.ok (hr.mono (by omega)) rfl D_law_all.g D_law_all.kp D_law_all.b .nil pass0 (pa_cons (pe_tup (pa_cons (pv 3) (pa_cons (pv 4) (pa_cons (pv 5) pa_nil)))) pa_nil)))
    (pss_cons (ps_if (PW.pt (pw_and (pt_cmpR op_notN (pv 7) pe_non (nomark _)) (pw_and1 (pt_cmpR op_ne (pe_callB call_len_seq rfl M.len PySem.boot_len (pa_cons (pv 7) pa_nil)) (pv 6) (nomark _)))))
      (pss_one (ps_ret pe_bl)) pss_nil)
    (pss_one (ps_for PassesOwn.never rfl (pi_range1 rfl M.range (pa_cons (pe_ifExp (pt_cmpR op_isN (pv 7) pe_non (nomark _)) pe_int (pv 6)) pa_nil)) (pg_name (i := 8) sc_law.nd rfl (.inl rfl))
      (pss_cons (ps_set (i := 9) sc_law.nd rfl (.inl rfl) (pe_callKw (Dtree_at.ok [.last, .between, .first] (by decide)) (hr.mono (by omega)) rfl Dtree_at.g Dtree_at.kp (pa_cons (pv 8) pa_nil) (pk_cons (pv 5) (pk_cons (pv 4) (pk_cons (pv 3) pk_nil)))))
    (pss_one (ps_if (PW.pt (pw_or (pt_not (pt_val (pe_callG D_law_same.ok rfl (hr.mono (by omega)) rfl D_law_same.g D_law_same.kp D_law_same.b (pa_cons (pv 9) (pa_cons (pe_ix ix_list (pv 7) (pv 8) (fun _ _ => rfl)) pa_nil))))) (pw_or1 (pt_not (pt_val (pe_callG D_law_same.ok rfl (hr.mono (by omega)) rfl D_law_same.g D_law_same.kp D_law_same.b (pa_cons (pe_callKw (Dtree_index.ok [.first, .last, .between] (by decide)) (hr.mono (by omega)) rfl Dtree_index.g Dtree_index.kp (pa_cons (pv 9) pa_nil) (pk_cons (pv 3) (pk_cons (pv 5) (pk_cons (pv 4) pk_nil)))) (pa_cons (pv 8) pa_nil))))))))
      (pss_one (ps_ret pe_bl)) pss_nil)))))))))))
    (pss_one (ps_ret pe_bl)))), ?_⟩
  refine ⟨_, rfl, a0, ns, rfl, hS, fun D H1 d1 s1 => ?_⟩
  refine ⟨10, rfl, by decide, by decide, ?_⟩
  refine for_range (lo := 0) (n := 10) (fun i σ H' => ∃ (o2 o3 o4 o5 o6 o7 o8 o9 : Option V) (c : Nat), σ = [some (.ref a0), some (.ref D.dk), o2, o3, o4, o5, o6, o7, o8, o9] ∧ DeckOk H' D c ∧ c ≤ 120 * i) ⟨none, none, none, none, none, none, none, none, 0, rfl, d1, by omega⟩ (fun i σ H2 hi hp => ?_) (fun σ H2 hp => rfl)
  obtain ⟨o2, o3, o4, o5, o6, o7, o8, o9, c0, rfl, d2, hc⟩ := hp
  refine ⟨_, rfl, D, c0, 5, rfl, d2, by omega, by decide, by decide, fun p a b c e H3 e0 e1 d3 s3 ep ka kb kc lb lc l5 => ?_⟩
  refine ⟨p, _, rfl, SqT.of ep, rfl, _, _, rfl, _, _, rfl, _, _, rfl, rfl, ?_⟩
  obtain ⟨n, hn⟩ : ∃ n, a.length = n := ⟨_, rfl⟩
  rw [hn] at lb lc l5
  have low : ∀ r : List Nat, RowOk r → ∀ y ∈ r, y < 128 := fun r k y hy => by
    rcases k.all y hy with h | h <;> omega
  have five : (⟨a, b, c⟩ : G3).Five n := ⟨hn, lb, lc, l5, fun y hy => by
    rcases List.mem_append.mp hy with hy | hy
    · rcases List.mem_append.mp hy with hy | hy
      · exact low a ka y hy
      · exact low b kb y hy
    · exact low c kc y hy⟩
  have sg : (⟨a, b, c⟩ : G3).Sg := ⟨ka.all, kb.all, kc.all⟩
  have n12 : n ≤ 12 := by omega
  have gok : (⟨a, b, c⟩ : G3).Ok n := ⟨hn, lb, lc, n12⟩
  have cle := cnt_le (⟨a, b, c⟩ : G3) n (wholeS n) rfl n12
  have big : cnt (⟨a, b, c⟩ : G3) (wholeS n) < 10 ^ 30 := Nat.lt_of_le_of_lt cle (Nat.lt_of_le_of_lt (Nat.pow_le_pow_right (by decide) n12) (by decide))
  refine ⟨_, rfl, _, rfl, _, rfl, (by show 3 ≤ sizeLine; decide), fun t nt => ⟨t, ⟨a, b, c⟩, n, rfl, upd_same, five, fun H4 s4 => ?_⟩⟩
  have d4 := (d3.same (same_new nt _)).same s4
  have szof : ∀ y : Nat, y < cnt (⟨a, b, c⟩ : G3) (wholeS n) → (num (⟨a, b, c⟩ : G3) (wholeS n) y).size = n := fun y hy => (num_fit3 gok hy).1
  have lown : ∀ y : Nat, y < cnt (⟨a, b, c⟩ : G3) (wholeS n) → ∀ z ∈ (num (⟨a, b, c⟩ : G3) (wholeS n) y).pre, z < 128 := fun y hy z hz => by
    have := num_low sg n (wholeS n) y rfl hy z hz
    omega
  have numl : (numL (⟨a, b, c⟩ : G3) n).length = cnt (⟨a, b, c⟩ : G3) (wholeS n) := by
    unfold numL
    rw [List.length_map, List.length_range]
  have nget : ∀ y : Nat, y < cnt (⟨a, b, c⟩ : G3) (wholeS n) → (numL (⟨a, b, c⟩ : G3) n)[y]? = some (num (⟨a, b, c⟩ : G3) (wholeS n) y) := fun y hy => by
    unfold numL
    rw [List.getElem?_map, List.getElem?_range hy]
    rfl
  have okC : ∀ z : Nat, z < 10 ^ 30 → okR (.int (z : Int)) = true := fun z hz => by
    simp only [okR, Bool.and_eq_true, decide_eq_true_eq]
    exact ⟨by omega, by omega⟩
  refine ⟨_, rfl, _, rfl, _, rfl, rfl, rfl, _, n, named3 .first .between .last (by decide) ka kb kc hn lb lc, fun H5 s5 => ?_⟩
  have eg : g3 [(.first, a), (.between, b), (.last, c)] n = ⟨a, b, c⟩ := rfl
  rw [eg]
  refine ⟨_, rfl, _, _, .int _, rfl, .int _, .int _, by show 0 < 20; decide, rfl, okC _ big, fun H6 s6 => ⟨_, rfl, iteF ?_⟩⟩
  refine ⟨_, rfl, _, rfl, _, rfl, _, rfl, a, b, c, n, rfl, ka, kb, kc, hn, lb, lc, big, fun H7 s7 => ⟨_, rfl, iteF ?_⟩⟩
  have d7 := ((d4.same s5).same s6).same s7
  refine ⟨_, rfl, _, rfl, _, rfl, (by show 3 ≤ sizeLine; decide), fun t2 nt2 => ⟨t2, ⟨a, b, c⟩, n, rfl, upd_same, five, sg, fun untold H8 s8 => ?_, fun told r us H8 s8 er bs => ?_⟩⟩
  · have d8 := (d7.same (same_new nt2 _)).same s8
    refine ⟨_, rfl, rfl, _, rfl, iteF ?_⟩
    refine ⟨_, rfl, rfl, _, rfl, iteT ?_⟩
    refine ⟨0, rfl, by decide, by decide, ?_⟩
    refine for_range (lo := 0) (n := 0) (fun j σ H' => σ = _ ∧ H' = H8) ⟨rfl, rfl⟩ (fun j σ H' hj _ => absurd hj (Nat.not_lt_zero _)) (fun σ H' hp => ?_)
    obtain ⟨rfl, rfl⟩ := hp
    exact ⟨_, _, _, _, _, _, _, _, e, rfl, d8, by omega⟩
  · have d8 := (d7.same (same_new nt2 _)).same s8
    have lus := bs.length
    rw [numl] at lus
    refine ⟨_, rfl, rfl, _, rfl, iteT ?_⟩
    refine ⟨_, rfl, r, us, rfl, .inl (SqL.of er), _, rfl, rfl, _, rfl, iteNS (by rw [lus]) ?_⟩
    refine ⟨_, rfl, rfl, _, rfl, iteF ?_⟩
    have c42 : cnt (⟨a, b, c⟩ : G3) (wholeS n) ≤ 42 := by
      rw [← numl, (told_perm sg told).length_eq]
      unfold toldL
      rw [List.length_map]
      exact Nat.le_trans (List.length_filter_le _ _) (shapes_few l5)
    generalize hC : cnt (⟨a, b, c⟩ : G3) (wholeS n) = C at *
    refine ⟨_, rfl, (C : Int), rfl, by omega, by omega, ?_⟩
    rw [Int.toNat_natCast]
    refine for_range (lo := 0) (n := C) (fun j σ H' => Same H8 H' ∧ ∃ o8 o9 : Option V, σ = [some (.ref a0), some (.ref D.dk), some (.int (0 + (i : Int))), some (vt a), some (vt b), some (vt c), some (.int (C : Int)), some (.ref r), o8, o9]) ⟨Same.refl _, _, _, rfl⟩ (fun j σ H9 hj hp => ?_) (fun σ H9 hp => ?_)
    · obtain ⟨s9, o8', o9', rfl⟩ := hp
      have e0 : (0 : Int) + (j : Int) = ((j : Nat) : Int) := by omega
      rw [e0]
      have sz := szof j hj
      have lo := lown j hj
      have hjc : j < cnt (g3 [(.last, c), (.between, b), (.first, a)] n) (wholeS n) := by
        show j < cnt (⟨a, b, c⟩ : G3) (wholeS n)
        rw [hC]
        exact hj
      have hjc2 : j < cnt (g3 [(.first, a), (.last, c), (.between, b)] n) (wholeS n) := hjc
      obtain ⟨u, hu⟩ : ∃ u, us[j]? = some u := ⟨_, List.getElem?_eq_getElem (by rw [lus]; exact hj)⟩
      obtain ⟨b', hb', bt'⟩ := each_get bs hu
      rw [nget j hj] at hb'
      cases hb'
      refine ⟨_, rfl, _, rfl, _, rfl, _, rfl, rfl, rfl, j, _, n, rfl, named3 .last .between .first (by decide) kc kb ka lc lb hn, hjc, fun v HA sA bt => ?_⟩
      have bt : BAt HA v (num (⟨a, b, c⟩ : G3) (wholeS n) j) := bt
      obtain ⟨okT, naT⟩ := okR_tree _ lo
      have dT := data_depth (num (⟨a, b, c⟩ : G3) (wholeS n) j)
      refine ⟨_, rfl, _, rfl, _, rfl, r, _, _, _, rfl, rfl, SqL.of (sA _ _ (s9 _ _ er)), atI_nat hu, v, u, (num (⟨a, b, c⟩ : G3) (wholeS n) j).data, rfl, bt.dp, ((bt'.same s9).same sA).dp, by omega, naT, okT, fun HB sB => ⟨_, rfl, iteF ?_⟩⟩
      refine ⟨_, rfl, _, rfl, _, rfl, _, rfl, rfl, rfl, v, j, _, n, rfl, named3 .first .last .between (by decide) ka kc kb hn lc lb, hjc2, bt.same sB, fun HC sC => ?_⟩
      refine ⟨_, rfl, _, _, .int _, rfl, .int _, .int _, by show 0 < 20; decide, rfl, okC _ (by omega), fun HD sD => ⟨_, rfl, iteF ?_⟩⟩
      exact ⟨s9.trans (sA.trans (sB.trans (sC.trans sD))), _, _, rfl⟩
    · obtain ⟨s9, o8', o9', rfl⟩ := hp
      exact ⟨_, _, _, _, _, _, _, _, e, rfl, d8.same s9, by omega⟩
end
/-! ### what the top has left -/
theorem all_mk {l : PySem.W.OpenLaw} {w : World} {K : PySem.W.Frag} {h : Heap} {mg : Str → Option Value} {fa f1 f2 f3 f4 f5 f6 f7 f8 f9 f10 f11 f12 f13 f14 f15 f16 f17 f18 f19 f20 f21 f22 f23 f24 f25 f26 f27 f28 f29 f30 f31 f32 f33 f34 f35 f36 f37 f38 f39 f40 f41 f42 f43 f44 f45 f46  : Addr} (X : K.In h) (G : h.Ns mainGlobals mg) (hfa : mg "law" = some (.ref fa))
    {od1 an1 od2 an2 od3 an3 od4 an4 od5 an5 od6 an6 od7 an7 od8 an8 od9 an9 od10 an10 od11 an11 od12 an12 od13 an13 od14 an14 od15 an15 od16 an16 od17 an17 od18 an18 od19 an19 od20 an20 od21 an21 od22 an22 od23 an23 od24 an24 od25 an25 od26 an26 od27 an27 od28 an28 od29 an29 od30 an30 od31 an31 od32 an32 od33 an33 od34 an34 od35 an35 od36 an36 od37 an37 od38 an38 od39 an39 od40 an40 od41 an41 od42 an42 od43 an43 od44 an44 od45 an45 od46 an46 : Option Addr} {sl1 sl2 sl3 sl4 sl5 sl6 sl7 sl8 sl9 sl10 sl11 sl12 sl13 sl14 sl15 sl16 sl17 sl18 sl19 sl20 sl21 sl22 sl23 sl24 sl25 sl26 sl27 sl28 sl29 sl30 sl31 sl32 sl33 sl34 sl35 sl36 sl37 sl38 sl39 sl40 sl41 sl42 sl43 sl44 sl45 sl46 : Array (Option Value)}
    {oc1 kV1 dc1 pm1 cd1 ct1 oc2 kV2 dc2 pm2 cd2 ct2 oc3 kV3 dc3 pm3 cd3 ct3 oc4 kV4 dc4 pm4 cd4 ct4 oc5 kV5 dc5 pm5 cd5 ct5 oc6 kV6 dc6 pm6 cd6 ct6 oc7 kV7 dc7 pm7 cd7 ct7 oc8 kV8 dc8 pm8 cd8 ct8 oc9 kV9 dc9 pm9 cd9 ct9 oc10 kV10 dc10 pm10 cd10 ct10 oc11 kV11 dc11 pm11 cd11 ct11 oc12 kV12 dc12 pm12 cd12 ct12 oc13 kV13 dc13 pm13 cd13 ct13 oc14 kV14 dc14 pm14 cd14 ct14 oc15 kV15 dc15 pm15 cd15 ct15 oc16 kV16 dc16 pm16 cd16 ct16 oc17 kV17 dc17 pm17 cd17 ct17 oc18 kV18 dc18 pm18 cd18 ct18 oc19 kV19 dc19 pm19 cd19 ct19 oc20 kV20 dc20 pm20 cd20 ct20 oc21 kV21 dc21 pm21 cd21 ct21 oc22 kV22 dc22 pm22 cd22 ct22 oc23 kV23 dc23 pm23 cd23 ct23 oc24 kV24 dc24 pm24 cd24 ct24 oc25 kV25 dc25 pm25 cd25 ct25 oc26 kV26 dc26 pm26 cd26 ct26 oc27 kV27 dc27 pm27 cd27 ct27 oc28 kV28 dc28 pm28 cd28 ct28 oc29 kV29 dc29 pm29 cd29 ct29 oc30 kV30 dc30 pm30 cd30 ct30 oc31 kV31 dc31 pm31 cd31 ct31 oc32 kV32 dc32 pm32 cd32 ct32 oc33 kV33 dc33 pm33 cd33 ct33 oc34 kV34 dc34 pm34 cd34 ct34 oc35 kV35 dc35 pm35 cd35 ct35 oc36 kV36 dc36 pm36 cd36 ct36 oc37 kV37 dc37 pm37 cd37 ct37 oc38 kV38 dc38 pm38 cd38 ct38 oc39 kV39 dc39 pm39 cd39 ct39 oc40 kV40 dc40 pm40 cd40 ct40 oc41 kV41 dc41 pm41 cd41 ct41 oc42 kV42 dc42 pm42 cd42 ct42 oc43 kV43 dc43 pm43 cd43 ct43 oc44 kV44 dc44 pm44 cd44 ct44 oc45 kV45 dc45 pm45 cd45 ct45 oc46 kV46 dc46 pm46 cd46 ct46 : Value} {t1 : Tok}
    {aK aR : Addr} {oK oR : Option Addr} {tL tK1 tK2 tK3 tK4 tR1 tR2 tR3 : Tok} {nK nR : Nat} {sK sR : Array (Option Value)}
    (aKn : PySem.W.nsIn K mainGlobals "KINDS" = some (some (.ref aK)))
    (aKl : K.lookup aK = some ⟨.type "tuple", oK, .seq #[.str "first" tK1, .str "between" tK2, .str "last" tK3, .str "level" tK4] nK, sK⟩)
    (aRn : PySem.W.nsIn K mainGlobals "ROW_KINDS" = some (some (.ref aR)))
    (aRl : K.lookup aR = some ⟨.type "tuple", oR, .seq #[.str "first" tR1, .str "between" tR2, .str "last" tR3] nR, sR⟩)
    (aLn : PySem.W.nsIn K mainGlobals "LETTERS" = some (some (.str "abcdefghijklmnopqrstuvwxyz" tL)))
    (a1 : PySem.W.nsIn K mainGlobals "is_letter" = some (some (.ref f1)))
    (l1 : K.lookup f1 = some ⟨oc1, od1, .func (PySem.W.fnOf "is_letter" "is_letter" (defArgs s_is_letter) (defBody s_is_letter) (defScope s_is_letter) .none kV1 dc1 pm1 an1 cd1 ct1), sl1⟩)
    (c1 : PySem.W.codeIn K cd1 "is_letter" = true)
    (k1 : PySem.W.keepIn K (.ref f1) = true)
    (a2 : PySem.W.nsIn K mainGlobals "size_of" = some (some (.ref f2)))
    (l2 : K.lookup f2 = some ⟨oc2, od2, .func (PySem.W.fnOf "size_of" "size_of" (defArgs s_size_of) (defBody s_size_of) (defScope s_size_of) .none kV2 dc2 pm2 an2 cd2 ct2), sl2⟩)
    (c2 : PySem.W.codeIn K cd2 "size_of" = true)
    (k2 : PySem.W.keepIn K (.ref f2) = true)
    (a3 : PySem.W.nsIn K mainGlobals "is_kind" = some (some (.ref f3)))
    (l3 : K.lookup f3 = some ⟨oc3, od3, .func (PySem.W.fnOf "is_kind" "is_kind" (defArgs s_is_kind) (defBody s_is_kind) (defScope s_is_kind) .none kV3 dc3 pm3 an3 cd3 ct3), sl3⟩)
    (c3 : PySem.W.codeIn K cd3 "is_kind" = true)
    (k3 : PySem.W.keepIn K (.ref f3) = true)
    (a4 : PySem.W.nsIn K mainGlobals "ordered_steps" = some (some (.ref f4)))
    (l4 : K.lookup f4 = some ⟨oc4, od4, .func (PySem.W.fnOf "ordered_steps" "ordered_steps" (defArgs s_ordered_steps) (defBody s_ordered_steps) (defScope s_ordered_steps) .none kV4 dc4 pm4 an4 cd4 ct4), sl4⟩)
    (c4 : PySem.W.codeIn K cd4 "ordered_steps" = true)
    (k4 : PySem.W.keepIn K (.ref f4) = true)
    (a5 : PySem.W.nsIn K mainGlobals "deep_steps" = some (some (.ref f5)))
    (l5 : K.lookup f5 = some ⟨oc5, od5, .func (PySem.W.fnOf "deep_steps" "deep_steps" (defArgs s_deep_steps) (defBody s_deep_steps) (defScope s_deep_steps) .none kV5 dc5 pm5 an5 cd5 ct5), sl5⟩)
    (c5 : PySem.W.codeIn K cd5 "deep_steps" = true)
    (k5 : PySem.W.keepIn K (.ref f5) = true)
    (a6 : PySem.W.nsIn K mainGlobals "walk" = some (some (.ref f6)))
    (l6 : K.lookup f6 = some ⟨oc6, od6, .func (PySem.W.fnOf "walk" "walk" (defArgs s_walk) (defBody s_walk) (defScope s_walk) .none kV6 dc6 pm6 an6 cd6 ct6), sl6⟩)
    (c6 : PySem.W.codeIn K cd6 "walk" = true)
    (k6 : PySem.W.keepIn K (.ref f6) = true)
    (a7 : PySem.W.nsIn K mainGlobals "walks" = some (some (.ref f7)))
    (l7 : K.lookup f7 = some ⟨oc7, od7, .func (PySem.W.fnOf "walks" "walks" (defArgs s_walks) (defBody s_walks) (defScope s_walks) .none kV7 dc7 pm7 an7 cd7 ct7), sl7⟩)
    (c7 : PySem.W.codeIn K cd7 "walks" = true)
    (k7 : PySem.W.keepIn K (.ref f7) = true)
    (a8 : PySem.W.nsIn K mainGlobals "is_row" = some (some (.ref f8)))
    (l8 : K.lookup f8 = some ⟨oc8, od8, .func (PySem.W.fnOf "is_row" "is_row" (defArgs s_is_row) (defBody s_is_row) (defScope s_is_row) .none kV8 dc8 pm8 an8 cd8 ct8), sl8⟩)
    (c8 : PySem.W.codeIn K cd8 "is_row" = true)
    (k8 : PySem.W.keepIn K (.ref f8) = true)
    (a9 : PySem.W.nsIn K mainGlobals "three_rows" = some (some (.ref f9)))
    (l9 : K.lookup f9 = some ⟨oc9, od9, .func (PySem.W.fnOf "three_rows" "three_rows" (defArgs s_three_rows) (defBody s_three_rows) (defScope s_three_rows) .none kV9 dc9 pm9 an9 cd9 ct9), sl9⟩)
    (c9 : PySem.W.codeIn K cd9 "three_rows" = true)
    (k9 : PySem.W.keepIn K (.ref f9) = true)
    (a10 : PySem.W.nsIn K mainGlobals "tree_fits" = some (some (.ref f10)))
    (l10 : K.lookup f10 = some ⟨oc10, od10, .func (PySem.W.fnOf "tree_fits" "tree_fits" (defArgs s_tree_fits) (defBody s_tree_fits) (defScope s_tree_fits) .none kV10 dc10 pm10 an10 cd10 ct10), sl10⟩)
    (c10 : PySem.W.codeIn K cd10 "tree_fits" = true)
    (k10 : PySem.W.keepIn K (.ref f10) = true)
    (a11 : PySem.W.nsIn K mainGlobals "common_letters" = some (some (.ref f11)))
    (l11 : K.lookup f11 = some ⟨oc11, od11, .func (PySem.W.fnOf "common_letters" "common_letters" (defArgs s_common_letters) (defBody s_common_letters) (defScope s_common_letters) .none kV11 dc11 pm11 an11 cd11 ct11), sl11⟩)
    (c11 : PySem.W.codeIn K cd11 "common_letters" = true)
    (k11 : PySem.W.keepIn K (.ref f11) = true)
    (a12 : PySem.W.nsIn K mainGlobals "allowed_splits" = some (some (.ref f12)))
    (l12 : K.lookup f12 = some ⟨oc12, od12, .func (PySem.W.fnOf "allowed_splits" "allowed_splits" (defArgs s_allowed_splits) (defBody s_allowed_splits) (defScope s_allowed_splits) .none kV12 dc12 pm12 an12 cd12 ct12), sl12⟩)
    (c12 : PySem.W.codeIn K cd12 "allowed_splits" = true)
    (k12 : PySem.W.keepIn K (.ref f12) = true)
    (a13 : PySem.W.nsIn K mainGlobals "add_counts" = some (some (.ref f13)))
    (l13 : K.lookup f13 = some ⟨oc13, od13, .func (PySem.W.fnOf "add_counts" "add_counts" (defArgs s_add_counts) (defBody s_add_counts) (defScope s_add_counts) .none kV13 dc13 pm13 an13 cd13 ct13), sl13⟩)
    (c13 : PySem.W.codeIn K cd13 "add_counts" = true)
    (k13 : PySem.W.keepIn K (.ref f13) = true)
    (a14 : PySem.W.nsIn K mainGlobals "whole_of" = some (some (.ref f14)))
    (l14 : K.lookup f14 = some ⟨oc14, od14, .func (PySem.W.fnOf "whole_of" "whole_of" (defArgs s_whole_of) (defBody s_whole_of) (defScope s_whole_of) .none kV14 dc14 pm14 an14 cd14 ct14), sl14⟩)
    (c14 : PySem.W.codeIn K cd14 "whole_of" = true)
    (k14 : PySem.W.keepIn K (.ref f14) = true)
    (a15 : PySem.W.nsIn K mainGlobals "counts_of" = some (some (.ref f15)))
    (l15 : K.lookup f15 = some ⟨oc15, od15, .func (PySem.W.fnOf "counts_of" "counts_of" (defArgs s_counts_of) (defBody s_counts_of) (defScope s_counts_of) .none kV15 dc15 pm15 an15 cd15 ct15), sl15⟩)
    (c15 : PySem.W.codeIn K cd15 "counts_of" = true)
    (k15 : PySem.W.keepIn K (.ref f15) = true)
    (a16 : PySem.W.nsIn K mainGlobals "count_trees" = some (some (.ref f16)))
    (l16 : K.lookup f16 = some ⟨oc16, od16, .func (PySem.W.fnOf "count_trees" "count_trees" (defArgs s_count_trees) (defBody s_count_trees) (defScope s_count_trees) .none kV16 dc16 pm16 an16 cd16 ct16), sl16⟩)
    (c16 : PySem.W.codeIn K cd16 "count_trees" = true)
    (k16 : PySem.W.keepIn K (.ref f16) = true)
    (a17 : PySem.W.nsIn K mainGlobals "live_splits" = some (some (.ref f17)))
    (l17 : K.lookup f17 = some ⟨oc17, od17, .func (PySem.W.fnOf "live_splits" "live_splits" (defArgs s_live_splits) (defBody s_live_splits) (defScope s_live_splits) .none kV17 dc17 pm17 an17 cd17 ct17), sl17⟩)
    (c17 : PySem.W.codeIn K cd17 "live_splits" = true)
    (k17 : PySem.W.keepIn K (.ref f17) = true)
    (a18 : PySem.W.nsIn K mainGlobals "choices" = some (some (.ref f18)))
    (l18 : K.lookup f18 = some ⟨oc18, od18, .func (PySem.W.fnOf "choices" "choices" (defArgs s_choices) (defBody s_choices) (defScope s_choices) .none kV18 dc18 pm18 an18 cd18 ct18), sl18⟩)
    (c18 : PySem.W.codeIn K cd18 "choices" = true)
    (k18 : PySem.W.keepIn K (.ref f18) = true)
    (a19 : PySem.W.nsIn K mainGlobals "numbered_part" = some (some (.ref f19)))
    (l19 : K.lookup f19 = some ⟨oc19, od19, .func (PySem.W.fnOf "numbered_part" "numbered_part" (defArgs s_numbered_part) (defBody s_numbered_part) (defScope s_numbered_part) .none kV19 dc19 pm19 an19 cd19 ct19), sl19⟩)
    (c19 : PySem.W.codeIn K cd19 "numbered_part" = true)
    (k19 : PySem.W.keepIn K (.ref f19) = true)
    (a20 : PySem.W.nsIn K mainGlobals "is_whole_number" = some (some (.ref f20)))
    (l20 : K.lookup f20 = some ⟨oc20, od20, .func (PySem.W.fnOf "is_whole_number" "is_whole_number" (defArgs s_is_whole_number) (defBody s_is_whole_number) (defScope s_is_whole_number) .none kV20 dc20 pm20 an20 cd20 ct20), sl20⟩)
    (c20 : PySem.W.codeIn K cd20 "is_whole_number" = true)
    (k20 : PySem.W.keepIn K (.ref f20) = true)
    (a21 : PySem.W.nsIn K mainGlobals "is_index" = some (some (.ref f21)))
    (l21 : K.lookup f21 = some ⟨oc21, od21, .func (PySem.W.fnOf "is_index" "is_index" (defArgs s_is_index) (defBody s_is_index) (defScope s_is_index) .none kV21 dc21 pm21 an21 cd21 ct21), sl21⟩)
    (c21 : PySem.W.codeIn K cd21 "is_index" = true)
    (k21 : PySem.W.keepIn K (.ref f21) = true)
    (a22 : PySem.W.nsIn K mainGlobals "tree_at" = some (some (.ref f22)))
    (l22 : K.lookup f22 = some ⟨oc22, od22, .func (PySem.W.fnOf "tree_at" "tree_at" (defArgs s_tree_at) (defBody s_tree_at) (defScope s_tree_at) .none kV22 dc22 pm22 an22 cd22 ct22), sl22⟩)
    (c22 : PySem.W.codeIn K cd22 "tree_at" = true)
    (k22 : PySem.W.keepIn K (.ref f22) = true)
    (a23 : PySem.W.nsIn K mainGlobals "part_index" = some (some (.ref f23)))
    (l23 : K.lookup f23 = some ⟨oc23, od23, .func (PySem.W.fnOf "part_index" "part_index" (defArgs s_part_index) (defBody s_part_index) (defScope s_part_index) .none kV23 dc23 pm23 an23 cd23 ct23), sl23⟩)
    (c23 : PySem.W.codeIn K cd23 "part_index" = true)
    (k23 : PySem.W.keepIn K (.ref f23) = true)
    (a24 : PySem.W.nsIn K mainGlobals "is_node" = some (some (.ref f24)))
    (l24 : K.lookup f24 = some ⟨oc24, od24, .func (PySem.W.fnOf "is_node" "is_node" (defArgs s_is_node) (defBody s_is_node) (defScope s_is_node) .none kV24 dc24 pm24 an24 cd24 ct24), sl24⟩)
    (c24 : PySem.W.codeIn K cd24 "is_node" = true)
    (k24 : PySem.W.keepIn K (.ref f24) = true)
    (a25 : PySem.W.nsIn K mainGlobals "is_tree" = some (some (.ref f25)))
    (l25 : K.lookup f25 = some ⟨oc25, od25, .func (PySem.W.fnOf "is_tree" "is_tree" (defArgs s_is_tree) (defBody s_is_tree) (defScope s_is_tree) .none kV25 dc25 pm25 an25 cd25 ct25), sl25⟩)
    (c25 : PySem.W.codeIn K cd25 "is_tree" = true)
    (k25 : PySem.W.keepIn K (.ref f25) = true)
    (a26 : PySem.W.nsIn K mainGlobals "tree_index" = some (some (.ref f26)))
    (l26 : K.lookup f26 = some ⟨oc26, od26, .func (PySem.W.fnOf "tree_index" "tree_index" (defArgs s_tree_index) (defBody s_tree_index) (defScope s_tree_index) .none kV26 dc26 pm26 an26 cd26 ct26), sl26⟩)
    (c26 : PySem.W.codeIn K cd26 "tree_index" = true)
    (k26 : PySem.W.keepIn K (.ref f26) = true)
    (a27 : PySem.W.nsIn K mainGlobals "_law_deck" = some (some (.ref f27)))
    (l27 : K.lookup f27 = some ⟨oc27, od27, .func (PySem.W.fnOf "_law_deck" "_law_deck" (defArgs s__law_deck) (defBody s__law_deck) (defScope s__law_deck) .none kV27 dc27 pm27 an27 cd27 ct27), sl27⟩)
    (c27 : PySem.W.codeIn K cd27 "_law_deck" = true)
    (k27 : PySem.W.keepIn K (.ref f27) = true)
    (a28 : PySem.W.nsIn K mainGlobals "_law_draw" = some (some (.ref f28)))
    (l28 : K.lookup f28 = some ⟨oc28, od28, .func (PySem.W.fnOf "_law_draw" "_law_draw" (defArgs s__law_draw) (defBody s__law_draw) (defScope s__law_draw) .none kV28 dc28 pm28 an28 cd28 ct28), sl28⟩)
    (c28 : PySem.W.codeIn K cd28 "_law_draw" = true)
    (k28 : PySem.W.keepIn K (.ref f28) = true)
    (a29 : PySem.W.nsIn K mainGlobals "_law_mixed" = some (some (.ref f29)))
    (l29 : K.lookup f29 = some ⟨oc29, od29, .func (PySem.W.fnOf "_law_mixed" "_law_mixed" (defArgs s__law_mixed) (defBody s__law_mixed) (defScope s__law_mixed) .none kV29 dc29 pm29 an29 cd29 ct29), sl29⟩)
    (c29 : PySem.W.codeIn K cd29 "_law_mixed" = true)
    (k29 : PySem.W.keepIn K (.ref f29) = true)
    (a30 : PySem.W.nsIn K mainGlobals "_law_same" = some (some (.ref f30)))
    (l30 : K.lookup f30 = some ⟨oc30, od30, .func (PySem.W.fnOf "_law_same" "_law_same" (defArgs s__law_same) (defBody s__law_same) (defScope s__law_same) .none kV30 dc30 pm30 an30 cd30 ct30), sl30⟩)
    (c30 : PySem.W.codeIn K cd30 "_law_same" = true)
    (k30 : PySem.W.keepIn K (.ref f30) = true)
    (a31 : PySem.W.nsIn K mainGlobals "_law_size" = some (some (.ref f31)))
    (l31 : K.lookup f31 = some ⟨oc31, od31, .func (PySem.W.fnOf "_law_size" "_law_size" (defArgs s__law_size) (defBody s__law_size) (defScope s__law_size) .none kV31 dc31 pm31 an31 cd31 ct31), sl31⟩)
    (c31 : PySem.W.codeIn K cd31 "_law_size" = true)
    (k31 : PySem.W.keepIn K (.ref f31) = true)
    (a32 : PySem.W.nsIn K mainGlobals "_law_shapes" = some (some (.ref f32)))
    (l32 : K.lookup f32 = some ⟨oc32, od32, .func (PySem.W.fnOf "_law_shapes" "_law_shapes" (defArgs s__law_shapes) (defBody s__law_shapes) (defScope s__law_shapes) .none kV32 dc32 pm32 an32 cd32 ct32), sl32⟩)
    (c32 : PySem.W.codeIn K cd32 "_law_shapes" = true)
    (k32 : PySem.W.keepIn K (.ref f32) = true)
    (a33 : PySem.W.nsIn K mainGlobals "_law_spots" = some (some (.ref f33)))
    (l33 : K.lookup f33 = some ⟨oc33, od33, .func (PySem.W.fnOf "_law_spots" "_law_spots" (defArgs s__law_spots) (defBody s__law_spots) (defScope s__law_spots) .none kV33 dc33 pm33 an33 cd33 ct33), sl33⟩)
    (c33 : PySem.W.codeIn K cd33 "_law_spots" = true)
    (k33 : PySem.W.keepIn K (.ref f33) = true)
    (a34 : PySem.W.nsIn K mainGlobals "_law_letter" = some (some (.ref f34)))
    (l34 : K.lookup f34 = some ⟨oc34, od34, .func (PySem.W.fnOf "_law_letter" "_law_letter" (defArgs s__law_letter) (defBody s__law_letter) (defScope s__law_letter) .none kV34 dc34 pm34 an34 cd34 ct34), sl34⟩)
    (c34 : PySem.W.codeIn K cd34 "_law_letter" = true)
    (k34 : PySem.W.keepIn K (.ref f34) = true)
    (a35 : PySem.W.nsIn K mainGlobals "_law_labelled" = some (some (.ref f35)))
    (l35 : K.lookup f35 = some ⟨oc35, od35, .func (PySem.W.fnOf "_law_labelled" "_law_labelled" (defArgs s__law_labelled) (defBody s__law_labelled) (defScope s__law_labelled) .none kV35 dc35 pm35 an35 cd35 ct35), sl35⟩)
    (c35 : PySem.W.codeIn K cd35 "_law_labelled" = true)
    (k35 : PySem.W.keepIn K (.ref f35) = true)
    (a36 : PySem.W.nsIn K mainGlobals "_law_shape" = some (some (.ref f36)))
    (l36 : K.lookup f36 = some ⟨oc36, od36, .func (PySem.W.fnOf "_law_shape" "_law_shape" (defArgs s__law_shape) (defBody s__law_shape) (defScope s__law_shape) .none kV36 dc36 pm36 an36 cd36 ct36), sl36⟩)
    (c36 : PySem.W.codeIn K cd36 "_law_shape" = true)
    (k36 : PySem.W.keepIn K (.ref f36) = true)
    (a37 : PySem.W.nsIn K mainGlobals "_law_tree" = some (some (.ref f37)))
    (l37 : K.lookup f37 = some ⟨oc37, od37, .func (PySem.W.fnOf "_law_tree" "_law_tree" (defArgs s__law_tree) (defBody s__law_tree) (defScope s__law_tree) .none kV37 dc37 pm37 an37 cd37 ct37), sl37⟩)
    (c37 : PySem.W.codeIn K cd37 "_law_tree" = true)
    (k37 : PySem.W.keepIn K (.ref f37) = true)
    (a38 : PySem.W.nsIn K mainGlobals "_law_walks" = some (some (.ref f38)))
    (l38 : K.lookup f38 = some ⟨oc38, od38, .func (PySem.W.fnOf "_law_walks" "_law_walks" (defArgs s__law_walks) (defBody s__law_walks) (defScope s__law_walks) .none kV38 dc38 pm38 an38 cd38 ct38), sl38⟩)
    (c38 : PySem.W.codeIn K cd38 "_law_walks" = true)
    (k38 : PySem.W.keepIn K (.ref f38) = true)
    (a39 : PySem.W.nsIn K mainGlobals "_law_hidden" = some (some (.ref f39)))
    (l39 : K.lookup f39 = some ⟨oc39, od39, .func (PySem.W.fnOf "_law_hidden" "_law_hidden" (defArgs s__law_hidden) (defBody s__law_hidden) (defScope s__law_hidden) .none kV39 dc39 pm39 an39 cd39 ct39), sl39⟩)
    (c39 : PySem.W.codeIn K cd39 "_law_hidden" = true)
    (k39 : PySem.W.keepIn K (.ref f39) = true)
    (a40 : PySem.W.nsIn K mainGlobals "_law_rows" = some (some (.ref f40)))
    (l40 : K.lookup f40 = some ⟨oc40, od40, .func (PySem.W.fnOf "_law_rows" "_law_rows" (defArgs s__law_rows) (defBody s__law_rows) (defScope s__law_rows) .none kV40 dc40 pm40 an40 cd40 ct40), sl40⟩)
    (c40 : PySem.W.codeIn K cd40 "_law_rows" = true)
    (k40 : PySem.W.keepIn K (.ref f40) = true)
    (a41 : PySem.W.nsIn K mainGlobals "_law_power" = some (some (.ref f41)))
    (l41 : K.lookup f41 = some ⟨oc41, od41, .func (PySem.W.fnOf "_law_power" "_law_power" (defArgs s__law_power) (defBody s__law_power) (defScope s__law_power) .none kV41 dc41 pm41 an41 cd41 ct41), sl41⟩)
    (c41 : PySem.W.codeIn K cd41 "_law_power" = true)
    (k41 : PySem.W.keepIn K (.ref f41) = true)
    (a42 : PySem.W.nsIn K mainGlobals "_law_number" = some (some (.ref f42)))
    (l42 : K.lookup f42 = some ⟨oc42, od42, .func (PySem.W.fnOf "_law_number" "_law_number" (defArgs s__law_number) (defBody s__law_number) (defScope s__law_number) .none kV42 dc42 pm42 an42 cd42 ct42), sl42⟩)
    (c42 : PySem.W.codeIn K cd42 "_law_number" = true)
    (k42 : PySem.W.keepIn K (.ref f42) = true)
    (a43 : PySem.W.nsIn K mainGlobals "_law_key" = some (some (.ref f43)))
    (l43 : K.lookup f43 = some ⟨oc43, od43, .func (PySem.W.fnOf "_law_key" "_law_key" (defArgs s__law_key) (defBody s__law_key) (defScope s__law_key) .none kV43 dc43 pm43 an43 cd43 ct43), sl43⟩)
    (c43 : PySem.W.codeIn K cd43 "_law_key" = true)
    (k43 : PySem.W.keepIn K (.ref f43) = true)
    (a44 : PySem.W.nsIn K mainGlobals "_law_all" = some (some (.ref f44)))
    (l44 : K.lookup f44 = some ⟨oc44, od44, .func (PySem.W.fnOf "_law_all" "_law_all" (defArgs s__law_all) (defBody s__law_all) (defScope s__law_all) .none kV44 dc44 pm44 an44 cd44 ct44), sl44⟩)
    (c44 : PySem.W.codeIn K cd44 "_law_all" = true)
    (k44 : PySem.W.keepIn K (.ref f44) = true)
    (a45 : PySem.W.nsIn K mainGlobals "_law_left_out_right" = some (some (.ref f45)))
    (l45 : K.lookup f45 = some ⟨oc45, od45, .func (PySem.W.fnOf "_law_left_out_right" "_law_left_out_right" (defArgs s__law_left_out_right) (defBody s__law_left_out_right) (defScope s__law_left_out_right) .none kV45 dc45 pm45 an45 cd45 ct45), sl45⟩)
    (c45 : PySem.W.codeIn K cd45 "_law_left_out_right" = true)
    (k45 : PySem.W.keepIn K (.ref f45) = true)
    (a46 : PySem.W.nsIn K mainGlobals "law" = some (some (.ref f46)))
    (l46 : K.lookup f46 = some ⟨oc46, od46, .func (PySem.W.fnOf "law" "law" (defArgs s_law) (defBody s_law) (defScope s_law) .none kV46 dc46 pm46 an46 cd46 ct46), sl46⟩)
    (c46 : PySem.W.codeIn K cd46 "law" = true)
    (k46 : PySem.W.keepIn K (.ref f46) = true)
    (z1 : PySem.W.nsIn K mainGlobals "zip" = some none)
    (z2 : PySem.W.nsIn K mainGlobals "all" = some none)
    (z3 : PySem.W.nsIn K mainGlobals "repr" = some none)
    (z4 : PySem.W.nsIn K mainGlobals "sum" = some none)
    (z5 : PySem.W.nsIn K mainGlobals "len" = some none)
    (z6 : PySem.W.nsIn K mainGlobals "isinstance" = some none)
    (z7 : PySem.W.nsIn K mainGlobals "list" = some none)
    (z8 : PySem.W.nsIn K mainGlobals "tuple" = some none)
    (z9 : PySem.W.nsIn K mainGlobals "str" = some none)
    (z10 : PySem.W.nsIn K mainGlobals "int" = some none)
    (z11 : PySem.W.nsIn K mainGlobals "bool" = some none)
    (z12 : PySem.W.nsIn K mainGlobals "dict" = some none)
    (z13 : PySem.W.nsIn K mainGlobals "range" = some none)
    (z14 : PySem.W.nsIn K mainGlobals "sorted" = some none)
    (z15 : PySem.W.nsIn K mainGlobals "abs" = some none)
    (z16 : PySem.W.nsIn K mainGlobals "min" = some none)
    (z17 : PySem.W.nsIn K mainGlobals "max" = some none)
    (z18 : PySem.W.nsIn K mainGlobals "set" = some none)
    (z19 : PySem.W.nsIn K mainGlobals "divmod" = some none)
    (v1 : PySem.W.nsIn K mainGlobals "MAX_NODES" = some (some (.int 12 t1)))
    : ∀ (base : Heap) (H : Hp) (s : Shared) (a : Addr) (ns : List Int), K.In base → base.Ns mainGlobals mg → Env0 l.prog w K mg base callerA [] s H → SqL K H a (ns.map V.int) → ns.length ≤ 63 →
      codeAny (model l.prog w) callerA (.call (.ref fa) ⟨[.ref a], []⟩) (CR CX0 [] l.prog w H s (fun v _ => v = .bl true) fun _ _ _ => False) s := by
  intro base H s a ns _ _ en hS hn
  have e := hfa.symm.trans (PySem.W.mg_of X G a46)
  cases e
  have F1 := fun_mk (st := s_is_letter) l1 c1 k1
  have g1 := PySem.W.mg_of X G a1
  have F2 := fun_mk (st := s_size_of) l2 c2 k2
  have g2 := PySem.W.mg_of X G a2
  have F3 := fun_mk (st := s_is_kind) l3 c3 k3
  have g3 := PySem.W.mg_of X G a3
  have F4 := fun_mk (st := s_ordered_steps) l4 c4 k4
  have g4 := PySem.W.mg_of X G a4
  have F5 := fun_mk (st := s_deep_steps) l5 c5 k5
  have g5 := PySem.W.mg_of X G a5
  have F6 := fun_mk (st := s_walk) l6 c6 k6
  have g6 := PySem.W.mg_of X G a6
  have F7 := fun_mk (st := s_walks) l7 c7 k7
  have g7 := PySem.W.mg_of X G a7
  have F8 := fun_mk (st := s_is_row) l8 c8 k8
  have g8 := PySem.W.mg_of X G a8
  have F9 := fun_mk (st := s_three_rows) l9 c9 k9
  have g9 := PySem.W.mg_of X G a9
  have F10 := fun_mk (st := s_tree_fits) l10 c10 k10
  have g10 := PySem.W.mg_of X G a10
  have F11 := fun_mk (st := s_common_letters) l11 c11 k11
  have g11 := PySem.W.mg_of X G a11
  have F12 := fun_mk (st := s_allowed_splits) l12 c12 k12
  have g12 := PySem.W.mg_of X G a12
  have F13 := fun_mk (st := s_add_counts) l13 c13 k13
  have g13 := PySem.W.mg_of X G a13
  have F14 := fun_mk (st := s_whole_of) l14 c14 k14
  have g14 := PySem.W.mg_of X G a14
  have F15 := fun_mk (st := s_counts_of) l15 c15 k15
  have g15 := PySem.W.mg_of X G a15
  have F16 := fun_mk (st := s_count_trees) l16 c16 k16
  have g16 := PySem.W.mg_of X G a16
  have F17 := fun_mk (st := s_live_splits) l17 c17 k17
  have g17 := PySem.W.mg_of X G a17
  have F18 := fun_mk (st := s_choices) l18 c18 k18
  have g18 := PySem.W.mg_of X G a18
  have F19 := fun_mk (st := s_numbered_part) l19 c19 k19
  have g19 := PySem.W.mg_of X G a19
  have F20 := fun_mk (st := s_is_whole_number) l20 c20 k20
  have g20 := PySem.W.mg_of X G a20
  have F21 := fun_mk (st := s_is_index) l21 c21 k21
  have g21 := PySem.W.mg_of X G a21
  have F22 := fun_mk (st := s_tree_at) l22 c22 k22
  have g22 := PySem.W.mg_of X G a22
  have F23 := fun_mk (st := s_part_index) l23 c23 k23
  have g23 := PySem.W.mg_of X G a23
  have F24 := fun_mk (st := s_is_node) l24 c24 k24
  have g24 := PySem.W.mg_of X G a24
  have F25 := fun_mk (st := s_is_tree) l25 c25 k25
  have g25 := PySem.W.mg_of X G a25
  have F26 := fun_mk (st := s_tree_index) l26 c26 k26
  have g26 := PySem.W.mg_of X G a26
  have F27 := fun_mk (st := s__law_deck) l27 c27 k27
  have g27 := PySem.W.mg_of X G a27
  have F28 := fun_mk (st := s__law_draw) l28 c28 k28
  have g28 := PySem.W.mg_of X G a28
  have F29 := fun_mk (st := s__law_mixed) l29 c29 k29
  have g29 := PySem.W.mg_of X G a29
  have F30 := fun_mk (st := s__law_same) l30 c30 k30
  have g30 := PySem.W.mg_of X G a30
  have F31 := fun_mk (st := s__law_size) l31 c31 k31
  have g31 := PySem.W.mg_of X G a31
  have F32 := fun_mk (st := s__law_shapes) l32 c32 k32
  have g32 := PySem.W.mg_of X G a32
  have F33 := fun_mk (st := s__law_spots) l33 c33 k33
  have g33 := PySem.W.mg_of X G a33
  have F34 := fun_mk (st := s__law_letter) l34 c34 k34
  have g34 := PySem.W.mg_of X G a34
  have F35 := fun_mk (st := s__law_labelled) l35 c35 k35
  have g35 := PySem.W.mg_of X G a35
  have F36 := fun_mk (st := s__law_shape) l36 c36 k36
  have g36 := PySem.W.mg_of X G a36
  have F37 := fun_mk (st := s__law_tree) l37 c37 k37
  have g37 := PySem.W.mg_of X G a37
  have F38 := fun_mk (st := s__law_walks) l38 c38 k38
  have g38 := PySem.W.mg_of X G a38
  have F39 := fun_mk (st := s__law_hidden) l39 c39 k39
  have g39 := PySem.W.mg_of X G a39
  have F40 := fun_mk (st := s__law_rows) l40 c40 k40
  have g40 := PySem.W.mg_of X G a40
  have F41 := fun_mk (st := s__law_power) l41 c41 k41
  have g41 := PySem.W.mg_of X G a41
  have F42 := fun_mk (st := s__law_number) l42 c42 k42
  have g42 := PySem.W.mg_of X G a42
  have F43 := fun_mk (st := s__law_key) l43 c43 k43
  have g43 := PySem.W.mg_of X G a43
  have F44 := fun_mk (st := s__law_all) l44 c44 k44
  have g44 := PySem.W.mg_of X G a44
  have F45 := fun_mk (st := s__law_left_out_right) l45 c45 k45
  have g45 := PySem.W.mg_of X G a45
  have F46 := fun_mk (st := s_law) l46 c46 k46
  have m_zip := PySem.W.mg_none_of X G z1
  have m_all := PySem.W.mg_none_of X G z2
  have m_repr := PySem.W.mg_none_of X G z3
  have m_sum := PySem.W.mg_none_of X G z4
  have m_len := PySem.W.mg_none_of X G z5
  have m_isinstance := PySem.W.mg_none_of X G z6
  have m_list := PySem.W.mg_none_of X G z7
  have m_tuple := PySem.W.mg_none_of X G z8
  have m_str := PySem.W.mg_none_of X G z9
  have m_int := PySem.W.mg_none_of X G z10
  have m_bool := PySem.W.mg_none_of X G z11
  have m_dict := PySem.W.mg_none_of X G z12
  have m_range := PySem.W.mg_none_of X G z13
  have m_sorted := PySem.W.mg_none_of X G z14
  have m_abs := PySem.W.mg_none_of X G z15
  have m_min := PySem.W.mg_none_of X G z16
  have m_max := PySem.W.mg_none_of X G z17
  have m_set := PySem.W.mg_none_of X G z18
  have m_divmod := PySem.W.mg_none_of X G z19
  have m1 := PySem.W.mg_of X G v1
  have b1 := F1.binds (ps := ["value"]) fun _ _ _ _ _ _ us hl => match us, hl with | [_], _ => rfl
  have b2 := F2.binds (ps := ["tree"]) fun _ _ _ _ _ _ us hl => match us, hl with | [_], _ => rfl
  have b3 := F3.binds (ps := ["value"]) fun _ _ _ _ _ _ us hl => match us, hl with | [_], _ => rfl
  have b4 := F4.binds (ps := ["tree", "kind"]) fun _ _ _ _ _ _ us hl => match us, hl with | [_, _], _ => rfl
  have b5 := F5.binds (ps := ["tree", "kind", "path"]) fun _ _ _ _ _ _ us hl => match us, hl with | [_, _, _], _ => rfl
  have b6 := F6.binds (ps := ["tree", "kind"]) fun _ _ _ _ _ _ us hl => match us, hl with | [_, _], _ => rfl
  have b8 := F8.binds (ps := ["value"]) fun _ _ _ _ _ _ us hl => match us, hl with | [_], _ => rfl
  have b9 := F9.binds (ps := ["rows"]) fun _ _ _ _ _ _ us hl => match us, hl with | [_], _ => rfl
  have b10 := F10.binds (ps := ["tree", "given"]) fun _ _ _ _ _ _ us hl => match us, hl with | [_, _], _ => rfl
  have b11 := F11.binds (ps := ["signs"]) fun _ _ _ _ _ _ us hl => match us, hl with | [_], _ => rfl
  have b12 := F12.binds (ps := ["given", "stretch"]) fun _ _ _ _ _ _ us hl => match us, hl with | [_, _], _ => rfl
  have b13 := F13.binds (ps := ["given", "stretch", "counts"]) fun _ _ _ _ _ _ us hl => match us, hl with | [_, _, _], _ => rfl
  have b14 := F14.binds (ps := ["given"]) fun _ _ _ _ _ _ us hl => match us, hl with | [_], _ => rfl
  have b15 := F15.binds (ps := ["given"]) fun _ _ _ _ _ _ us hl => match us, hl with | [_], _ => rfl
  have b17 := F17.binds (ps := ["given", "counts", "stretch"]) fun _ _ _ _ _ _ us hl => match us, hl with | [_, _, _], _ => rfl
  have b18 := F18.binds (ps := ["given", "counts", "stretch"]) fun _ _ _ _ _ _ us hl => match us, hl with | [_, _, _], _ => rfl
  have b19 := F19.binds (ps := ["given", "counts", "stretch", "index"]) fun _ _ _ _ _ _ us hl => match us, hl with | [_, _, _, _], _ => rfl
  have b20 := F20.binds (ps := ["value"]) fun _ _ _ _ _ _ us hl => match us, hl with | [_], _ => rfl
  have b21 := F21.binds (ps := ["value", "many"]) fun _ _ _ _ _ _ us hl => match us, hl with | [_, _], _ => rfl
  have b23 := F23.binds (ps := ["given", "counts", "stretch", "tree"]) fun _ _ _ _ _ _ us hl => match us, hl with | [_, _, _, _], _ => rfl
  have b24 := F24.binds (ps := ["value"]) fun _ _ _ _ _ _ us hl => match us, hl with | [_], _ => rfl
  have b25 := F25.binds (ps := ["value"]) fun _ _ _ _ _ _ us hl => match us, hl with | [_], _ => rfl
  have b27 := F27.binds (ps := ["_law_script"]) fun _ _ _ _ _ _ us hl => match us, hl with | [_], _ => rfl
  have b28 := F28.binds (ps := ["_law_deck_here", "_law_many"]) fun _ _ _ _ _ _ us hl => match us, hl with | [_, _], _ => rfl
  have b29 := F29.binds (ps := ["_law_deck_here", "_law_row"]) fun _ _ _ _ _ _ us hl => match us, hl with | [_, _], _ => rfl
  have b30 := F30.binds (ps := ["_law_found", "_law_due"]) fun _ _ _ _ _ _ us hl => match us, hl with | [_, _], _ => rfl
  have b31 := F31.binds (ps := ["_law_tree_here"]) fun _ _ _ _ _ _ us hl => match us, hl with | [_], _ => rfl
  have b32 := F32.binds (ps := ["_law_many"]) fun _ _ _ _ _ _ us hl => match us, hl with | [_], _ => rfl
  have b33 := F33.binds (ps := ["_law_shape_here", "_law_a", "_law_b", "_law_c"]) fun _ _ _ _ _ _ us hl => match us, hl with | [_, _, _, _], _ => rfl
  have b34 := F34.binds (ps := ["_law_rows_here", "_law_spot"]) fun _ _ _ _ _ _ us hl => match us, hl with | [_, _], _ => rfl
  have b35 := F35.binds (ps := ["_law_shape_here", "_law_letters"]) fun _ _ _ _ _ _ us hl => match us, hl with | [_, _], _ => rfl
  have b36 := F36.binds (ps := ["_law_deck_here", "_law_many", "_law_way"]) fun _ _ _ _ _ _ us hl => match us, hl with | [_, _, _], _ => rfl
  have b37 := F37.binds (ps := ["_law_deck_here", "_law_most"]) fun _ _ _ _ _ _ us hl => match us, hl with | [_, _], _ => rfl
  have b38 := F38.binds (ps := ["_law_tree_here"]) fun _ _ _ _ _ _ us hl => match us, hl with | [_], _ => rfl
  have b39 := F39.binds (ps := ["_law_deck_here", "_law_row"]) fun _ _ _ _ _ _ us hl => match us, hl with | [_, _], _ => rfl
  have b40 := F40.binds (ps := ["_law_deck_here", "_law_most"]) fun _ _ _ _ _ _ us hl => match us, hl with | [_, _], _ => rfl
  have b41 := F41.binds (ps := ["_law_many"]) fun _ _ _ _ _ _ us hl => match us, hl with | [_], _ => rfl
  have b42 := F42.binds (ps := ["_law_rows_here"]) fun _ _ _ _ _ _ us hl => match us, hl with | [_], _ => rfl
  have b43 := F43.binds (ps := ["_law_tree_here"]) fun _ _ _ _ _ _ us hl => match us, hl with | [_], _ => rfl
  have b44 := F44.binds (ps := ["_law_rows_here"]) fun _ _ _ _ _ _ us hl => match us, hl with | [_], _ => rfl
  have b45 := F45.binds (ps := ["_law_a", "_law_b", "_law_c", "_law_due"]) fun _ _ _ _ _ _ us hl => match us, hl with | [_, _, _, _], _ => rfl
  have M : Mgs mg := ⟨m_zip, m_all, m_repr, m_sum, m_len, m_isinstance, m_list, m_tuple, m_str, m_int, m_bool, m_dict, m_range, m_sorted, m_abs, m_min, m_max⟩
  have Kk : KindsT K mg aK := ⟨PySem.W.mg_of X G aKn, fun H => .inr ⟨_, _, _, aKl, rfl, rfl, (by show 4 ≤ sizeLine; decide), .cons ⟨_, rfl⟩ (.cons ⟨_, rfl⟩ (.cons ⟨_, rfl⟩ (.cons ⟨_, rfl⟩ .nil)))⟩⟩
  have Rk : RowT K mg aR := ⟨PySem.W.mg_of X G aRn, fun H => .inr ⟨_, _, _, aRl, rfl, rfl, (by show 3 ≤ sizeLine; decide), .cons ⟨_, rfl⟩ (.cons ⟨_, rfl⟩ (.cons ⟨_, rfl⟩ .nil))⟩⟩
  have mLET := PySem.W.mg_of X G aLn
  have Dis_letter : Df l.prog w K mg base 1 "is_letter" ["value"] spOne := ⟨f1, _, ok_one (k := 0) F1 M, b1, k1, g1⟩
  have Dis_low : Df l.prog w K mg base 1 "is_letter" ["value"] spLow := ⟨f1, _, ok_low (k := 0) F1 M, b1, k1, g1⟩
  have Dsize_of : Df l.prog w K mg base 60 "size_of" ["tree"] (fun vs H Q _ => ∃ (v : V) (t : B), vs = [v] ∧ BAt H v t ∧ t.size < 60 ∧ Q (.int (t.size : Int)) H) := ⟨f2, _, ok_size F2 b2 g2 60, b2, k2, g2⟩
  have Dis_kind : Df l.prog w K mg base 1 "is_kind" ["value"] spKind := ⟨f3, _, ok_kind (k := 0) F3 M Kk, b3, k3, g3⟩
  have Ddeep_steps : Df l.prog w K mg base 60 "deep_steps" ["tree", "kind", "path"] (spDeep 60) := ⟨f5, _, ok_deep F5 b5 g5 60, b5, k5, g5⟩
  have Dordered_steps : Df l.prog w K mg base 61 "ordered_steps" ["tree", "kind"] spSteps := ⟨f4, _, ok_steps F4 Dis_kind Ddeep_steps, b4, k4, g4⟩
  have Dwalk : Df l.prog w K mg base 62 "walk" ["tree", "kind"] spWalk := ⟨f6, _, ok_walk F6 Dordered_steps, b6, k6, g6⟩
  have Dwalks : DfR l.prog w K mg base 63 "walks" spWalks := ⟨f7, ok_walks F7 M Dwalk, k7, g7⟩
  have Dis_row : Df l.prog w K mg base 2 "is_row" ["value"] spRow := ⟨f8, _, ok_row F8 M m1 Dis_letter, b8, k8, g8⟩
  have Dthree_rows : Df l.prog w K mg base 3 "three_rows" ["rows"] spThree := ⟨f9, _, ok_three F9 M Rk Dis_row, b9, k9, g9⟩
  have Dtree_fits : Df l.prog w K mg base 64 "tree_fits" ["tree", "given"] spTreeFits := ⟨f10, _, ok_treeFits F10 M Rk Dsize_of Dwalks, b10, k10, g10⟩
  have Dcommon_letters : Df l.prog w K mg base 1 "common_letters" ["signs"] spComm := ⟨f11, _, ok_comm (k := 0) F11 M mLET, b11, k11, g11⟩
  have Dallowed_splits : Df l.prog w K mg base 2 "allowed_splits" ["given", "stretch"] spAllowed := ⟨f12, _, ok_allowed F12 M Dcommon_letters, b12, k12, g12⟩
  have Dadd_counts : Df l.prog w K mg base 16 "add_counts" ["given", "stretch", "counts"] (spAdd 14) := ⟨f13, _, ok_add F13 M b13 g13 Dallowed_splits 14, b13, k13, g13⟩
  have Dwhole_of : Df l.prog w K mg base 1 "whole_of" ["given"] spWhole := ⟨f14, _, ok_whole (k := 0) F14 M, b14, k14, g14⟩
  have Dcounts_of : Df l.prog w K mg base 17 "counts_of" ["given"] spCounts := ⟨f15, _, ok_counts F15 Dwhole_of Dadd_counts, b15, k15, g15⟩
  have Dcount_trees : DfKs l.prog w K mg base 18 "count_trees" 0 ksC spCountT := ⟨f16, fun ks hk => ok_countT (len_c hk) F16 (kw_c hk) Dthree_rows Dwhole_of Dcounts_of, k16, g16⟩
  have Dlive_splits : Df l.prog w K mg base 3 "live_splits" ["given", "counts", "stretch"] spLive := ⟨f17, _, ok_live F17 M Dallowed_splits, b17, k17, g17⟩
  have Dchoices : Df l.prog w K mg base 4 "choices" ["given", "counts", "stretch"] spChoices := ⟨f18, _, ok_choices F18 M Dlive_splits, b18, k18, g18⟩
  have Dnumbered_part : Df l.prog w K mg base 18 "numbered_part" ["given", "counts", "stretch", "index"] (spNum 14) := ⟨f19, _, ok_num F19 M m_divmod b19 g19 Dchoices 14, b19, k19, g19⟩
  have Dis_whole_number : Df l.prog w K mg base 1 "is_whole_number" ["value"] spWhN := ⟨f20, _, ok_whN (k := 0) F20 M, b20, k20, g20⟩
  have Dis_index : Df l.prog w K mg base 2 "is_index" ["value", "many"] spIndex := ⟨f21, _, ok_index (k := 0) F21 Dis_whole_number, b21, k21, g21⟩
  have Dtree_at : DfKs l.prog w K mg base 19 "tree_at" 1 ksA spTreeAtT := ⟨f22, fun ks hk => ok_treeAt (len_a hk) F22 (kw_at hk) Dthree_rows Dwhole_of Dcounts_of Dis_index Dnumbered_part, k22, g22⟩
  have Dpart_index : Df l.prog w K mg base 74 "part_index" ["given", "counts", "stretch", "tree"] (spPart 14) := ⟨f23, _, ok_part F23 M b23 g23 Dsize_of Dchoices 14, b23, k23, g23⟩
  have Dis_node : Df l.prog w K mg base 2 "is_node" ["value"] spNodeT := ⟨f24, _, ok_node (k := 0) F24 M Dis_low, b24, k24, g24⟩
  have Dis_tree : Df l.prog w K mg base 3 "is_tree" ["value"] spTreeT := ⟨f25, _, ok_isTree F25 m1 Dis_node, b25, k25, g25⟩
  have Dtree_index : DfKs l.prog w K mg base 75 "tree_index" 1 ksI spTreeIxT := ⟨f26, fun ks hk => ok_treeIx (len_i hk) F26 (kw_ix hk) Dthree_rows Dwhole_of Dcounts_of Dis_tree Dtree_fits Dpart_index, k26, g26⟩
  have D_law_deck : Df l.prog w K mg base 1 "_law_deck" ["_law_script"] (spDeck K) := ⟨f27, _, ok_deck (k := 0) F27 M, b27, k27, g27⟩
  have D_law_draw : Df l.prog w K mg base 1 "_law_draw" ["_law_deck_here", "_law_many"] spDraw := ⟨f28, _, ok_draw (k := 0) F28 M, b28, k28, g28⟩
  have D_law_mixed : Df l.prog w K mg base 2 "_law_mixed" ["_law_deck_here", "_law_row"] spMixed := ⟨f29, _, ok_mixed (k := 0) F29 M D_law_draw, b29, k29, g29⟩
  have D_law_same : DfG l.prog w K mg base 20 "_law_same" ["_law_found", "_law_due"] (spSame K 20) := ⟨f30, _, ok_same F30 b30 g30 M m_repr 20, b30, k30, g30⟩
  have D_law_size : Df l.prog w K mg base 30 "_law_size" ["_law_tree_here"] (spSSize 30) := ⟨f31, _, ok_ssize F31 b31 g31 30, b31, k31, g31⟩
  have D_law_sizeB : Df l.prog w K mg base 30 "_law_size" ["_law_tree_here"] (spSSizeB 30) := ⟨f31, _, ok_sizeB F31 b31 g31 30, b31, k31, g31⟩
  have D_law_labelled : Df l.prog w K mg base 51 "_law_labelled" ["_law_shape_here", "_law_letters"] (spLab 21) := ⟨f35, _, ok_lab F35 b35 g35 D_law_size 21, b35, k35, g35⟩
  have D_law_shape : Df l.prog w K mg base 22 "_law_shape" ["_law_deck_here", "_law_many", "_law_way"] (spShape 21) := ⟨f36, _, ok_shape F36 b36 g36 D_law_draw 21, b36, k36, g36⟩
  have D_law_tree : Df l.prog w K mg base 52 "_law_tree" ["_law_deck_here", "_law_most"] spTree := ⟨f37, _, ok_tree F37 M D_law_draw D_law_mixed D_law_labelled D_law_shape, b37, k37, g37⟩
  have D_law_walks : Df l.prog w K mg base 21 "_law_walks" ["_law_tree_here"] (spLWalks 21) := ⟨f38, _, ok_lwalks F38 b38 g38 21, b38, k38, g38⟩
  have D_law_hidden : Df l.prog w K mg base 2 "_law_hidden" ["_law_deck_here", "_law_row"] spHid := ⟨f39, _, ok_hidden F39 M D_law_draw, b39, k39, g39⟩
  have D_law_rows : Df l.prog w K mg base 53 "_law_rows" ["_law_deck_here", "_law_most"] spLRows := ⟨f40, _, ok_lrows F40 M D_law_draw D_law_tree D_law_walks D_law_hidden, b40, k40, g40⟩
  have D_law_shapes : Df l.prog w K mg base 1 "_law_shapes" ["_law_many"] spShapes := ⟨f32, _, ok_shapes F32 M, b32, k32, g32⟩
  have D_law_spots : Df l.prog w K mg base 43 "_law_spots" ["_law_shape_here", "_law_a", "_law_b", "_law_c"] (spSpots 13) := ⟨f33, _, ok_lspots F33 b33 g33 D_law_size 13, b33, k33, g33⟩
  have D_law_letter : Df l.prog w K mg base 1 "_law_letter" ["_law_rows_here", "_law_spot"] spLetter := ⟨f34, _, ok_letter F34 M, b34, k34, g34⟩
  have D_law_power : Df l.prog w K mg base 1 "_law_power" ["_law_many"] spPow := ⟨f41, _, ok_pow F41 M, b41, k41, g41⟩
  have D_law_key : Df l.prog w K mg base 51 "_law_key" ["_law_tree_here"] (spKey 21) := ⟨f43, _, ok_key F43 b43 g43 D_law_sizeB 21, b43, k43, g43⟩
  have D_law_number : Df l.prog w K mg base 44 "_law_number" ["_law_rows_here"] spNumber := ⟨f42, _, ok_number F42 M D_law_shapes D_law_spots D_law_letter D_law_power, b42, k42, g42⟩
  have D_law_all : Df l.prog w K mg base 52 "_law_all" ["_law_rows_here"] spAll := ⟨f44, _, ok_all F44 M D_law_shapes D_law_spots D_law_letter D_law_labelled D_law_key, b44, k44, g44⟩
  have D_law_left_out_right : DfG l.prog w K mg base 19 "_law_left_out_right" ["_law_a", "_law_b", "_law_c", "_law_due"] spLeft := ⟨f45, _, ok_left F45 M m_repr Dcount_trees, b45, k45, g45⟩
  exact run_law F46 (.of_eq rfl) en hS M D_law_deck D_law_rows D_law_number D_law_same D_law_left_out_right D_law_all Dcount_trees Dtree_at Dtree_index
theorem walk_at {l : PySem.W.OpenLaw} {q : Program} {loose : List Str} {XP : (Str → Option Value) → Heap → Prop} {YP : World → Heap → Prop} {d : DefRec} {K : Params → PySem.W.Frag} (most : l.most = some 63) (noDf : d.params.defaults = [])
    (inK : ∀ (w : World) (h : Heap), YP w h → (K w.params).In h)
    (F : ∀ (w : World) (mg : Str → Option Value) (fa : Addr) (h : Heap), (K w.params).In h → h.Ns mainGlobals mg → mg d.name = some (.ref fa) →
      ∀ (base : Heap) (H : Hp) (s : Shared) (a : Addr) (ns : List Int), (K w.params).In base → base.Ns mainGlobals mg → Env0 l.prog w (K w.params) mg base callerA [] s H → SqL (K w.params) H a (ns.map V.int) → ns.length ≤ 63 →
        codeAny (model l.prog w) callerA (.call (.ref fa) ⟨[.ref a], []⟩) (CR CX0 [] l.prog w H s (fun v _ => v = .bl true) fun _ _ _ => False) s) :
    PySem.W.WalkO q loose XP YP l.row.toRowW d [] (fun f vs => PySem.call f vs) := by
  refine Att.attach_call most noDf ?_
  intro w s₀ s₁ mg mb fa o pm cd doc a vs ns G Y ho hd hcd hmg hobj hints hlen hg
  exact law_at (inK w _ Y) G.T.g G.T.b G.T.builtins G.T.nolimit hg hobj hints (Nat.le_trans hlen (by decide)) fun base H h1 h2 en hS => F w mg fa _ (inK w _ Y) G.T.g hmg base H s₁ a ns h1 h2 en hS hlen
end Tw
open PySem PySem.W PyProof.Rows
set_option maxRecDepth 100000 in
set_option maxHeartbeats 0 in
theorem PySem.Challenge.cw_treewalks_k21_trees_counted_and_numbered_holds : PySem.Challenge.rw_treewalks_k21_trees_counted_and_numbered.Holds := by
  w_on; o_law; k_head; (case hw => w_witness2)
  k_fill
  refine Tw.walk_at (l := PySem.Challenge.rw_treewalks_k21_trees_counted_and_numbered) rfl rfl (fun w h Y => by first | exact PySem.W.kIn_of Y | exact PySem.W.km_in_of Y) ?F
  case F =>
    intro w mg fa h KX G hmg
    refine' Tw.all_mk KX G hmg ?aKn ?aKl ?aRn ?aRl ?aLn ?a1 ?l1 ?c1 ?k1 ?a2 ?l2 ?c2 ?k2 ?a3 ?l3 ?c3 ?k3 ?a4 ?l4 ?c4 ?k4 ?a5 ?l5 ?c5 ?k5 ?a6 ?l6 ?c6 ?k6 ?a7 ?l7 ?c7 ?k7 ?a8 ?l8 ?c8 ?k8 ?a9 ?l9 ?c9 ?k9 ?a10 ?l10 ?c10 ?k10 ?a11 ?l11 ?c11 ?k11 ?a12 ?l12 ?c12 ?k12 ?a13 ?l13 ?c13 ?k13 ?a14 ?l14 ?c14 ?k14 ?a15 ?l15 ?c15 ?k15 ?a16 ?l16 ?c16 ?k16 ?a17 ?l17 ?c17 ?k17 ?a18 ?l18 ?c18 ?k18 ?a19 ?l19 ?c19 ?k19 ?a20 ?l20 ?c20 ?k20 ?a21 ?l21 ?c21 ?k21 ?a22 ?l22 ?c22 ?k22 ?a23 ?l23 ?c23 ?k23 ?a24 ?l24 ?c24 ?k24 ?a25 ?l25 ?c25 ?k25 ?a26 ?l26 ?c26 ?k26 ?a27 ?l27 ?c27 ?k27 ?a28 ?l28 ?c28 ?k28 ?a29 ?l29 ?c29 ?k29 ?a30 ?l30 ?c30 ?k30 ?a31 ?l31 ?c31 ?k31 ?a32 ?l32 ?c32 ?k32 ?a33 ?l33 ?c33 ?k33 ?a34 ?l34 ?c34 ?k34 ?a35 ?l35 ?c35 ?k35 ?a36 ?l36 ?c36 ?k36 ?a37 ?l37 ?c37 ?k37 ?a38 ?l38 ?c38 ?k38 ?a39 ?l39 ?c39 ?k39 ?a40 ?l40 ?c40 ?k40 ?a41 ?l41 ?c41 ?k41 ?a42 ?l42 ?c42 ?k42 ?a43 ?l43 ?c43 ?k43 ?a44 ?l44 ?c44 ?k44 ?a45 ?l45 ?c45 ?k45 ?a46 ?l46 ?c46 ?k46 ?z1 ?z2 ?z3 ?z4 ?z5 ?z6 ?z7 ?z8 ?z9 ?z10 ?z11 ?z12 ?z13 ?z14 ?z15 ?z16 ?z17 ?z18 ?z19 ?v1
    (case aKn => first | k_is | rfl | decide +kernel)
    (case aKl => first | k_is | rfl | decide +kernel)
    (case aRn => first | k_is | rfl | decide +kernel)
    (case aRl => first | k_is | rfl | decide +kernel)
    (case aLn => first | k_is | rfl | decide +kernel)
    (case a1 => k_is)
    (case l1 => k_is)
    (case c1 => k_is)
    (case k1 => k_is)
    (case a2 => k_is)
    (case l2 => k_is)
    (case c2 => k_is)
    (case k2 => k_is)
    (case a3 => k_is)
    (case l3 => k_is)
    (case c3 => k_is)
    (case k3 => k_is)
    (case a4 => k_is)
    (case l4 => k_is)
    (case c4 => k_is)
    (case k4 => k_is)
    (case a5 => k_is)
    (case l5 => k_is)
    (case c5 => k_is)
    (case k5 => k_is)
    (case a6 => k_is)
    (case l6 => k_is)
    (case c6 => k_is)
    (case k6 => k_is)
    (case a7 => k_is)
    (case l7 => k_is)
    (case c7 => k_is)
    (case k7 => k_is)
    (case a8 => k_is)
    (case l8 => k_is)
    (case c8 => k_is)
    (case k8 => k_is)
    (case a9 => k_is)
    (case l9 => k_is)
    (case c9 => k_is)
    (case k9 => k_is)
    (case a10 => k_is)
    (case l10 => k_is)
    (case c10 => k_is)
    (case k10 => k_is)
    (case a11 => k_is)
    (case l11 => k_is)
    (case c11 => k_is)
    (case k11 => k_is)
    (case a12 => k_is)
    (case l12 => k_is)
    (case c12 => k_is)
    (case k12 => k_is)
    (case a13 => k_is)
    (case l13 => k_is)
    (case c13 => k_is)
    (case k13 => k_is)
    (case a14 => k_is)
    (case l14 => k_is)
    (case c14 => k_is)
    (case k14 => k_is)
    (case a15 => k_is)
    (case l15 => k_is)
    (case c15 => k_is)
    (case k15 => k_is)
    (case a16 => k_is)
    (case l16 => k_is)
    (case c16 => k_is)
    (case k16 => k_is)
    (case a17 => k_is)
    (case l17 => k_is)
    (case c17 => k_is)
    (case k17 => k_is)
    (case a18 => k_is)
    (case l18 => k_is)
    (case c18 => k_is)
    (case k18 => k_is)
    (case a19 => k_is)
    (case l19 => k_is)
    (case c19 => k_is)
    (case k19 => k_is)
    (case a20 => k_is)
    (case l20 => k_is)
    (case c20 => k_is)
    (case k20 => k_is)
    (case a21 => k_is)
    (case l21 => k_is)
    (case c21 => k_is)
    (case k21 => k_is)
    (case a22 => k_is)
    (case l22 => k_is)
    (case c22 => k_is)
    (case k22 => k_is)
    (case a23 => k_is)
    (case l23 => k_is)
    (case c23 => k_is)
    (case k23 => k_is)
    (case a24 => k_is)
    (case l24 => k_is)
    (case c24 => k_is)
    (case k24 => k_is)
    (case a25 => k_is)
    (case l25 => k_is)
    (case c25 => k_is)
    (case k25 => k_is)
    (case a26 => k_is)
    (case l26 => k_is)
    (case c26 => k_is)
    (case k26 => k_is)
    (case a27 => k_is)
    (case l27 => k_is)
    (case c27 => k_is)
    (case k27 => k_is)
    (case a28 => k_is)
    (case l28 => k_is)
    (case c28 => k_is)
    (case k28 => k_is)
    (case a29 => k_is)
    (case l29 => k_is)
    (case c29 => k_is)
    (case k29 => k_is)
    (case a30 => k_is)
    (case l30 => k_is)
    (case c30 => k_is)
    (case k30 => k_is)
    (case a31 => k_is)
    (case l31 => k_is)
    (case c31 => k_is)
    (case k31 => k_is)
    (case a32 => k_is)
    (case l32 => k_is)
    (case c32 => k_is)
    (case k32 => k_is)
    (case a33 => k_is)
    (case l33 => k_is)
    (case c33 => k_is)
    (case k33 => k_is)
    (case a34 => k_is)
    (case l34 => k_is)
    (case c34 => k_is)
    (case k34 => k_is)
    (case a35 => k_is)
    (case l35 => k_is)
    (case c35 => k_is)
    (case k35 => k_is)
    (case a36 => k_is)
    (case l36 => k_is)
    (case c36 => k_is)
    (case k36 => k_is)
    (case a37 => k_is)
    (case l37 => k_is)
    (case c37 => k_is)
    (case k37 => k_is)
    (case a38 => k_is)
    (case l38 => k_is)
    (case c38 => k_is)
    (case k38 => k_is)
    (case a39 => k_is)
    (case l39 => k_is)
    (case c39 => k_is)
    (case k39 => k_is)
    (case a40 => k_is)
    (case l40 => k_is)
    (case c40 => k_is)
    (case k40 => k_is)
    (case a41 => k_is)
    (case l41 => k_is)
    (case c41 => k_is)
    (case k41 => k_is)
    (case a42 => k_is)
    (case l42 => k_is)
    (case c42 => k_is)
    (case k42 => k_is)
    (case a43 => k_is)
    (case l43 => k_is)
    (case c43 => k_is)
    (case k43 => k_is)
    (case a44 => k_is)
    (case l44 => k_is)
    (case c44 => k_is)
    (case k44 => k_is)
    (case a45 => k_is)
    (case l45 => k_is)
    (case c45 => k_is)
    (case k45 => k_is)
    (case a46 => k_is)
    (case l46 => k_is)
    (case c46 => k_is)
    (case k46 => k_is)
    (case z1 => k_is)
    (case z2 => k_is)
    (case z3 => k_is)
    (case z4 => k_is)
    (case z5 => k_is)
    (case z6 => k_is)
    (case z7 => k_is)
    (case z8 => k_is)
    (case z9 => k_is)
    (case z10 => k_is)
    (case z11 => k_is)
    (case z12 => k_is)
    (case z13 => k_is)
    (case z14 => k_is)
    (case z15 => k_is)
    (case z16 => k_is)
    (case z17 => k_is)
    (case z18 => k_is)
    (case z19 => k_is)
    (case v1 => k_is)
