import PyProof.Rows.All
import Wide.All
import OpenK.AllK
import Wide.FinOn
import HandS.ForMost
import HandS.ForExc
import HandS.Wide
import HandS.IsInst
import HandS.Flow
import HandS.FStrTup
import HandS.NoneIn
import HandS.TupAny
import HandS.Style
import HandS.TryMany
import HandS.ExcIs
import HandS.ExcField
import HandS.ExcOwn
import KE.KExcInit
import KE.KExcIs
import HandS.Walk
import HandS.Zip
import KE.GoesZip
import KE.GoesMore
import HandS.Sort
import HandS.Set
import HandS.SetFor
import HandS.Strs
import HandS.SetTxt0
import HandS.TupSets
import HandS.DictComp
import KE.KSortTupG
import KE.KSortTupUse
import HandS.More
import HandS.Star
import PyProof.CollectStr
import PySem.Challenge.RW_treewalks_k51_whole_great_nests
set_option Elab.async false
set_option maxRecDepth 100000
set_option maxHeartbeats 4000000
namespace Tw
open PySem PySem.Spec PyProof.Rows L2
/-! ### trees over signs -/
abbrev ch (c : Nat) : Str := ⟨#[c]⟩
def tx (l : List Nat) : Str := ⟨l.toArray⟩
theorem tx_cps (l : List Nat) : (tx l).cps.toList = l := rfl
theorem tx_size (l : List Nat) : (tx l).cps.size = l.length := rfl
theorem tx_len (l : List Nat) : (tx l).length = l.length := rfl
theorem tx_one (c : Nat) : tx [c] = ch c := rfl
theorem tx_app (a b : List Nat) : tx a ++ tx b = tx (a ++ b) := by
  show (⟨(tx a).cps ++ (tx b).cps⟩ : Str) = _
  simp [tx]
theorem ch_app (c : Nat) (b : List Nat) : ch c ++ tx b = tx (c :: b) := tx_app [c] b
theorem tx_inj {a b : List Nat} (h : tx a = tx b) : a = b := congrArg (fun z : Str => z.cps.toList) h
theorem ch_inj {a b : Nat} (h : ch a = ch b) : a = b := by have := tx_inj (a := [a]) (b := [b]) h; simpa using this
theorem ch_lt (a b : Nat) : decide ((ch a).cps.toList < (ch b).cps.toList) = decide (a < b) := by
  have : ((ch a).cps.toList < (ch b).cps.toList) ↔ a < b := by
    show [a] < [b] ↔ _
    simp [List.cons_lt_cons_iff]
  simp only [this]
theorem tx_to (l : List Nat) (k : Nat) : cutS (tx l) none (some (k : Int)) = tx (l.take k) := by
  unfold cutS tx
  show (⟨_⟩ : Str) = ⟨_⟩
  rw [HT.sIx_nat, HT.sIx_none]
  show (⟨((l.drop 0).take (min k l.length - 0)).toArray⟩ : Str) = ⟨(l.take k).toArray⟩
  rw [List.drop_zero, Nat.sub_zero, Nat.min_def]
  split
  · rfl
  · rw [List.take_of_length_le (Nat.le_refl _), List.take_of_length_le (by omega)]
theorem tx_from (l : List Nat) (k : Nat) : cutS (tx l) (some (k : Int)) none = tx (l.drop k) := by
  unfold cutS tx
  show (⟨_⟩ : Str) = ⟨_⟩
  rw [HT.sIx_nat, HT.sIx_none]
  show (⟨((l.drop (min k l.length)).take (l.length - min k l.length)).toArray⟩ : Str) = ⟨(l.drop k).toArray⟩
  by_cases h : k ≤ l.length
  · rw [Nat.min_eq_left h, List.take_of_length_le (by rw [List.length_drop]; omega)]
  · rw [Nat.min_eq_right (by omega), List.drop_eq_nil_of_le (Nat.le_refl _), List.drop_eq_nil_of_le (by omega), List.take_nil]
theorem joinL_ones : ∀ l : List Nat, TL.joinL [] (l.map fun c => [c]) = l
  | [] => rfl
  | [c] => rfl
  | c :: d :: r => by
    have := joinL_ones (d :: r)
    show [c] ++ ([] ++ TL.joinL [] ((d :: r).map fun c => [c])) = _
    rw [this]; rfl
theorem tx_join (l : List Nat) : Txt.join (Str.ofString "") (l.map ch) = tx l := by
  rw [TL.join_eq]
  have e := TL.tl_join (Str.ofString "") (l.map ch)
  refine TL.ext_tl (e.trans ?_)
  rw [List.map_map]
  exact joinL_ones l
theorem tx_joinOk (l : List Nat) (h : l.length ≤ 1000) : ((l.map ch).map (·.length)).sum + (l.map ch).length * (Str.ofString "").length ≤ 16777216 := by
  have e0 : (Str.ofString "").length = 0 := by decide +kernel
  have e1 : ∀ l : List Nat, ((l.map ch).map (·.length)).sum = l.length := by
    intro l
    induction l with
    | nil => rfl
    | cons c r ih =>
      rw [List.map_cons, List.map_cons, List.sum_cons, ih, List.length_cons]
      show 1 + r.length = _
      omega
  rw [e0, e1]
  omega
inductive B where
  | nil
  | node (l : B) (x : Nat) (r : B)
  deriving DecidableEq
def B.size : B → Nat
  | .nil => 0
  | .node l _ r => l.size + 1 + r.size
def B.deep : B → Nat
  | .nil => 0
  | .node l _ r => 1 + max l.deep r.deep
def B.data : B → PyData
  | .nil => .none
  | .node l x r => .tuple [l.data, .str (ch x), r.data]
def B.pre : B → List Nat
  | .nil => []
  | .node l x r => x :: (l.pre ++ r.pre)
def B.mid : B → List Nat
  | .nil => []
  | .node l x r => l.mid ++ x :: r.mid
theorem B.deep_le : ∀ t : B, t.deep ≤ t.size
  | .nil => Nat.le_refl _
  | .node l _ r => by
    have h1 := l.deep_le
    have h2 := r.deep_le
    show 1 + max l.deep r.deep ≤ l.size + 1 + r.size
    omega
theorem B.pre_len : ∀ t : B, t.pre.length = t.size
  | .nil => rfl
  | .node l x r => by
    have h1 := l.pre_len
    have h2 := r.pre_len
    show (x :: (l.pre ++ r.pre)).length = l.size + 1 + r.size
    rw [List.length_cons, List.length_append]
    omega
theorem B.mid_len : ∀ t : B, t.mid.length = t.size
  | .nil => rfl
  | .node l x r => by
    have h1 := l.mid_len
    have h2 := r.mid_len
    show (l.mid ++ x :: r.mid).length = l.size + 1 + r.size
    rw [List.length_append, List.length_cons]
    omega
theorem B.mid_mem (t : B) (c : Nat) : c ∈ t.mid ↔ c ∈ t.pre := by
  induction t with
  | nil => exact Iff.rfl
  | node l x r h1 h2 =>
    show c ∈ l.mid ++ x :: r.mid ↔ c ∈ x :: (l.pre ++ r.pre)
    rw [List.mem_append, List.mem_cons, List.mem_cons, List.mem_append, h1, h2]
    constructor
    · rintro (h | h | h)
      · exact .inr (.inl h)
      · exact .inl h
      · exact .inr (.inr h)
    · rintro (h | h | h)
      · exact .inr (.inl h)
      · exact .inl h
      · exact .inr (.inr h)
/-- the tree t lies at v -/
inductive BAt (H : Hp) : V → B → Prop
  | nil : BAt H .non .nil
  | node {a : Addr} {l r : V} {x : Nat} {tl tr : B} : H a = some (.tup [l, .str (ch x), r]) → BAt H l tl → BAt H r tr → BAt H (.ref a) (.node tl x tr)
/-- tuples stand still -/
def KeepT (H H' : Hp) : Prop := ∀ b xs, H b = some (.tup xs) → H' b = some (.tup xs)
theorem KeepT.refl (H : Hp) : KeepT H H := fun _ _ h => h
theorem KeepT.trans {H H1 H2 : Hp} (a : KeepT H H1) (b : KeepT H1 H2) : KeepT H H2 := fun c xs h => b c xs (a c xs h)
theorem Same.keepT {H H' : Hp} (h : Same H H') : KeepT H H' := fun b xs e => h b _ e
theorem BAt.keep {H H' : Hp} (k : KeepT H H') {v : V} {t : B} (h : BAt H v t) : BAt H' v t := by
  induction h with
  | nil => exact .nil
  | node e _ _ h1 h2 => exact .node (k _ _ e) h1 h2
theorem BAt.same {H H' : Hp} (k : Same H H') {v : V} {t : B} (h : BAt H v t) : BAt H' v t := h.keep (Tw.Same.keepT k)
theorem BAt.dp {K : PySem.W.Frag} {H : Hp} {v : V} {t : B} (h : BAt H v t) : Dp K H v t.data := by
  induction h with
  | nil => exact .non
  | node e _ _ h1 h2 => exact .tup (SqT.of e) (.cons h1 (.cons (.str _) (.cons h2 .nil)))
theorem BAt.inv {H : Hp} {v : V} {t : B} (h : BAt H v t) : (v = .non ∧ t = .nil) ∨ ∃ a l r x tl tr, v = .ref a ∧ t = .node tl x tr ∧ H a = some (.tup [l, .str (ch x), r]) ∧ BAt H l tl ∧ BAt H r tr := by
  cases h with
  | nil => exact .inl ⟨rfl, rfl⟩
  | node e h1 h2 => exact .inr ⟨_, _, _, _, _, _, rfl, rfl, e, h1, h2⟩
theorem same_new {H : Hp} {p : Addr} (h : H p = none) (o : HO) : Same H (upd H p o) := fun b u q => by rw [upd_ne (ne_of_none q h)]; exact q
theorem small {n : Nat} (h : n ≤ 1000) : n ≤ sizeLine := Nat.le_of_lt (small1000 h)
theorem at_map {α : Type} {f : α → V} {ns : List α} {i : Int} {v : α} (h0 : 0 ≤ i) (h : ns[i.toNat]? = some v) : atI (ns.map f) i = some (f v) := by
  have e : i = ((i.toNat : Nat) : Int) := by omega
  rw [e]
  exact atI_nat (by rw [List.getElem?_map, h]; rfl)
theorem ixN_nat {n : Nat} {i : Int} (h0 : 0 ≤ i) (h : i < n) : ixN n i = some i.toNat := by
  unfold ixN
  first
    | rw [if_pos h0, if_pos h]
    | (rw [if_pos h0]; rw [if_pos (by omega)])
    | simp [h0, h]
theorem cut_to (xs : List V) (k : Nat) : cutV xs none (some (k : Int)) = xs.take k := by
  unfold cutV
  rw [HT.sIx_nat, HT.sIx_none, List.drop_zero, Nat.sub_zero]
  rw [Nat.min_def]
  split
  · rfl
  · rw [List.take_of_length_le (Nat.le_refl _), List.take_of_length_le (by omega)]
theorem cut_from (xs : List V) (k : Nat) : cutV xs (some (k : Int)) none = xs.drop k := by
  unfold cutV
  rw [HT.sIx_nat, HT.sIx_none]
  by_cases h : k ≤ xs.length
  · rw [Nat.min_eq_left h, List.take_of_length_le (by rw [List.length_drop]; omega)]
  · rw [Nat.min_eq_right (by omega), List.drop_eq_nil_of_le (Nat.le_refl _), List.drop_eq_nil_of_le (by omega), List.take_nil]
theorem kept {σ : L2.St} {H : Hp} {A B : Hp → Prop} (h : A H) : tYes σ H (fun b H3 => if b = true then A H3 else B H3) := by
  show if true = true then A H else B H
  exact iteT h
theorem erase_map {α β : Type} (f : α → β) : ∀ (l : List α) (i : Nat), (l.map f).eraseIdx i = (l.eraseIdx i).map f
  | [], _ => rfl
  | _ :: _, 0 => rfl
  | x :: l, i + 1 => congrArg (f x :: ·) (erase_map f l i)
/-- a def that stands at a name, with its promise -/
structure Df (P : Program) (w : World) (K : PySem.W.Frag) (mg : Str → Option Value) (base : Heap) (k : Nat) (nm : Str) (ps : List Str) (sp : Sp) where
  f : Addr
  fd : FuncData
  ok : FnOk P w K mg base CX0 k f fd ps sp
  b : Binds K fd ps []
  kp : PySem.W.keepIn K (.ref f) = true
  g : mg nm = some (.ref f)
structure Mgs (mg : Str → Option Value) : Prop where
  zip : mg "zip" = none
  all : mg "all" = none
  repr : mg "repr" = none
  sum : mg "sum" = none
  len : mg "len" = none
  isinstance : mg "isinstance" = none
  list : mg "list" = none
  tuple : mg "tuple" = none
  str : mg "str" = none
  int : mg "int" = none
  bool : mg "bool" = none
  dict : mg "dict" = none
  range : mg "range" = none
  sorted : mg "sorted" = none
  abs : mg "abs" = none
  min : mg "min" = none
  max : mg "max" = none
theorem vals_signs : ∀ (l : List Nat) (vs : List Value), vs.length = l.length → (∀ (j : Nat) (v : Value), vs[j]? = some v → ∃ c u, l[j]? = some c ∧ v = .str ⟨#[c]⟩ u) → Vals (l.map fun c => V.str ⟨#[c]⟩) vs
  | [], [], _, _ => .nil
  | [], _ :: _, h, _ => by simp at h
  | _ :: _, [], h, _ => by simp at h
  | c :: l, v :: vs, h, k => by
    obtain ⟨c', u, e, rfl⟩ := k 0 v rfl
    cases e
    exact .cons ⟨u, rfl⟩ (vals_signs l vs (by simpa using h) fun j v e => k (j + 1) v e)
theorem call_signs {X : Cx} (hc : X.calm = true) : CallR X (.type "list") (fun xs H Q => ∃ x : Str, xs = [.str x] ∧ x.cps.size ≤ 1000 ∧ ∀ p, H p = none → Q (.ref p) (upd H p (.lst (x.cps.toList.map fun c => V.str ⟨#[c]⟩)))) := by
  intro pins s σ H xs us Q I r h
  obtain ⟨x, rfl, hz, q⟩ := h
  obtain ⟨u, rfl, t, rfl⟩ := vals1 r
  have hz' : x.cps.size ≤ sizeLine := small hz
  refine call_list_str (I.ok.hd hc) x t (fun h' tk acc' c' hk hS hacc => ?_) hz'
  have hv : Vals (x.cps.toList.map fun c => V.str ⟨#[c]⟩) acc'.toList := vals_signs _ _ (by rw [Array.length_toList, Array.length_toList]; exact hacc.1) fun j v e => by
    obtain ⟨c, u, h1, h2⟩ := hacc.2 j v (by rw [← Array.getElem?_toList]; exact e)
    exact ⟨c, u, by rw [Array.getElem?_toList]; exact h1, h2⟩
  exact ⟨.ref s.heap.objs.size, _, I.laid (t' := tk) hk (Nat.le_refl _) (show ObjOk X.prog X.w _ h' _ (.lst _) from ⟨by rw [List.length_map, Array.length_toList]; exact hz', acc'.toList, c', hv, by rw [Array.toArray_toList]; exact hS⟩), rfl, q _ (I.hok.fresh (Nat.le_refl _))⟩
/-- for c in text -/
theorem for_text {x : Str} {g : TG} {tb : TS} {D : Ends} {σ : L2.St} {H : Hp} (Pv : Nat → L2.St → Hp → Prop) (h0 : Pv 0 σ H)
    (hs : ∀ i c σ H, x.cps.toList[i]? = some c → Pv i σ H → g (.str ⟨#[c]⟩) σ H fun σ2 H2 => tb { D with nx := Pv (i + 1), ct := Pv (i + 1), bk := D.nx } σ2 H2)
    (hd : ∀ σ H, Pv x.cps.toList.length σ H → D.nx σ H) :
    ∃ W : Nat → Nat → L2.St → Hp → Prop, (∃ m, W 0 m σ H) ∧ ∀ i m σ H, W i m σ H →
      ((Its x).stop i H ∧ D.nx σ H) ∨ ((Its x).go i H ∧ ∃ N : L2.St → Hp → Prop, (∀ σ' H', N σ' H' → ∃ m', m' < m ∧ W (i + 1) m' σ' H') ∧ ∀ v H', (Its x).yld i H v H' → g v σ H' fun σ2 H2 => tb { D with nx := N, ct := N, bk := D.nx } σ2 H2) := by
  refine for_it walk_str Pv h0 (fun _ _ _ _ _ => trivial) (fun i v σ H H' hi hp hy => ?_) (fun σ H hp => hd σ H (by rw [Array.length_toList]; exact hp))
  obtain ⟨rfl, c, hc, rfl⟩ := hy
  exact hs i c σ H' (by rw [Array.getElem?_toList]; exact hc) hp
theorem lc_text {x : Str} {g : TG} {tt : TT} {te : TE} {vs : List Nat} {σ : L2.St} {H1 : Hp} {D : Addr} {Qd : Hp → Prop} (Pv : Nat → Hp → Prop) (h0 : Pv 0 (upd H1 D (.lst [])))
    (hs : ∀ i c H, x.cps.toList[i]? = some c → Pv i H → g (.str ⟨#[c]⟩) (wipe σ vs) H fun σ2 H2 => wipe σ2 vs = wipe σ vs ∧ tt σ2 H2 fun b H3 =>
      if b = true then te σ2 H3 fun y H4 => ∃ acc, H4 D = some (.lst acc) ∧ acc.length < sizeLine ∧ Pv (i + 1) (upd H4 D (.lst (acc ++ [y]))) else Pv (i + 1) H3) (hd : ∀ H, Pv x.cps.toList.length H → Qd H) :
    ∃ W : Nat → Nat → Hp → Prop, (∃ m, W 0 m (upd H1 D (.lst []))) ∧ ∀ i m H, W i m H →
      ((Its x).stop i H ∧ Qd H) ∨ ((Its x).go i H ∧ ∃ Nx : Hp → Prop, (∀ H', Nx H' → ∃ m', m' < m ∧ W (i + 1) m' H') ∧ ∀ v H', (Its x).yld i H v H' → g v (wipe σ vs) H' fun σ2 H2 => wipe σ2 vs = wipe σ vs ∧ tt σ2 H2 fun b H3 =>
        if b = true then te σ2 H3 fun y H4 => ∃ acc, H4 D = some (.lst acc) ∧ acc.length < sizeLine ∧ Nx (upd H4 D (.lst (acc ++ [y]))) else Nx H3) := by
  refine lc_it walk_str Pv h0 (fun _ _ _ _ => trivial) (fun i v H H' hi hp hy => ?_) (fun H hp => hd H (by rw [Array.length_toList]; exact hp))
  obtain ⟨rfl, c, hc, rfl⟩ := hy
  exact hs i c H' (by rw [Array.getElem?_toList]; exact hc) hp
/-! ### the text by places -/
def top (i : Nat) : Stmt := PySem.Challenge.pw_treewalks_k51_whole_great_nests.main.body.getD i (.Pass ⟨0, 0, 0, 0⟩)
abbrev s_is_whole_number : Stmt := top 4
abbrev s_is_index : Stmt := top 5
abbrev s_spots_of : Stmt := top 8
abbrev s_add_spots : Stmt := top 9
abbrev s_counts_in : Stmt := top 10
abbrev s_turned : Stmt := top 11
abbrev s_way_to : Stmt := top 12
abbrev s_place_on : Stmt := top 13
abbrev s_label_on : Stmt := top 14
abbrev s_way_at : Stmt := top 15
abbrev s_label_in : Stmt := top 16
abbrev s_other_place : Stmt := top 17
abbrev s__law_deck : Stmt := top 19
abbrev s__law_draw : Stmt := top 20
abbrev s__law_pick : Stmt := top 21
abbrev s__law_same : Stmt := top 22
abbrev s__law_mixed : Stmt := top 23
abbrev s__law_tree : Stmt := top 24
abbrev s__law_drawn_tree : Stmt := top 25
abbrev s__law_nodes : Stmt := top 26
abbrev s__law_open : Stmt := top 27
abbrev s__law_nest : Stmt := top 28
abbrev s__law_sizes : Stmt := top 29
abbrev s__law_part : Stmt := top 30
abbrev s__law_way : Stmt := top 31
abbrev s__law_right : Stmt := top 32
abbrev s_law : Stmt := top 33
theorem sc_is_whole_number : FnScope ["value"] ["value"] (defScope s_is_whole_number) := ⟨rfl, rfl, rfl, by decide +kernel, rfl, by decide +kernel, by decide +kernel⟩
theorem sc_is_index : FnScope ["value", "many"] ["value", "many"] (defScope s_is_index) := ⟨rfl, rfl, rfl, by decide +kernel, rfl, by decide +kernel, by decide +kernel⟩
theorem sc_spots_of : FnScope ["nest", "spots", "roots", "tree", "links", "path", "index", "hung"] ["nest"] (defScope s_spots_of) := ⟨rfl, rfl, rfl, by decide +kernel, rfl, by decide +kernel, by decide +kernel⟩
theorem sc_add_spots : FnScope ["spots", "tree", "path", "hung", "left", "right"] ["spots", "tree", "path", "hung"] (defScope s_add_spots) := ⟨rfl, rfl, rfl, by decide +kernel, rfl, by decide +kernel, by decide +kernel⟩
theorem sc_counts_in : FnScope ["spots", "letters", "counts", "left", "label", "right"] ["spots", "letters"] (defScope s_counts_in) := ⟨rfl, rfl, rfl, by decide +kernel, rfl, by decide +kernel, by decide +kernel⟩
theorem sc_turned : FnScope ["spots", "counts", "at", "turn", "left", "label", "right", "side"] ["spots", "counts", "at", "turn"] (defScope s_turned) := ⟨rfl, rfl, rfl, by decide +kernel, rfl, by decide +kernel, by decide +kernel⟩
theorem sc_way_to : FnScope ["spots", "counts", "kind", "index", "way", "rest", "at", "turn", "side", "many"] ["spots", "counts", "kind", "index"] (defScope s_way_to) := ⟨rfl, rfl, rfl, by decide +kernel, rfl, by decide +kernel, by decide +kernel⟩
theorem sc_place_on : FnScope ["spots", "sizes", "kind", "way", "place", "at", "step", "turn", "side", "many"] ["spots", "sizes", "kind", "way"] (defScope s_place_on) := ⟨rfl, rfl, rfl, by decide +kernel, rfl, by decide +kernel, by decide +kernel⟩
theorem sc_label_on : FnScope ["spots", "way", "at", "step", "left", "label", "right"] ["spots", "way"] (defScope s_label_on) := ⟨rfl, rfl, rfl, by decide +kernel, rfl, by decide +kernel, by decide +kernel⟩
theorem sc_way_at : FnScope ["spots", "sizes", "kind", "place"] ["spots", "sizes", "kind", "place"] (defScope s_way_at) := ⟨rfl, rfl, rfl, by decide +kernel, rfl, by decide +kernel, by decide +kernel⟩
theorem sc_label_in : FnScope ["nest", "kind", "place", "spots", "sizes"] ["nest", "kind", "place"] (defScope s_label_in) := ⟨rfl, rfl, rfl, by decide +kernel, rfl, by decide +kernel, by decide +kernel⟩
theorem sc_other_place : FnScope ["nest", "kind", "place", "other", "spots", "sizes"] ["nest", "kind", "place", "other"] (defScope s_other_place) := ⟨rfl, rfl, rfl, by decide +kernel, rfl, by decide +kernel, by decide +kernel⟩
theorem sc__law_deck : FnScope ["_law_script", "_law_cells", "_law_cell"] ["_law_script"] (defScope s__law_deck) := ⟨rfl, rfl, rfl, by decide +kernel, rfl, by decide +kernel, by decide +kernel⟩
theorem sc__law_draw : FnScope ["_law_deck_here", "_law_many", "_law_cells", "_law_count", "_law_rests", "_law_seat", "_law_digits", "_law_mixed_here"] ["_law_deck_here", "_law_many"] (defScope s__law_draw) := ⟨rfl, rfl, rfl, by decide +kernel, rfl, by decide +kernel, by decide +kernel⟩
theorem sc__law_pick : FnScope ["_law_deck_here", "_law_items"] ["_law_deck_here", "_law_items"] (defScope s__law_pick) := ⟨rfl, rfl, rfl, by decide +kernel, rfl, by decide +kernel, by decide +kernel⟩
theorem sc__law_same : FnScope ["_law_found", "_law_due"] ["_law_found", "_law_due"] (defScope s__law_same) := ⟨rfl, rfl, rfl, by decide +kernel, rfl, by decide +kernel, by decide +kernel⟩
theorem sc__law_mixed : FnScope ["_law_deck_here", "_law_items", "_law_pool", "_law_found"] ["_law_deck_here", "_law_items"] (defScope s__law_mixed) := ⟨rfl, rfl, rfl, by decide +kernel, rfl, by decide +kernel, by decide +kernel⟩
theorem sc__law_tree : FnScope ["_law_deck_here", "_law_size", "_law_style", "_law_letters", "_law_left", "_law_label"] ["_law_deck_here", "_law_size", "_law_style", "_law_letters"] (defScope s__law_tree) := ⟨rfl, rfl, rfl, by decide +kernel, rfl, by decide +kernel, by decide +kernel⟩
theorem sc__law_drawn_tree : FnScope ["_law_deck_here", "_law_limit", "_law_letters"] ["_law_deck_here", "_law_limit"] (defScope s__law_drawn_tree) := ⟨rfl, rfl, rfl, by decide +kernel, rfl, by decide +kernel, by decide +kernel⟩
theorem sc__law_nodes : FnScope ["_law_tree_here", "_law_path", "_law_left", "_law_label", "_law_right_here"] ["_law_tree_here", "_law_path"] (defScope s__law_nodes) := ⟨rfl, rfl, rfl, by decide +kernel, rfl, by decide +kernel, by decide +kernel⟩
theorem sc__law_open : FnScope ["_law_tree_here", "_law_path", "_law_label", "_law_known", "_law_found", "_law_side"] ["_law_tree_here"] (defScope s__law_open) := ⟨rfl, rfl, rfl, by decide +kernel, rfl, by decide +kernel, by decide +kernel⟩
theorem sc__law_nest : FnScope ["_law_deck_here", "_law_entries", "_law_limit", "_law_few", "_law_found", "_law_seat", "_law_tree_here", "_law_links", "_law_path", "_law_index"] ["_law_deck_here", "_law_entries", "_law_limit", "_law_few"] (defScope s__law_nest) := ⟨rfl, rfl, rfl, by decide +kernel, rfl, by decide +kernel, by decide +kernel⟩
theorem sc__law_sizes : FnScope ["_law_nest_here", "_law_found", "_law_tree_here", "_law_links", "_law_path", "_law_index"] ["_law_nest_here"] (defScope s__law_sizes) := ⟨rfl, rfl, rfl, by decide +kernel, rfl, by decide +kernel, by decide +kernel⟩
theorem sc__law_part : FnScope ["_law_nest_here", "_law_sizes_here", "_law_seat", "_law_path", "_law_own", "_law_label", "_law_found", "_law_index"] ["_law_nest_here", "_law_sizes_here", "_law_seat", "_law_path"] (defScope s__law_part) := ⟨rfl, rfl, rfl, by decide +kernel, rfl, by decide +kernel, by decide +kernel⟩
theorem sc__law_way : FnScope ["_law_nest_here", "_law_kind", "_law_place", "_law_sizes_here", "_law_seat", "_law_path", "_law_places", "_law_step", "_law_own", "_law_index", "_law_linked", "_law_lower", "_law_upper", "_law_root", "_law_begin", "_law_gone", "_law_one", "_law_other"] ["_law_nest_here", "_law_kind", "_law_place"] (defScope s__law_way) := ⟨rfl, rfl, rfl, by decide +kernel, rfl, by decide +kernel, by decide +kernel⟩
theorem sc__law_right : FnScope ["_law_nest_here", "_law_kind", "_law_places", "_law_kinds", "_law_seen", "_law_place", "_law_due", "_law_other", "_law_found", "_law_there", "_law_k", "_law_row"] ["_law_nest_here", "_law_kind", "_law_places"] (defScope s__law_right) := ⟨rfl, rfl, rfl, by decide +kernel, rfl, by decide +kernel, by decide +kernel⟩
theorem sc_law : FnScope ["_law_script", "_law_deck_here", "_law_turn", "_law_nest_here", "_law_size", "_law_kind", "_law_places", "_law_root"] ["_law_script"] (defScope s_law) := ⟨rfl, rfl, rfl, by decide +kernel, rfl, by decide +kernel, by decide +kernel⟩
/-! ### set(list of ints) -/
section
open PySem.Froz
abbrev freshS (w : World) : Obj := { cls := .type "set", dict := none, data := .set #[] 0 (.fresh 0 0 (!w.params.followText "set-order")) }
section
variable {P : Program} {w : World} {A : Around} {E : Value → Shared → Prop} {s : Shared}
set_option maxHeartbeats 4000000 in
theorem call_setIL {l0 : Addr} {items : Array Value} (ns : List Int) {Q : Value → Shared → Prop} (hh : A.handled = none) (hl0 : s.heap.IsList l0 items) (hisz : items.size = ns.length) (hval : ∀ (i : Nat) (v : Value), items[i]? = some v → ∃ c t, ns[i]? = some c ∧ v = .int c t) (hb : ns.length + 1 < scanBound)
    (h : ∀ (h' : Heap) (tk c : Nat), SetR w h' s.heap.objs.size (fun j => decide (j ∈ ns)) c → c ≤ ns.length → (∀ b o, s.heap.get? b = some o → h'.get? b = some o) → Q (.ref s.heap.objs.size) { s with heap := h', toks := tk }) :
    wpAny (model P w) A (call (.type "set") [.ref l0]) Q E s := by
  obtain ⟨c, tl, hmro⟩ := F.called_set.mro
  have hmade := F.called_set.made
  have hsub := F.called_set.sub
  refine wpAny_call (codeAny_of_tree ?_)
  show wpAny _ _ (callAny (.type "set") _) _ _ _
  refine wpAny_pure ⟨Code.quiet_builtin _ (by decide +kernel), codeAny_builtin F.entry_type_call ?_⟩
  rw [Around.under_plain (weight_type_call_type "set" [.ref l0] []) rfl]
  have h1 := F.called_set.notType
  have h2 := F.called_set.canCreate
  have hct := F.typeCall_set_1 (.ref l0)
  repeat (any_goals (first | assumption | wp_step))
  refine codeAny_mono (code_set_led1 (.ref l0) (E := E) (Q₁ := fun obj s₁ => obj = .ref s.heap.objs.size ∧ s₁ = { s with heap := s.heap.push (freshS w) }) ⟨rfl, rfl⟩) fun r s₁ hr => ?_
  match r, hr with
  | .error e, hr => exact hr
  | .ok .next, hr => exact hr.elim
  | .ok .brk, hr => exact hr.elim
  | .ok .cont, hr => exact hr.elim
  | .ok (.ret obj), hr =>
    obtain ⟨rfl, rfl⟩ := hr
    have hS : (s.heap.push (freshS w)).get? s.heap.objs.size = some (freshS w) := Heap.get?_push_size _ rfl
    have hT : Shared.TypeIs { s with heap := s.heap.push (freshS w) } (.ref s.heap.objs.size) "set" := ⟨_, hS, rfl⟩
    have hli := F.called_set.init.lookup
    have hbi := F.called_set.init.bind (.ref s.heap.objs.size)
    repeat (any_goals (first | assumption | wp_step))
    refine codeAny_mono (codeAny_call_builtin (R := wants (fun r s₂ => r = .none ∧ ∃ h' tk c, s₂ = { s with heap := h', toks := tk } ∧ SetR w h' s.heap.objs.size (fun j => decide (j ∈ ns)) c ∧ c ≤ ns.length ∧
        (∀ b o, s.heap.get? b = some o → h'.get? b = some o)) E) F.called_set.init.plain F.entry_set_init (check_set_init_1 hT ?_)) fun r₂ s₂ hr₂ => ?_
    · obtain ⟨ol, hol, hcl, nl, hdl⟩ := hl0
      obtain ⟨ocls, odict, odata, oslots⟩ := ol
      simp only at hcl hdl
      subst hcl; subst hdl
      have hol' : (s.heap.push (freshS w)).get? l0 = some { cls := .type "list", dict := odict, data := .seq items nl, slots := oslots } := Heap.get?_push_of_some _ hol
      have hsls := F.sub_list_set
      have hslf := F.sub_list_frozenset
      have hne : (Value.type "list" == Value.type "dict") = false := by decide
      have hl1 : (s.heap.push (freshS w)).IsList l0 items := ⟨_, hol', rfl, nl, rfl⟩
      unfold Builtin.«set.__init__» noKeywords Builtin.Frozenset.updateFrom
      generalize hPI : pyIter = PI
      wp_walk
      subst hPI
      refine wpAny_pyIter_list hl1 ?_
      refine wpAny_bind (wpAny_runValue ?_)
      have hlS : l0 < s.heap.objs.size := Heap.lt_size hol
      have hh3 : A.in1.in1.in1.handled = none := by simp [hh]
      have hneI : l0 ≠ (s.heap.push (freshS w)).objs.size := by
        rw [Heap.size_push]; exact Nat.ne_of_lt (Nat.lt_succ_of_lt hlS)
      have hSf : s.heap.objs.size ∉ [(s.heap.push (freshS w)).objs.size, l0] := by
        rw [Heap.size_push]; simp only [List.mem_cons, List.mem_singleton, List.not_mem_nil, or_false, not_or]
        exact ⟨Nat.ne_of_lt (Nat.lt_succ_self _), Nat.ne_of_gt hlS⟩
      refine set_update_ints ((Walks.list hh3 _ l0 hneI items).toS) s.heap.objs.size hSf ns hisz hb hval (items.size - 0) 0 _ rfl (Nat.zero_le _) ⟨⟨_, Heap.get?_push_size _ rfl, rfl, rfl⟩, (hl1.push _)⟩
        ⟨0, Nat.le_refl 0, setR_new_at (Heap.get?_push_of_some _ hS)⟩ fun s' c' hm hl hS' => ?_
      obtain ⟨h', g2, d', tk', os'⟩ := s'
      have eg : g2 = s.gens := hm.gens
      have ed : d' = s.drawn := hm.drawn
      have eo : os' = s.os := hm.os
      subst eg; subst ed; subst eo
      show wpAny _ _ _ _ _ _
      refine wpAny_pure ?_
      show wpAny _ _ (ret Value.none) _ _ _
      refine wpAny_pure ⟨rfl, h', tk', c', rfl, hS', by omega, fun b o e => ?_⟩
      have hb0 : b < s.heap.objs.size := Heap.lt_size e
      have hb1 : b ≠ s.heap.objs.size := Nat.ne_of_lt hb0
      have hb2 : b ≠ (s.heap.push (freshS w)).objs.size := by
        rw [Heap.size_push]; exact Nat.ne_of_lt (Nat.lt_succ_of_lt hb0)
      exact hm.heap b o (by simp only [List.mem_cons, List.mem_singleton, List.not_mem_nil, or_false, not_or]; exact ⟨hb1, hb2⟩) (Heap.get?_push_of_some _ (Heap.get?_push_of_some _ e))
    · match r₂, hr₂ with
      | .error e, hr₂ => exact hr₂
      | .ok .next, hr₂ => exact hr₂.elim
      | .ok .brk, hr₂ => exact hr₂.elim
      | .ok .cont, hr₂ => exact hr₂.elim
      | .ok (.ret r), hr₂ =>
        obtain ⟨rfl, h', tk, c', rfl, hS', hl, hk'⟩ := hr₂
        repeat (any_goals (first | assumption | wp_step))
        exact h _ _ _ hS' hl hk'
end
section
variable {X : Cx}
theorem vals_ints' : ∀ {ns : List Int} {vs : List Value}, Vals (ns.map V.int) vs → ∀ (i : Nat) (v : Value), vs[i]? = some v → ∃ c t, ns[i]? = some c ∧ v = .int c t
  | [], _, .nil, _, _, h => by simp at h
  | c :: cs, _, .cons ⟨t, e⟩ r, 0, v, h => by
    cases h
    exact ⟨c, t, rfl, e⟩
  | c :: cs, _, .cons _ r, i + 1, v, h => vals_ints' r i v h
def rSetIL (K : PySem.W.Frag) (w : World) : List V → Hp → VK → Prop := fun xs H Q => ∃ (l0 : Addr) (ns : List Int), xs = [.ref l0] ∧ SqL K H l0 (ns.map V.int) ∧ ns.length < 64 ∧
  ∀ (a : Addr) (c : Nat), H a = none → c ≤ ns.length → Q (.ref a) (upd H a (SetO w a (fun j => decide (j ∈ ns)) c))
theorem cr_setIL (hc : X.calm = true) : CallR X (.type "set") (rSetIL X.K X.w) := by
  intro pins s σ H xs us Q I r h
  obtain ⟨l0, ns, rfl, hl, hz, q⟩ := h
  rw [Vals.ref1 r]
  obtain ⟨its, rv, pl, _⟩ := I.list hl
  have hlen := rv.length
  rw [List.length_map] at hlen
  refine call_setIL (P := X.prog) (w := X.w) ns (I.ok.hd hc) pl.isList (by rw [List.size_toArray]; exact hlen.symm) (fun i v hv => vals_ints' rv i v (by simpa using hv)) (by unfold scanBound; omega) fun h' tk c R hl k => ?_
  exact ⟨.ref s.heap.objs.size, upd H s.heap.objs.size (SetO X.w s.heap.objs.size (fun j => decide (j ∈ ns)) c), I.laid (t' := tk) k (Nat.le_refl _) (setO_new R), rfl, q _ c (I.hok.fresh (Nat.le_refl _)) hl⟩
end
end
/-! ### [*text, ..] -/
section
variable {X : Cx} {e : Expr} {es : List Expr} {te : TE} {t : TA} {p : Pos}
theorem pa_starS (hc : X.calm = true) (he : PE X e te) (hr : PA X es t) (hs : starEach (.Starred e p :: es) X.env = (true, eval e X.env) :: starEach es X.env := by rfl) :
    PA X (.Starred e p :: es) (fun σ H Q => te σ H fun x H1 => ∃ z : Str, x = .str z ∧ z.cps.size ≤ 1000 ∧ t σ H1 fun ys H2 => Q ((z.cps.toList.map fun c => V.str ⟨#[c]⟩) ++ ys) H2) := by
  refine ⟨fun pos pins s σ H Q I h => ?_⟩
  refine PySem.W.items_star (thn (he.run pins s σ H _ I h) fun v s1 ⟨y, H1, I1, ry, z, ey, hz, q⟩ => ?_) hs
  subst ey
  obtain ⟨tk, rfl⟩ := ry
  have step : wpAny (model X.prog X.w) X.A (collect (.str z tk)) (fun us s2 => wpAny (model X.prog X.w) X.A (spliced (backTo pos (starEach es X.env))) (fun vs s3 => ∃ xs H3, Inv X pins σ H3 s3 ∧ Vals xs (us ++ vs) ∧ Q xs H3) X.xe s2) X.xe s1 := by
    refine wpAny_collect_str (I1.ok.hd hc) z tk (fun s' acc hk hg hd ho hacc => ?_) (small hz)
    have e0 : s' = { s1 with heap := s'.heap, toks := s'.toks } := by
      cases s'
      cases s1
      simp_all
    have hv : Vals (z.cps.toList.map fun c => V.str ⟨#[c]⟩) acc.toList := vals_signs _ _ (by rw [Array.length_toList, Array.length_toList]; exact hacc.1) fun j v e => by
      obtain ⟨c, u, h1, h2⟩ := hacc.2 j v (by rw [← Array.getElem?_toList]; exact e)
      exact ⟨c, u, by rw [Array.getElem?_toList]; exact h1, h2⟩
    have I2 : Inv X pins σ H1 s' := by
      rw [e0]
      exact I1.kept hk
    exact thn (hr.run pos pins s' σ H1 _ I2 q) fun ws s3 ⟨vs, H3, I3, r3, q3⟩ => ⟨_, H3, I3, hv.append r3, q3⟩
  unfold PySem.W.StarOf notIterableAtAll
  exact wpAny_bind (wpAny_specialOf (typeIs_str s1 z tk) PySem.F.slot_str_iter.lookup (wpAny_pure ⟨rfl, step⟩))
end
/-! ### xs != [], xs == [] -/
section
variable {X : Cx}
theorem op_neL (hu : X.A.units < cLine) : OpR X (compareOp .NotEq) (fun x y H Q => ∃ a b xs, x = .ref a ∧ y = .ref b ∧ SqL X.K H a xs ∧ SqL X.K H b [] ∧ Q (.bl (!xs.isEmpty)) H) := by
  intro pins s σ H x y v u Q I rx ry h
  obtain ⟨a, b, xs, rfl, rfl, hx, hy, q⟩ := h
  cases rx
  cases ry
  obtain ⟨its, r1, t1, _⟩ := I.list hx
  obtain ⟨its2, r2, t2, _⟩ := I.list hy
  cases r2
  cases r1 with
  | nil =>
    have rc := SeqAt.RcNeAt.lists (A := X.A) (s := s) (items := ([] : List Value).toArray) (items2 := ([] : List Value).toArray) (e := fun _ => true) t1.isList t2.isList rfl hu (fun j h1 _ => absurd h1 (by simp))
    exact rc X.prog X.w X.xe _ ⟨.bl _, H, I, rfl, q⟩
  | cons _ _ =>
    have rc := SeqAt.RcNeAt.lists_lengths (A := X.A) (s := s) t1.isList t2.isList (by simp) hu
    exact rc X.prog X.w X.xe _ ⟨.bl _, H, I, rfl, q⟩
theorem cmpOf_ltS {prog : Program} {w : World} {A : Around} (x y : Str) (t u : Tok) :
    CmpOf prog w A .Lt (fun i v => (#[Value.str x t, Value.str y u])[i]? = some v) (fun i j => decide (([x, y].getD i x).cps.toList < ([x, y].getD j x).cps.toList)) := fun i j vi vj s Q E hi hj h => by
  have one : ∀ (i : Nat) (v : Value), (#[Value.str x t, Value.str y u])[i]? = some v → ∃ tk, v = .str ([x, y].getD i x) tk := fun i v e => by
    match i with
    | 0 => exact ⟨t, by simpa using e.symm⟩
    | 1 => exact ⟨u, by simpa using e.symm⟩
    | n + 2 => simp at e
  obtain ⟨t1, rfl⟩ := one i vi hi
  obtain ⟨t2, rfl⟩ := one j vj hj
  exact lt_str h
theorem cmpOf_gtS {prog : Program} {w : World} {A : Around} (x y : Str) (t u : Tok) :
    CmpOf prog w A .Gt (fun i v => (#[Value.str x t, Value.str y u])[i]? = some v) (fun i j => decide (([x, y].getD j x).cps.toList < ([x, y].getD i x).cps.toList)) := fun i j vi vj s Q E hi hj h => by
  have one : ∀ (i : Nat) (v : Value), (#[Value.str x t, Value.str y u])[i]? = some v → ∃ tk, v = .str ([x, y].getD i x) tk := fun i v e => by
    match i with
    | 0 => exact ⟨t, by simpa using e.symm⟩
    | 1 => exact ⟨u, by simpa using e.symm⟩
    | n + 2 => simp at e
  obtain ⟨t1, rfl⟩ := one i vi hi
  obtain ⟨t2, rfl⟩ := one j vj hj
  exact PySem.P.gt_str h
theorem argBest1 (bt : Nat → Nat → Bool) : argBest bt 1 = if bt 1 0 = true then 1 else 0 := rfl
theorem max_two_str {prog : Program} {w : World} {A : Around} {E : Value → Shared → Prop} {s : Shared} {Q : Value → Shared → Prop} {x y : Str} {t u : Tok} (hh : A.handled = none)
    (h : ∀ h' tk, (∀ c o, s.heap.get? c = some o → h'.get? c = some o) → Q (if x.cps.toList < y.cps.toList then .str y u else .str x t) { s with heap := h', toks := tk }) :
    wpAny (model prog w) A (call (.builtin "max") [.str x t, .str y u]) Q E s := by
  have hT : (s.heap.push { cls := .type "tuple", data := .seq #[.str x t, .str y u] }).IsTuple s.heap.objs.size #[.str x t, .str y u] := ⟨_, Heap.get?_push_size _ rfl, rfl, 0, rfl⟩
  refine call_max_two (wpAny_pyIter_tuple hT ?_)
  have hsz : (s.heap.push { cls := .type "tuple", data := .seq #[.str x t, .str y u] }).objs.size = s.heap.objs.size + 1 := Heap.size_push ..
  refine ⟨_, [_, s.heap.objs.size], [_], _, _, _, _, rfl, Walks.tuple (A := A.in1) hh _ s.heap.objs.size (by rw [hsz]; exact Nat.ne_of_lt (Nat.lt_succ_self _)) #[.str x t, .str y u],
    ⟨⟨_, Heap.get?_push_size _ rfl, rfl, rfl⟩, hT.push _⟩, fun c hc => ?_, by simp, cmpOf_gtS x y t u, fun v h' tk hP hk => ?_⟩
  · show c < ((s.heap.push _).push _).objs.size
    rw [Heap.size_push, hsz]
    rcases List.mem_cons.mp hc with rfl | hc
    · rw [hsz]; exact Nat.lt_succ_self _
    · rcases List.mem_cons.mp hc with rfl | hc
      · exact Nat.lt_succ_of_lt (Nat.lt_succ_self _)
      · cases hc
  · have hold : ∀ c o, s.heap.get? c = some o → h'.get? c = some o := fun c o e => by
      refine hk c o (fun hm => ?_) (Heap.get?_push_of_some _ (Heap.get?_push_of_some _ e))
      rcases List.mem_cons.mp hm with e1 | hm
      · have := Heap.lt_size e; rw [e1, hsz] at this; exact Nat.lt_irrefl _ (Nat.lt_of_succ_lt this)
      · cases hm
    have := h h' tk hold
    have hv : v = if x.cps.toList < y.cps.toList then .str y u else .str x t := by
      rw [show #[Value.str x t, Value.str y u].size - 1 = 1 from rfl, argBest1] at hP
      replace hP : #[Value.str x t, Value.str y u][if decide (x.cps.toList < y.cps.toList) = true then 1 else 0]? = some v := hP
      by_cases hc : x.cps.toList < y.cps.toList
      · rw [if_pos (decide_eq_true hc)] at hP
        rw [if_pos hc]
        exact (Option.some.inj hP).symm
      · rw [if_neg (fun z => hc (of_decide_eq_true z))] at hP
        rw [if_neg hc]
        exact (Option.some.inj hP).symm
    rw [hv]; exact this
theorem min_two_str {prog : Program} {w : World} {A : Around} {E : Value → Shared → Prop} {s : Shared} {Q : Value → Shared → Prop} {x y : Str} {t u : Tok} (hh : A.handled = none)
    (h : ∀ h' tk, (∀ c o, s.heap.get? c = some o → h'.get? c = some o) → Q (if y.cps.toList < x.cps.toList then .str y u else .str x t) { s with heap := h', toks := tk }) :
    wpAny (model prog w) A (call (.builtin "min") [.str x t, .str y u]) Q E s := by
  have hT : (s.heap.push { cls := .type "tuple", data := .seq #[.str x t, .str y u] }).IsTuple s.heap.objs.size #[.str x t, .str y u] := ⟨_, Heap.get?_push_size _ rfl, rfl, 0, rfl⟩
  refine call_min_two (wpAny_pyIter_tuple hT ?_)
  have hsz : (s.heap.push { cls := .type "tuple", data := .seq #[.str x t, .str y u] }).objs.size = s.heap.objs.size + 1 := Heap.size_push ..
  refine ⟨_, [_, s.heap.objs.size], [_], _, _, _, _, rfl, Walks.tuple (A := A.in1) hh _ s.heap.objs.size (by rw [hsz]; exact Nat.ne_of_lt (Nat.lt_succ_self _)) #[.str x t, .str y u],
    ⟨⟨_, Heap.get?_push_size _ rfl, rfl, rfl⟩, hT.push _⟩, fun c hc => ?_, by simp, cmpOf_ltS x y t u, fun v h' tk hP hk => ?_⟩
  · show c < ((s.heap.push _).push _).objs.size
    rw [Heap.size_push, hsz]
    rcases List.mem_cons.mp hc with rfl | hc
    · rw [hsz]; exact Nat.lt_succ_self _
    · rcases List.mem_cons.mp hc with rfl | hc
      · exact Nat.lt_succ_of_lt (Nat.lt_succ_self _)
      · cases hc
  · have hold : ∀ c o, s.heap.get? c = some o → h'.get? c = some o := fun c o e => by
      refine hk c o (fun hm => ?_) (Heap.get?_push_of_some _ (Heap.get?_push_of_some _ e))
      rcases List.mem_cons.mp hm with e1 | hm
      · have := Heap.lt_size e; rw [e1, hsz] at this; exact Nat.lt_irrefl _ (Nat.lt_of_succ_lt this)
      · cases hm
    have := h h' tk hold
    have hv : v = if y.cps.toList < x.cps.toList then .str y u else .str x t := by
      rw [show #[Value.str x t, Value.str y u].size - 1 = 1 from rfl, argBest1] at hP
      replace hP : #[Value.str x t, Value.str y u][if decide (y.cps.toList < x.cps.toList) = true then 1 else 0]? = some v := hP
      by_cases hc : y.cps.toList < x.cps.toList
      · rw [if_pos (decide_eq_true hc)] at hP
        rw [if_pos hc]
        exact (Option.some.inj hP).symm
      · rw [if_neg (fun z => hc (of_decide_eq_true z))] at hP
        rw [if_neg hc]
        exact (Option.some.inj hP).symm
    rw [hv]; exact this
theorem call_max2S (hc : X.calm = true) : CallR X (.builtin "max") (fun xs H Q => ∃ a b : Nat, xs = [.str (ch a), .str (ch b)] ∧ Q (.str (ch (max a b))) H) := by
  intro pins s σ H xs us Q I r h
  obtain ⟨a, b, rfl, q⟩ := h
  obtain ⟨u, w', rfl, ⟨t, rfl⟩, ⟨t', rfl⟩⟩ := vals2 r
  refine max_two_str (I.ok.hd hc) fun h' tk k => ⟨_, H, I.kept k, ?_, q⟩
  have e : ((ch a).cps.toList < (ch b).cps.toList) ↔ a < b := by
    have := ch_lt a b
    simpa using this
  by_cases hj : a < b
  · rw [if_pos (e.mpr hj), Nat.max_eq_right (Nat.le_of_lt hj)]; exact ⟨_, rfl⟩
  · rw [if_neg (fun z => hj (e.mp z)), Nat.max_eq_left (by omega)]; exact ⟨_, rfl⟩
theorem call_min2S (hc : X.calm = true) : CallR X (.builtin "min") (fun xs H Q => ∃ a b : Nat, xs = [.str (ch a), .str (ch b)] ∧ Q (.str (ch (min a b))) H) := by
  intro pins s σ H xs us Q I r h
  obtain ⟨a, b, rfl, q⟩ := h
  obtain ⟨u, w', rfl, ⟨t, rfl⟩, ⟨t', rfl⟩⟩ := vals2 r
  refine min_two_str (I.ok.hd hc) fun h' tk k => ⟨_, H, I.kept k, ?_, q⟩
  have e : ((ch b).cps.toList < (ch a).cps.toList) ↔ b < a := by
    have := ch_lt b a
    simpa using this
  by_cases hj : b < a
  · rw [if_pos (e.mpr hj), Nat.min_eq_right (Nat.le_of_lt hj)]; exact ⟨_, rfl⟩
  · rw [if_neg (fun z => hj (e.mp z)), Nat.min_eq_left (by omega)]; exact ⟨_, rfl⟩
end
/-! ### the deck -/
structure Deck where
  dk : Addr
  ca : Addr
  ra : Addr
structure DeckOk (H : Hp) (D : Deck) (n : Nat) : Prop where
  ex : ∃ cells rests : List Int, H D.dk = some (.lst [.ref D.ca, .int (n : Int), .ref D.ra]) ∧ H D.ca = some (.lst (cells.map V.int)) ∧ H D.ra = some (.lst (rests.map V.int)) ∧ 0 < cells.length ∧ rests.length = cells.length ∧ cells.length ≤ 60
  dc : D.dk ≠ D.ca
  dr : D.dk ≠ D.ra
  cr : D.ca ≠ D.ra
/-- all stands still but the deck's list and its rests -/
def SameD (D : Deck) (H H' : Hp) : Prop := ∀ b o, b ≠ D.dk → b ≠ D.ra → H b = some o → H' b = some o
theorem SameD.refl (D : Deck) (H : Hp) : SameD D H H := fun _ _ _ _ h => h
theorem SameD.trans {D : Deck} {H H1 H2 : Hp} (a : SameD D H H1) (b : SameD D H1 H2) : SameD D H H2 := fun c o h1 h2 h => b c o h1 h2 (a c o h1 h2 h)
theorem SameD.of {D : Deck} {H H' : Hp} (h : Same H H') : SameD D H H' := fun b o _ _ e => h b o e
theorem DeckOk.lists {H : Hp} {D : Deck} {n : Nat} (d : DeckOk H D n) : (∃ xs, H D.dk = some (.lst xs)) ∧ (∃ xs, H D.ra = some (.lst xs)) := by
  obtain ⟨c, r, h1, _, h3, _⟩ := d.ex
  exact ⟨⟨_, h1⟩, ⟨_, h3⟩⟩
theorem SameD.keepT {D : Deck} {H H' : Hp} {n : Nat} (h : SameD D H H') (d : DeckOk H D n) : KeepT H H' := fun b xs e => by
  obtain ⟨⟨x1, h1⟩, ⟨x2, h2⟩⟩ := d.lists
  exact h b _ (ne_of e h1 (by intro z; cases z)) (ne_of e h2 (by intro z; cases z)) e
theorem SameD.free {D : Deck} {H H' : Hp} {n : Nat} (h : SameD D H H') (d : DeckOk H' D n) {p : Addr} (e : H' p = none) : H p = none := by
  obtain ⟨⟨x1, h1⟩, ⟨x2, h2⟩⟩ := d.lists
  have n1 : p ≠ D.dk := fun z => by rw [z, h1] at e; cases e
  have n2 : p ≠ D.ra := fun z => by rw [z, h2] at e; cases e
  cases q : H p with
  | none => rfl
  | some o =>
    rw [h p o n1 n2 q] at e
    cases e
theorem DeckOk.same {H H' : Hp} {D : Deck} {n : Nat} (d : DeckOk H D n) (h : Same H H') : DeckOk H' D n := by
  obtain ⟨c, r, h1, h2, h3, h4⟩ := d.ex
  exact ⟨⟨c, r, h _ _ h1, h _ _ h2, h _ _ h3, h4⟩, d.dc, d.dr, d.cr⟩
structure Off (D : Deck) (p : Addr) : Prop where
  dk : p ≠ D.dk
  ca : p ≠ D.ca
  ra : p ≠ D.ra
theorem DeckOk.new {H : Hp} {D : Deck} {n : Nat} (d : DeckOk H D n) {p : Addr} (e : H p = none) : Off D p := by
  obtain ⟨c, r, h1, h2, h3, _⟩ := d.ex
  refine ⟨fun z => ?_, fun z => ?_, fun z => ?_⟩
  · rw [z, h1] at e
    cases e
  · rw [z, h2] at e
    cases e
  · rw [z, h3] at e
    cases e
theorem DeckOk.put {H : Hp} {D : Deck} {n : Nat} (d : DeckOk H D n) {p : Addr} (f : Off D p) (o : HO) : DeckOk (upd H p o) D n := by
  obtain ⟨c, r, h1, h2, h3, h4⟩ := d.ex
  exact ⟨⟨c, r, by rw [upd_ne f.dk.symm]; exact h1, by rw [upd_ne f.ca.symm]; exact h2, by rw [upd_ne f.ra.symm]; exact h3, h4⟩, d.dc, d.dr, d.cr⟩
theorem SameD.put {D : Deck} {H H' : Hp} {p : Addr} (s : SameD D H H') (e : H p = none) (o : HO) : SameD D H (upd H' p o) := fun b u h1 h2 h => by
  rw [upd_ne (ne_of_none h e)]
  exact s b u h1 h2 h
theorem SameD.at {D : Deck} {H H' : Hp} {p : Addr} {o : HO} (s : SameD D H H') (f : Off D p) (e : H p = some o) : H' p = some o := s p o f.dk f.ra e
theorem modB (z p : Int) (h0 : 0 < p) : 0 ≤ z % p ∧ z % p < p := ⟨Int.emod_nonneg z (by omega), Int.emod_lt_of_pos z h0⟩
def spDraw : Sp := fun vs H Q _ => ∃ (D : Deck) (n : Nat) (m : Int), vs = [.ref D.dk, .int m] ∧ DeckOk H D n ∧ n ≤ 1000000 ∧ 0 < m ∧ m < 10000000000000000000000000000000 ∧ ∀ (i : Int) (H' : Hp), 0 ≤ i → i < m → DeckOk H' D (n + 1) → SameD D H H' → Q (.int i) H'
theorem sq_le {n : Nat} (h : n ≤ 1000000) : 75025 * (n : Int) * (n : Int) ≤ 75025000000000000 ∧ 0 ≤ 75025 * (n : Int) * (n : Int) := by
  have h1 : (n : Int) * (n : Int) ≤ 1000000 * 1000000 := Int.mul_le_mul (by omega) (by omega) (by omega) (by omega)
  have h0 : 0 ≤ (n : Int) * (n : Int) := Int.mul_nonneg (by omega) (by omega)
  rw [Int.mul_assoc]
  omega
section
variable {P : Program} {w : World} {K : PySem.W.Frag} {mg : Str → Option Value} {base : Heap} {f : Addr} {fd : FuncData}
theorem ok_draw {k : Nat} (F : Fun K "_law_draw" "_law_draw" s__law_draw f fd) (M : Mgs mg) : FnOk P w K mg base CX0 (k + 1) f fd ["_law_deck_here", "_law_many"] spDraw := by
  refine F.ok sc__law_draw (fun vs H Q E h => ?_) (fun cdv A outer s H vs Q E hr h => ?_)
  · obtain ⟨D, n, m, rfl, _⟩ := h
    rfl
  obtain ⟨D, n, m, rfl, d, hn, m0, m1, q⟩ := h
  obtain ⟨cells, rests, e1, e2, e3, c0, cr, c1⟩ := d.ex
  refine ⟨_, (pss_cons (ps_asg (pv 0) (pg_unl rfl (pgs_cons (pg_name (i := 2) sc__law_draw.nd rfl (.inl rfl)) (pgs_cons (pg_name (i := 3) sc__law_draw.nd rfl (.inl rfl)) (pgs_cons (pg_name (i := 4) sc__law_draw.nd rfl (.inl rfl)) pgs_nil)))))
    (pss_cons (ps_set (i := 5) sc__law_draw.nd rfl (.inl rfl) (pe_op op_mod (pv 3) (pe_callB call_len_seq rfl M.len PySem.boot_len (pa_cons (pv 2) pa_nil))))
    (pss_cons (ps_asg (pe_op op_add (pv 3) pe_int) (pg_sub (pv 0) pe_int set_list))
    (pss_cons (ps_if (pt_cmpR op_gt (pe_ix ix_list (pv 4) (pv 5) (fun _ _ => rfl)) pe_int (nomark _))
      (pss_cons (ps_set (i := 6) sc__law_draw.nd rfl (.inl rfl) (pe_ix ix_list (pv 4) (pv 5) (fun _ _ => rfl)))
    (pss_cons (ps_asg (pe_op op_fdivW (pv 6) (pv 1)) (pg_sub (pv 4) (pv 5) set_list))
    (pss_one (ps_ret (pe_op op_mod (pv 6) (pv 1)))))) pss_nil)
    (pss_cons (ps_set (i := 7) sc__law_draw.nd rfl (.inl rfl) (pe_op op_add (pe_op op_mod (pe_ix ix_list (pv 2) (pv 5) (fun _ _ => rfl)) pe_int) (pe_op op_mul (pe_op op_mul pe_int (pv 3)) (pv 3))))
    (pss_cons (ps_set (i := 7) sc__law_draw.nd rfl (.inl rfl) (pe_op op_mod (pe_op op_pow (pe_op op_add (pe_op op_add (pv 7) (pe_op op_mul pe_int (pv 3))) pe_int) pe_int) pe_int))
    (pss_cons (ps_set (i := 7) sc__law_draw.nd rfl (.inl rfl) (pe_op op_mod (pe_op op_pow (pe_op op_add (pv 7) (pe_op op_mul pe_int (pv 3))) pe_int) pe_int))
    (pss_one (ps_ret (pe_op op_mod (pe_op op_fdiv (pv 7) pe_int) (pv 1))))))))))), ?_⟩
  refine ⟨_, rfl, D.dk, _, rfl, SqL.of e1, rfl, _, _, rfl, _, _, rfl, _, _, rfl, rfl, ?_⟩
  have cl : ((cells.map V.int).length : Int) = (cells.length : Int) := by rw [List.length_map]
  refine ⟨_, rfl, _, rfl, D.ca, _, rfl, .inl (SqL.of e2), _, _, rfl, rfl, (by show (0 : Int) < ((cells.map V.int).length : Int); rw [cl]; omega), ?_⟩
  have i0 : 0 ≤ (n : Int) % ((cells.map V.int).length : Int) := Int.emod_nonneg _ (by rw [cl]; omega)
  have i1 : (n : Int) % ((cells.map V.int).length : Int) < (cells.length : Int) := by
    rw [cl]
    exact Int.emod_lt_of_pos _ (by omega)
  refine ⟨_, rfl, _, _, rfl, rfl, _, rfl, D.dk, _, _, 1, rfl, rfl, e1, rfl, ?_⟩
  have x2 : (upd H D.dk (.lst [.ref D.ca, .int ((n : Int) + 1), .ref D.ra])) D.ca = some (.lst (cells.map V.int)) := by rw [upd_ne d.dc.symm]; exact e2
  have x3 : (upd H D.dk (.lst [.ref D.ca, .int ((n : Int) + 1), .ref D.ra])) D.ra = some (.lst (rests.map V.int)) := by rw [upd_ne d.dr.symm]; exact e3
  have x1 : (upd H D.dk (.lst [.ref D.ca, .int ((n : Int) + 1), .ref D.ra])) D.dk = some (.lst [.ref D.ca, .int ((n + 1 : Nat) : Int), .ref D.ra]) := upd_same
  have sd : SameD D H (upd H D.dk (.lst [.ref D.ca, .int ((n : Int) + 1), .ref D.ra])) := fun b o h1 _ e => by rw [upd_ne h1]; exact e
  have rl : ((rests.map V.int).length : Int) = (cells.length : Int) := by rw [List.length_map, cr]
  have l1 : ((n : Int) % ((cells.map V.int).length : Int)).toNat < rests.length := by omega
  have l2 : ((n : Int) % ((cells.map V.int).length : Int)).toNat < cells.length := by omega
  have a1 := at_map (f := V.int) i0 (List.getElem?_eq_getElem l1)
  have a2 := at_map (f := V.int) i0 (List.getElem?_eq_getElem l2)
  refine ⟨_, rfl, _, rfl, D.ra, _, _, _, rfl, rfl, SqL.of x3, a1, _, _, rfl, rfl, _, rfl, ite2 (fun _ => ?_) (fun _ => ?_)⟩
  · refine ⟨_, rfl, _, rfl, D.ra, _, _, _, rfl, rfl, SqL.of x3, a1, ?_⟩
    refine ⟨_, rfl, _, rfl, _, _, rfl, rfl, wide_div (b := 110) m0 (Nat.lt_of_lt_of_le (show m.natAbs < 10000000000000000000000000000000 by omega) (by decide)) (by decide) (by decide), ?_⟩
    refine ⟨_, rfl, _, rfl, D.ra, _, _, _, rfl, rfl, x3, ixN_nat i0 (by rw [rl]; exact i1), ?_⟩
    refine ⟨_, rfl, _, rfl, _, _, rfl, rfl, m0, ?_⟩
    refine q _ _ (Int.emod_nonneg _ (by omega)) (Int.emod_lt_of_pos _ m0) ⟨⟨cells, rests.set ((n : Int) % ((cells.map V.int).length : Int)).toNat (rests[((n : Int) % ((cells.map V.int).length : Int)).toNat] / m), ?_, ?_, ?_, c0, ?_, c1⟩, d.dc, d.dr, d.cr⟩ ?_
    · rw [upd_ne d.dr]; exact x1
    · rw [upd_ne d.cr]; exact x2
    · rw [upd_same, List.map_set]
    · rw [List.length_set]; exact cr
    · exact sd.trans fun b o _ h2 e => by rw [upd_ne h2]; exact e
  · have b1 := modB cells[((n : Int) % ((cells.map V.int).length : Int)).toNat] 2147483563 (by decide)
    have b2 := sq_le hn
    refine ⟨_, rfl, _, rfl, D.ca, _, _, _, rfl, rfl, SqL.of x2, a2, _, _, rfl, rfl, (show (0 : Int) < 2147483563 by decide), _, rfl, _, _, rfl, rfl, .inl ⟨by decide, by decide⟩, _, rfl, _, _, rfl, rfl, .inr ⟨by omega, by omega⟩, _, _, rfl, rfl, ?_⟩
    refine ⟨_, rfl, _, rfl, _, _, rfl, rfl, .inl ⟨by decide, by decide⟩, _, _, rfl, rfl, _, _, rfl, rfl, _, _, rfl, rfl, ⟨by decide, by decide, by omega⟩, _, _, rfl, rfl, (show (0 : Int) < 2305843009213693921 by decide), ?_⟩
    generalize (cells[((n : Int) % ((cells.map V.int).length : Int)).toNat] % 2147483563 + 75025 * (n : Int) * (n : Int) + 10946 * (n : Int) + 53) ^ Int.toNat 3 = y1
    have b3 := modB y1 2305843009213693921 (by decide)
    refine ⟨_, rfl, _, rfl, _, _, rfl, rfl, .inl ⟨by decide, by decide⟩, _, _, rfl, rfl, _, _, rfl, rfl, ⟨by decide, by decide, by omega⟩, _, _, rfl, rfl, (show (0 : Int) < 2305843009213693951 by decide), ?_⟩
    refine ⟨_, rfl, _, _, rfl, rfl, ⟨by decide, by decide⟩, _, rfl, _, _, rfl, rfl, m0, ?_⟩
    exact q _ _ (Int.emod_nonneg _ (by omega)) (Int.emod_lt_of_pos _ m0) ⟨⟨cells, rests, x1, x2, x3, c0, cr, c1⟩, d.dc, d.dr, d.cr⟩ sd
end
/-! ### _law_deck -/
theorem rep_flat {α : Type} (a : α) : ∀ m : Nat, (List.replicate m [a]).flatten = List.replicate m a
  | 0 => rfl
  | m + 1 => by
    rw [List.replicate_succ, List.replicate_succ, List.flatten_cons, rep_flat a m]
    rfl
def spDeck (K : PySem.W.Frag) : Sp := fun vs H Q _ => ∃ (a : Addr) (ns : List Int), vs = [.ref a] ∧ SqL K H a (ns.map V.int) ∧ ∀ (D : Deck) (H' : Hp), DeckOk H' D 0 → Same H H' → Q (.ref D.dk) H'
section
variable {P : Program} {w : World} {K : PySem.W.Frag} {mg : Str → Option Value} {base : Heap} {f : Addr} {fd : FuncData}
theorem ok_deck {k : Nat} (F : Fun K "_law_deck" "_law_deck" s__law_deck f fd) (M : Mgs mg) : FnOk P w K mg base CX0 (k + 1) f fd ["_law_script"] (spDeck K) := by
  refine F.ok sc__law_deck (fun vs H Q E h => ?_) (fun cdv A outer s H vs Q E hr h => ?_)
  · obtain ⟨a, ns, rfl, _⟩ := h
    rfl
  obtain ⟨a, ns, rfl, hS, q⟩ := h
  refine ⟨_, (pss_cons (ps_set (i := 1) sc__law_deck.nd rfl (.inl rfl) (pe_op op_cat (pe_callTy call_list_of rfl M.list (by decide +kernel) (pa_cons (pe_slice sl_list (pv 0) po_none (po_some pe_int)) pa_nil)) (pe_op op_rep (pe_lst (pa_cons pe_int pa_nil)) (pe_callTy call_int1 rfl M.int (by decide +kernel) (pa_cons (pe_cmpR op_eq (pe_callB call_len_seq rfl M.len PySem.boot_len (pa_cons (pv 0) pa_nil)) pe_int (nomark _)) pa_nil)))))
    (pss_one (ps_ret (pe_lst (pa_cons (pv 1) (pa_cons pe_int (pa_cons (pe_lc (own := [("_law_cell", 2)]) (g := gName 2) (tt := tYes) rfl sc__law_deck.nd (pi_list (pv 1)) (blkOk_by (N := ["_law_script", "_law_cells", "_law_cell"]) (sc := defScope s__law_deck) (by decide +kernel)) (fun _ _ _ _ _ => (pg_name (i := 2) sc__law_deck.nd rfl (.inl rfl))) (fun _ _ _ _ _ => pts_nil) (fun _ _ _ _ _ => (pe_op op_mul (pv 2) (pe_callTy call_int1 rfl M.int (by decide +kernel) (pa_cons (pe_cmpR op_ge (pv 2) (pe_op op_pow pe_int pe_int) (nomark _)) pa_nil))))) pa_nil))))))), ?_⟩
  refine ⟨.ref a, rfl, 60, rfl, a, ns.map V.int, rfl, hS, fun c nc => ?_⟩
  rw [show (60 : Int) = ((60 : Nat) : Int) from rfl, cut_to, ← List.map_take]
  have s1 := same_new nc (.lst ((ns.take 60).map V.int))
  have ec := upd_same (H := H) (a := c) (o := .lst ((ns.take 60).map V.int))
  generalize upd H c (.lst ((ns.take 60).map V.int)) = H1 at s1 ec
  refine ⟨c, _, rfl, .inl (SqL.of ec), fun c2 nc2 => ?_⟩
  have s2 := same_new nc2 (.lst ((ns.take 60).map V.int))
  have ec2 := upd_same (H := H1) (a := c2) (o := .lst ((ns.take 60).map V.int))
  generalize upd H1 c2 (.lst ((ns.take 60).map V.int)) = H2 at s2 ec2
  refine ⟨(by show 1 ≤ sizeLine; decide), fun z nz => ?_⟩
  have s3 := same_new nz (.lst [.int 6])
  have ez := upd_same (H := H2) (a := z) (o := .lst [.int 6])
  have ec3 := s3 _ _ ec2
  generalize upd H2 z (.lst [.int 6]) = H3 at s3 ez ec3
  have sH := (s1.trans s2).trans s3
  refine ⟨.ref a, rfl, a, _, rfl, .inl (sH.seq hS), rfl, .inr ⟨_, rfl, z, _, _, rfl, rfl, ez, ?_, ?_, ?_, fun y ny => ?_⟩⟩
  · split <;> decide
  · split <;> decide
  · split <;> decide
  have s4 := same_new ny (.lst (List.replicate (Int.toNat (if decide (V.int ((ns.map V.int).length : Int) = V.int 0) = true then 1 else 0)) [V.int 6]).flatten)
  obtain ⟨ex, hex, hexl⟩ : ∃ ex : List Int, (List.replicate (Int.toNat (if decide (V.int ((ns.map V.int).length : Int) = V.int 0) = true then 1 else 0)) [V.int 6]).flatten = ex.map V.int ∧ 0 < (ns.take 60).length + ex.length ∧ (ns.take 60).length + ex.length ≤ 60 := by
    by_cases h0 : ns.length = 0
    · refine ⟨[6], ?_, Nat.succ_pos _, ?_⟩
      · rw [show (decide (V.int ((ns.map V.int).length : Int) = V.int 0)) = true by rw [List.length_map, h0]; rfl]
        rfl
      · rw [List.length_take, h0]
        decide
    · refine ⟨[], ?_, ?_, ?_⟩
      · rw [show (decide (V.int ((ns.map V.int).length : Int) = V.int 0)) = false by
          apply decide_eq_false
          intro z
          have z' := V.int.inj z
          rw [List.length_map] at z'
          omega]
        rfl
      · rw [List.length_take, List.length_nil]; omega
      · rw [List.length_take, List.length_nil]; omega
  refine ⟨c2, y, _, _, rfl, rfl, s4 _ _ ec3, upd_same, ?_, fun p np => ?_⟩
  · rw [hex, List.length_map, List.length_map]
    exact small (by omega)
  have s5 := same_new np (.lst ((ns.take 60).map V.int ++ (List.replicate (Int.toNat (if decide (V.int ((ns.map V.int).length : Int) = V.int 0) = true then 1 else 0)) [V.int 6]).flatten))
  have s6 := sH.trans (s4.trans s5)
  refine ⟨.ref p, rfl, _, rfl, p, rfl, ⟨_, SqL.of upd_same⟩, fun r nr => ?_⟩
  rw [hex, ← List.map_append] at s5 s6 nr ⊢
  generalize hH2 : upd (upd H3 y (.lst (ex.map V.int))) p (.lst ((ns.take 60 ++ ex).map V.int)) = H4 at s5 s6 nr ⊢
  have ep : H4 p = some (.lst ((ns.take 60 ++ ex).map V.int)) := by rw [← hH2]; exact upd_same
  have hpr : p ≠ r := ne_of_none ep nr
  refine lc_list (K := K) (a := p) (xs := (ns.take 60 ++ ex).map V.int) (fun i H' => Same H4 H' ∧ ∃ ys : List Int, ys.length = i ∧ H' r = some (.lst (ys.map V.int))) ⟨same_new nr _, [], rfl, upd_same⟩ (fun i H' _ hp => SqL.of (hp.1 _ _ ep)) (fun i x H' hx hp => ?_) (fun H5 hp => ?_)
  · obtain ⟨sm, ys, hy, hd⟩ := hp
    rw [List.getElem?_map] at hx
    obtain ⟨v, hv, rfl⟩ := Option.map_eq_some_iff.mp hx
    have hi : i < 61 := by
      have := (List.getElem?_eq_some_iff.mp hv).1
      rw [List.length_append] at this
      omega
    refine ⟨rfl, kept ?_⟩
    refine ⟨_, rfl, _, rfl, _, _, rfl, rfl, ⟨by decide, by decide, by decide⟩, _, _, rfl, rfl, .inr ⟨_, rfl, _, _, rfl, rfl, .inr ?_, _, hd, by rw [List.length_map]; exact small1000 (by omega), fun b o e => ?_, ys ++ [v * (if decide (v ≥ (10 : Int) ^ Int.toNat 18) = true then 1 else 0)], by rw [List.length_append, hy]; rfl, ?_⟩⟩
    · split <;> decide
    · rw [upd_ne (ne_of_none e nr)]
      exact sm _ _ e
    · rw [upd_same, List.map_append]
      rfl
  · obtain ⟨sm, ys, hy, hd⟩ := hp
    refine ⟨(by show 3 ≤ sizeLine; decide), fun t nt => ?_⟩
    have s9 := same_new nt (.lst [.ref p, .int 0, .ref r])
    have ep3 := sm _ _ ep
    refine q ⟨t, p, r⟩ _ ⟨⟨ns.take 60 ++ ex, ys, upd_same, s9 _ _ ep3, s9 _ _ hd, ?_, ?_, ?_⟩, (ne_of_none ep3 nt).symm, (ne_of_none hd nt).symm, hpr⟩ (s6.trans (sm.trans s9))
    · rw [List.length_append]; omega
    · rw [hy, List.length_map]
    · rw [List.length_append]; omega
end
/-! ### _law_pick, _law_mixed -/
abbrev vc (c : Nat) : V := .str (ch c)
abbrev vt (z : List Nat) : V := .str (tx z)
theorem at_ge {α : Type} {xs : List α} {i : Int} (h0 : 0 ≤ i) (h : i.toNat < xs.length) : atI xs i = some xs[i.toNat] := by
  have e := atI_nat (xs := xs) (j := i.toNat) (List.getElem?_eq_getElem h)
  rwa [Int.toNat_of_nonneg h0] at e
theorem erase_perm {α : Type} : ∀ {l : List α} {i : Nat} (h : i < l.length), List.Perm (l[i] :: l.eraseIdx i) l
  | x :: l, 0, _ => List.Perm.refl _
  | x :: l, i + 1, h => by
    have := erase_perm (l := l) (i := i) (Nat.lt_of_succ_lt_succ h)
    show List.Perm (l[i]'(Nat.lt_of_succ_lt_succ h) :: x :: l.eraseIdx i) (x :: l)
    exact (List.Perm.swap _ _ _).trans (this.cons x)
def spPick (K : PySem.W.Frag) : Sp := fun vs H Q _ => ∃ (D : Deck) (n : Nat) (v : V), vs = [.ref D.dk, v] ∧ DeckOk H D n ∧ n ≤ 1000000 ∧
  ((∃ ls : List Nat, v = vt ls ∧ ls ≠ [] ∧ ls.length ≤ 60 ∧ ∀ (c : Nat) (H' : Hp), c ∈ ls → DeckOk H' D (n + 1) → SameD D H H' → Q (vc c) H') ∨
   (∃ (a : Addr) (xs : List V), v = .ref a ∧ H a = some (.lst xs) ∧ Off D a ∧ xs ≠ [] ∧ xs.length ≤ 60 ∧ ∀ (x : V) (H' : Hp), x ∈ xs → DeckOk H' D (n + 1) → SameD D H H' → Q x H'))
section
variable {P : Program} {w : World} {K : PySem.W.Frag} {mg : Str → Option Value} {base : Heap} {f : Addr} {fd : FuncData}
theorem ok_pick {k : Nat} (F : Fun K "_law_pick" "_law_pick" s__law_pick f fd) (M : Mgs mg) (D_law_draw : Df P w K mg base (k + 1) "_law_draw" ["_law_deck_here", "_law_many"] spDraw) : FnOk P w K mg base CX0 (k + 2) f fd ["_law_deck_here", "_law_items"] (spPick K) := by
  refine F.ok sc__law_pick (fun vs H Q E h => ?_) (fun cdv A outer s H vs Q E hr h => ?_)
  · obtain ⟨D, n, v, rfl, _⟩ := h
    rfl
  obtain ⟨D, n, v, rfl, d, hn, hc⟩ := h
  refine ⟨_, (pss_one (ps_ret (pe_ix ix_seq (pv 1) (pe_call D_law_draw.ok (hr.mono (by omega)) rfl D_law_draw.g D_law_draw.kp D_law_draw.b .nil pass0 (pa_cons (pv 0) (pa_cons (pe_callB call_len rfl M.len PySem.boot_len (pa_cons (pv 1) pa_nil)) pa_nil))) (fun _ _ => rfl)))), ?_⟩
  rcases hc with ⟨ls, rfl, ne, hl, q⟩ | ⟨a, xs, rfl, ea, oa, ne, hl, q⟩
  · have lz : (tx ls).length ≤ sizeLine := small (by rw [tx_len]; omega)
    have l0 : 0 < ls.length := List.length_pos_iff.mpr ne
    refine ⟨_, rfl, _, rfl, _, rfl, _, _, rfl, ⟨lz, rfl⟩, D, n, _, rfl, d, hn, by rw [tx_len]; omega, by rw [tx_len]; omega, fun i H1 i0 i1 d1 s1 => ?_⟩
    rw [tx_len] at i1
    have hi : i.toNat < ls.length := by omega
    have ai : atI (tx ls).cps.toList i = some ls[i.toNat] := at_ge (xs := ls) i0 hi
    exact .inr (.inr ⟨_, _, _, rfl, rfl, lz, ai, q _ H1 (List.getElem_mem hi) d1 s1⟩)
  · have l0 : 0 < xs.length := List.length_pos_iff.mpr ne
    refine ⟨_, rfl, _, rfl, _, rfl, _, _, rfl, .inl ⟨_, SqL.of ea, rfl⟩, D, n, _, rfl, d, hn, by omega, by omega, fun i H1 i0 i1 d1 s1 => ?_⟩
    have hi : i.toNat < xs.length := by omega
    have ai : atI xs i = some xs[i.toNat] := at_ge i0 hi
    exact .inl ⟨a, xs, _, _, rfl, rfl, SqL.of (s1.at oa ea), ai, q _ H1 (List.getElem_mem hi) d1 s1⟩
def spMixed : Sp := fun vs H Q _ => ∃ (D : Deck) (n : Nat) (a : Addr) (ls : List V), vs = [.ref D.dk, .ref a] ∧ DeckOk H D n ∧ n + ls.length ≤ 1000000 ∧ H a = some (.lst ls) ∧ Off D a ∧ ls.length ≤ 60 ∧
  ∀ (p : Addr) (zs : List V) (H' : Hp), DeckOk H' D (n + ls.length) → SameD D H H' → H p = none → H' p = some (.lst zs) → zs.Perm ls → Off D p → Q (.ref p) H'
theorem ok_mixed {k : Nat} (F : Fun K "_law_mixed" "_law_mixed" s__law_mixed f fd) (M : Mgs mg) (D_law_draw : Df P w K mg base (k + 1) "_law_draw" ["_law_deck_here", "_law_many"] spDraw) : FnOk P w K mg base CX0 (k + 2) f fd ["_law_deck_here", "_law_items"] spMixed := by
  refine F.ok sc__law_mixed (fun vs H Q E h => ?_) (fun cdv A outer s H vs Q E hr h => ?_)
  · obtain ⟨D, n, a, ls, rfl, _⟩ := h
    rfl
  obtain ⟨D, n, a, ls, rfl, d, hn, ea, oa, hl, q⟩ := h
  refine ⟨_, (pss_cons (ps_set (i := 2) sc__law_mixed.nd rfl (.inl rfl) (pe_callTy call_list_of rfl M.list (by decide +kernel) (pa_cons (pv 1) pa_nil)))
    (pss_cons (ps_set (i := 3) sc__law_mixed.nd rfl (.inl rfl) (pe_lst pa_nil))
    (pss_cons (ps_while PassesOwn.never (pt_cmpR (op_neL hr.units0) (pv 2) (pe_lst pa_nil) (nomark _))
      (pss_one (ps_expr (pe_bm PySem.F.plainAttrs_list PySem.F.slot_list_append PySem.F.type_list_append mt_append (pv 3) (pa_cons (pe_bm PySem.F.plainAttrs_list PySem.F.slot_list_pop PySem.F.type_list_pop mt_popAt (pv 2) (pa_cons (pe_call D_law_draw.ok (hr.mono (by omega)) rfl D_law_draw.g D_law_draw.kp D_law_draw.b .nil pass0 (pa_cons (pv 0) (pa_cons (pe_callB call_len_seq rfl M.len PySem.boot_len (pa_cons (pv 2) pa_nil)) pa_nil))) pa_nil)) pa_nil)))))
    (pss_one (ps_ret (pv 3)))))), ?_⟩
  refine ⟨_, rfl, a, _, rfl, .inl (SqL.of ea), fun ra nra => ?_⟩
  refine ⟨(by show 0 ≤ sizeLine; decide), fun fa nfa => ?_⟩
  have q1 := same_new nra (.lst ls)
  have q2 := same_new nfa (.lst [])
  have era := q2 _ _ (upd_same (H := H) (a := ra) (o := .lst ls))
  have nrf : ra ≠ fa := ne_of_none upd_same nfa
  have nfaH : H fa = none := by
    rw [upd_ne nrf.symm] at nfa
    exact nfa
  have ora := d.new nra
  have ofa := d.new nfaH
  refine while_by (fun σ H' => σ = [some (.ref D.dk), some (.ref a), some (.ref ra), some (.ref fa)] ∧ ∃ rest xs : List V, DeckOk H' D (n + xs.length) ∧ SameD D H H' ∧ H' ra = some (.lst rest) ∧ H' fa = some (.lst xs) ∧ (xs ++ rest).Perm ls) (fun σ H' => match H' ra with | some (.lst xs) => xs.length | _ => 0)
    ⟨rfl, ls, [], (d.same q1).same q2, SameD.of (q1.trans q2), era, upd_same, List.Perm.refl _⟩ (fun σ H' hp => ?_) ?_
  · obtain ⟨rfl, rest, xs, d', s', er, ef, pm⟩ := hp
    have hlen : xs.length + rest.length = ls.length := by rw [← List.length_append]; exact pm.length_eq
    refine ⟨_, rfl, (by show 0 ≤ sizeLine; decide), fun el ne => ?_⟩
    have q3 := same_new ne (.lst [])
    refine ⟨ra, el, _, rfl, rfl, SqL.of (q3 _ _ er), SqL.of upd_same, _, rfl, ?_⟩
    have d1 := d'.same q3
    have s1 := s'.trans (SameD.of q3)
    have er1 := q3 _ _ er
    have ef1 := q3 _ _ ef
    generalize upd H' el (.lst []) = H1 at d1 s1 er1 ef1
    cases hg : rest with
    | nil =>
      refine iteF ?_
      subst hg
      rw [List.append_nil] at pm
      rw [List.length_nil, Nat.add_zero] at hlen
      rw [hlen] at d1
      exact ⟨_, rfl, q fa xs H1 d1 s1 nfaH ef1 pm ofa⟩
    | cons g0 gr =>
      refine iteT ?_
      have r0 : 0 < rest.length := by rw [hg]; exact Nat.succ_pos _
      refine ⟨_, rfl, .inl ⟨rfl, _, SqL.of ef1⟩, _, rfl, .inl ⟨rfl, _, SqL.of er1⟩, _, rfl, _, rfl, ra, _, rfl, .inl (SqL.of er1), D, _, _, rfl, d1, by omega, by omega, by omega, fun j H2 j0 j1 d2 s2 => ?_⟩
      have hj : j.toNat < rest.length := by omega
      have er2 := s2.at ora er1
      have ef2 := s2.at ofa ef1
      refine ⟨ra, _, j, j.toNat, rest[j.toNat], rfl, rfl, er2, by omega, by omega, (ixN_seq (ixN_nat j0 (by omega))).1, List.getElem?_eq_getElem hj, ?_⟩
      have ef3 : (upd H2 ra (.lst (rest.eraseIdx j.toNat))) fa = some (.lst xs) := by rw [upd_ne nrf.symm]; exact ef2
      refine ⟨fa, _, _, rfl, rfl, ef3, small1000 (by omega), ?_⟩
      refine ⟨⟨rfl, rest.eraseIdx j.toNat, xs ++ [rest[j.toNat]], ?_, ((s1.trans s2).put nra _).put nfaH _, ?_, upd_same, ?_⟩, ?_⟩
      · rw [List.length_append]
        exact (d2.put ora _).put ofa _
      · rw [upd_ne nrf, upd_same]
      · rw [List.append_assoc]
        exact (List.Perm.append_left xs (erase_perm hj)).trans pm
      · show (match (upd (upd H2 ra _) fa (.lst (xs ++ [rest[j.toNat]]))) ra with | some (.lst xs) => xs.length | _ => 0) < (match H' ra with | some (.lst xs) => xs.length | _ => 0)
        rw [upd_ne nrf, upd_same, er]
        show (rest.eraseIdx j.toNat).length < rest.length
        rw [List.length_eraseIdx_of_lt hj]
        omega
  · intro σ H' Q1 Q2 hQ h
    obtain ⟨v, e, h0, h⟩ := h
    refine ⟨v, e, h0, fun el ne => ?_⟩
    obtain ⟨a, b, zs, h1, h2, h3, h4, k, h5, h6⟩ := h el ne
    exact ⟨a, b, zs, h1, h2, h3, h4, k, h5, hQ _ _ h6⟩
end
/-! ### _law_tree, _law_drawn_tree -/
def ltB (t : B) : Prop := ∀ c ∈ t.pre, 97 ≤ c ∧ c ≤ 122
theorem iteI {i j : Int} {A B : Prop} (h : i = j) (a : A) : if decide (V.int i = V.int j) = true then A else B := by
  rw [if_pos (decide_eq_true (congrArg V.int h))]; exact a
theorem iteJ {i j : Int} {A B : Prop} (h : i ≠ j) (b : B) : if decide (V.int i = V.int j) = true then A else B := by
  rw [if_neg (fun z => h (V.int.inj (of_decide_eq_true z)))]; exact b
theorem pick_many {z : Int} {i way : Int} (z1 : 1 ≤ z) (i0 : 0 ≤ i) (i1 : i < z) (w0 : 0 ≤ way) (w1 : way ≤ 4) : ∃ m : Nat, atI [V.int i, V.int (z - 1), V.int 0, V.int ((z - 1) * (z % 2)), V.int ((z - 1) / 2)] way = some (.int (m : Int)) ∧ (m : Int) < z := by
  have h : way = ((0 : Nat) : Int) ∨ way = ((1 : Nat) : Int) ∨ way = ((2 : Nat) : Int) ∨ way = ((3 : Nat) : Int) ∨ way = ((4 : Nat) : Int) := by omega
  rcases h with rfl | rfl | rfl | rfl | rfl
  · exact ⟨i.toNat, by rw [Int.toNat_of_nonneg i0]; exact atI_nat rfl, by omega⟩
  · exact ⟨(z - 1).toNat, by rw [Int.toNat_of_nonneg (by omega)]; exact atI_nat rfl, by omega⟩
  · exact ⟨0, atI_nat rfl, by omega⟩
  · have h2 : z % 2 = 0 ∨ z % 2 = 1 := by omega
    rcases h2 with e | e
    · exact ⟨0, by rw [e, Int.mul_zero]; exact atI_nat rfl, by omega⟩
    · exact ⟨(z - 1).toNat, by rw [e, Int.mul_one, Int.toNat_of_nonneg (by omega)]; exact atI_nat rfl, by omega⟩
  · exact ⟨((z - 1) / 2).toNat, by rw [Int.toNat_of_nonneg (by omega)]; exact atI_nat rfl, by omega⟩
def spTree (N : Nat) : Sp := fun vs H Q _ => ∃ (D : Deck) (n z : Nat) (way : Int) (ls : List Nat), vs = [.ref D.dk, .int (z : Int), .int way, vt ls] ∧ DeckOk H D n ∧ n + 2 * z ≤ 1000000 ∧ z < N ∧ z ≤ 1000 ∧ 0 ≤ way ∧ way ≤ 4 ∧ ls ≠ [] ∧ ls.length ≤ 60 ∧
  ∀ (v : V) (t : B) (H' : Hp), DeckOk H' D (n + 2 * z) → SameD D H H' → BAt H' v t → t.size = z → (∀ c ∈ t.pre, c ∈ ls) → Q v H'
def spDrawn : Sp := fun vs H Q _ => ∃ (D : Deck) (n lim : Nat), vs = [.ref D.dk, .int (lim : Int)] ∧ DeckOk H D n ∧ n + 3 + 2 * lim ≤ 1000000 ∧ 1 ≤ lim ∧ lim ≤ 20 ∧
  ∀ (v : V) (t : B) (n' : Nat) (H' : Hp), DeckOk H' D n' → n' ≤ n + 3 + 2 * lim → SameD D H H' → BAt H' v t → 1 ≤ t.size → t.size ≤ lim → ltB t → Q v H'
section
variable {P : Program} {w : World} {K : PySem.W.Frag} {mg : Str → Option Value} {base : Heap} {f : Addr} {fd : FuncData}
theorem ok_tree (F : Fun K "_law_tree" "_law_tree" s__law_tree f fd) (b : Binds K fd ["_law_deck_here", "_law_size", "_law_style", "_law_letters"] []) (g : mg "_law_tree" = some (.ref f)) (D_law_draw : Df P w K mg base 1 "_law_draw" ["_law_deck_here", "_law_many"] spDraw) (D_law_pick : Df P w K mg base 2 "_law_pick" ["_law_deck_here", "_law_items"] (spPick K)) :
    ∀ N : Nat, FnOk P w K mg base CX0 (N + 3) f fd ["_law_deck_here", "_law_size", "_law_style", "_law_letters"] (spTree N)
  | 0 => by
    have no : ∀ vs H Q E, ¬ spTree 0 vs H Q E := fun vs H Q E h => by
      obtain ⟨D, n, z, way, ls, _, _, _, h1, _⟩ := h
      omega
    exact ⟨fun vs H Q E h => absurd h (no vs H Q E), fun A outer s H args us vs Q E _ _ _ _ h => absurd h (no vs H Q E)⟩
  | N + 1 => by
    have Dself : Df P w K mg base (N + 3) "_law_tree" ["_law_deck_here", "_law_size", "_law_style", "_law_letters"] (spTree N) := ⟨f, fd, ok_tree F b g D_law_draw D_law_pick N, b, F.kp, g⟩
    refine F.ok sc__law_tree (fun vs H Q E h => ?_) (fun cdv A outer s H vs Q E hr h => ?_)
    · obtain ⟨D, n, z, way, ls, rfl, _⟩ := h
      rfl
    obtain ⟨D, n, z, way, ls, rfl, d, hn, hz, hz1, w0, w1, lne, ll, q⟩ := h
    refine ⟨_, (pss_cons (ps_if (pt_cmpR op_eq (pv 1) pe_int (nomark _))
      (pss_one (ps_ret pe_non)) pss_nil)
    (pss_cons (ps_set (i := 4) sc__law_tree.nd rfl (.inl rfl) (pe_ix ix_list (pe_lst (pa_cons (pe_call D_law_draw.ok (hr.mono (by omega)) rfl D_law_draw.g D_law_draw.kp D_law_draw.b .nil pass0 (pa_cons (pv 0) (pa_cons (pv 1) pa_nil))) (pa_cons (pe_op op_sub (pv 1) pe_int) (pa_cons pe_int (pa_cons (pe_op op_mul (pe_op op_sub (pv 1) pe_int) (pe_op op_mod (pv 1) pe_int)) (pa_cons (pe_op op_fdiv (pe_op op_sub (pv 1) pe_int) pe_int) pa_nil)))))) (pv 2) (fun _ _ => rfl)))
    (pss_cons (ps_set (i := 5) sc__law_tree.nd rfl (.inl rfl) (pe_call D_law_pick.ok (hr.mono (by omega)) rfl D_law_pick.g D_law_pick.kp D_law_pick.b .nil pass0 (pa_cons (pv 0) (pa_cons (pv 3) pa_nil))))
    (pss_one (ps_ret (pe_tup (pa_cons (pe_call Dself.ok (hr.mono (by omega)) rfl Dself.g Dself.kp Dself.b .nil pass0 (pa_cons (pv 0) (pa_cons (pv 4) (pa_cons (pv 2) (pa_cons (pv 3) pa_nil))))) (pa_cons (pv 5) (pa_cons (pe_call Dself.ok (hr.mono (by omega)) rfl Dself.g Dself.kp Dself.b .nil pass0 (pa_cons (pv 0) (pa_cons (pe_op op_sub (pe_op op_sub (pv 1) pe_int) (pv 4)) (pa_cons (pv 2) (pa_cons (pv 3) pa_nil))))) pa_nil))))))))), ?_⟩
    by_cases e0 : z = 0
    · subst e0
      refine ⟨_, rfl, rfl, _, rfl, iteI rfl ?_⟩
      exact q .non .nil H d (SameD.refl D H) .nil rfl fun c hc => by cases hc
    · refine ⟨_, rfl, rfl, _, rfl, iteJ (by omega) ?_⟩
      refine ⟨_, rfl, _, rfl, D, n, _, rfl, d, by omega, by omega, by omega, fun i H1 i0 i1 d1 s1 => ?_⟩
      refine ⟨_, rfl, _, _, rfl, rfl, _, rfl, _, _, rfl, rfl, _, rfl, _, _, rfl, rfl, (show (0 : Int) < 2 by decide), _, _, rfl, rfl, .inl ⟨by omega, by omega⟩, ?_⟩
      refine ⟨_, rfl, _, _, rfl, rfl, _, _, rfl, rfl, ⟨by decide, by decide⟩, (by show 5 ≤ sizeLine; decide), fun l nl => ?_⟩
      obtain ⟨m, hm, ml⟩ := pick_many (show (1 : Int) ≤ (z : Int) by omega) i0 i1 w0 w1
      refine ⟨_, rfl, l, _, _, _, rfl, rfl, SqL.of upd_same, hm, ?_⟩
      have q1 := same_new nl (.lst [V.int i, V.int ((z : Int) - 1), V.int 0, V.int (((z : Int) - 1) * ((z : Int) % 2)), V.int (((z : Int) - 1) / 2)])
      have d2 := d1.same q1
      have s2 := s1.trans (SameD.of q1)
      refine ⟨_, rfl, _, rfl, D, n + 1, _, rfl, d2, by omega, .inl ⟨ls, rfl, lne, ll, fun c H3 hc d3 s3 => ?_⟩⟩
      refine ⟨_, rfl, _, rfl, _, rfl, _, rfl, D, n + 2, m, way, ls, rfl, d3, by omega, by omega, by omega, w0, w1, lne, ll, fun v1 t1 H4 d4 s4 a4 z4 c4 => ?_⟩
      refine ⟨_, rfl, _, rfl, _, rfl, _, _, rfl, rfl, _, rfl, _, _, rfl, rfl, _, rfl, _, rfl, ?_⟩
      have em : (z : Int) - 1 - (m : Int) = ((z - 1 - m : Nat) : Int) := by omega
      refine ⟨D, _, z - 1 - m, way, ls, by rw [← em]; rfl, d4, by omega, by omega, by omega, w0, w1, lne, ll, fun v2 t2 H5 d5 s5 a5 z5 c5 => ?_⟩
      refine ⟨(by show 3 ≤ sizeLine; decide), fun r nr => ?_⟩
      have q6 := same_new nr (.tup [v1, .str ⟨#[c]⟩, v2])
      refine q (.ref r) (.node t1 c t2) _ ?_ (((s2.trans s3).trans s4).trans (s5.trans (SameD.of q6))) (.node upd_same ((a4.keep (s5.keepT d4)).same q6) (a5.same q6)) ?_ ?_
      · rw [show n + 2 * z = n + 2 + 2 * m + 2 * (z - 1 - m) by omega]
        exact d5.same q6
      · show t1.size + 1 + t2.size = z
        omega
      · intro x hx
        rcases List.mem_cons.mp hx with rfl | hx
        · exact hc
        · rcases List.mem_append.mp hx with hx | hx
          · exact c4 x hx
          · exact c5 x hx
theorem some_letters {x : V} (h : x ∈ [V.str "a", V.str "ab", V.str "abcxyz", V.str "abcdefghijklmnopqrstuvwxyz"]) : ∃ ls : List Nat, x = vt ls ∧ ls ≠ [] ∧ ls.length ≤ 60 ∧ ∀ c ∈ ls, 97 ≤ c ∧ c ≤ 122 := by
  have go : ∀ s : Str, s.cps.toList ≠ [] → s.cps.toList.length ≤ 60 → (∀ c ∈ s.cps.toList, 97 ≤ c ∧ c ≤ 122) → ∃ ls : List Nat, V.str s = vt ls ∧ ls ≠ [] ∧ ls.length ≤ 60 ∧ ∀ c ∈ ls, 97 ≤ c ∧ c ≤ 122 := fun s h1 h2 h3 => ⟨s.cps.toList, by show V.str s = V.str ⟨s.cps.toList.toArray⟩; rw [Array.toArray_toList], h1, h2, h3⟩
  rcases List.mem_cons.mp h with rfl | h
  · exact go _ (by decide +kernel) (by decide +kernel) (by decide +kernel)
  rcases List.mem_cons.mp h with rfl | h
  · exact go _ (by decide +kernel) (by decide +kernel) (by decide +kernel)
  rcases List.mem_cons.mp h with rfl | h
  · exact go _ (by decide +kernel) (by decide +kernel) (by decide +kernel)
  rcases List.mem_cons.mp h with rfl | h
  · exact go _ (by decide +kernel) (by decide +kernel) (by decide +kernel)
  · cases h
theorem ok_drawn (F : Fun K "_law_drawn_tree" "_law_drawn_tree" s__law_drawn_tree f fd) (D_law_draw : Df P w K mg base 1 "_law_draw" ["_law_deck_here", "_law_many"] spDraw) (D_law_pick : Df P w K mg base 2 "_law_pick" ["_law_deck_here", "_law_items"] (spPick K))
    (D_law_tree : Df P w K mg base 33 "_law_tree" ["_law_deck_here", "_law_size", "_law_style", "_law_letters"] (spTree 30)) : FnOk P w K mg base CX0 34 f fd ["_law_deck_here", "_law_limit"] spDrawn := by
  refine F.ok sc__law_drawn_tree (fun vs H Q E h => ?_) (fun cdv A outer s H vs Q E hr h => ?_)
  · obtain ⟨D, n, lim, rfl, _⟩ := h
    rfl
  obtain ⟨D, n, lim, rfl, d, hn, l1, l2, q⟩ := h
  refine ⟨_, (pss_cons (ps_set (i := 2) sc__law_drawn_tree.nd rfl (.inl rfl) (pe_call D_law_pick.ok (hr.mono (by omega)) rfl D_law_pick.g D_law_pick.kp D_law_pick.b .nil pass0 (pa_cons (pv 0) (pa_cons (pe_lst (pa_cons pe_str (pa_cons pe_str (pa_cons pe_str (pa_cons pe_str pa_nil))))) pa_nil))))
    (pss_one (ps_ret (pe_call D_law_tree.ok (hr.mono (by omega)) rfl D_law_tree.g D_law_tree.kp D_law_tree.b .nil pass0 (pa_cons (pv 0) (pa_cons (pe_op op_add pe_int (pe_call D_law_draw.ok (hr.mono (by omega)) rfl D_law_draw.g D_law_draw.kp D_law_draw.b .nil pass0 (pa_cons (pv 0) (pa_cons (pv 1) pa_nil)))) (pa_cons (pe_call D_law_draw.ok (hr.mono (by omega)) rfl D_law_draw.g D_law_draw.kp D_law_draw.b .nil pass0 (pa_cons (pv 0) (pa_cons pe_int pa_nil))) (pa_cons (pv 2) pa_nil)))))))), ?_⟩
  refine ⟨_, rfl, (by show 4 ≤ sizeLine; decide), fun la nla => ?_⟩
  have q1 := same_new nla (.lst [V.str "a", V.str "ab", V.str "abcxyz", V.str "abcdefghijklmnopqrstuvwxyz"])
  refine ⟨D, n, _, rfl, d.same q1, by omega, .inr ⟨la, _, rfl, upd_same, d.new nla, List.cons_ne_nil _ _, by decide, fun x H1 hx d1 s1 => ?_⟩⟩
  obtain ⟨ls, rfl, lne, ll, lr⟩ := some_letters hx
  refine ⟨_, rfl, _, rfl, _, rfl, D, n + 1, _, rfl, d1, by omega, by omega, by omega, fun i H2 i0 i1 d2 s2 => ?_⟩
  refine ⟨_, _, rfl, rfl, _, rfl, D, n + 2, 5, rfl, d2, by omega, by decide, by decide, fun j H3 j0 j1 d3 s3 => ?_⟩
  refine ⟨_, rfl, ?_⟩
  have ei : (1 : Int) + i = ((1 + i.toNat : Nat) : Int) := by omega
  refine ⟨D, n + 3, 1 + i.toNat, j, ls, by rw [← ei]; rfl, d3, by omega, by omega, by omega, j0, by omega, lne, ll, fun v t H4 d4 s4 a4 z4 c4 => ?_⟩
  exact q v t _ H4 d4 (by omega) (((SameD.of q1).trans s1).trans ((s2.trans s3).trans s4)) a4 (by omega) (by omega) fun c hc => lr c (c4 c hc)
end
/-! ### walks -/
inductive Kd where
  | first
  | between
  | last
def Kd.str : Kd → Str
  | .first => "first"
  | .between => "between"
  | .last => "last"
def B.post : B → List Nat
  | .nil => []
  | .node l x r => l.post ++ r.post ++ [x]
def B.wk (k : Kd) (t : B) : List Nat := match k with
  | .first => t.pre
  | .between => t.mid
  | .last => t.post
def B.steps (k : Kd) : B → List Nat → List (List Nat × Nat)
  | .nil, _ => []
  | .node l x r, q => match k with
    | .first => [(q, x)] ++ l.steps k (q ++ [108]) ++ r.steps k (q ++ [114])
    | .between => l.steps k (q ++ [108]) ++ [(q, x)] ++ r.steps k (q ++ [114])
    | .last => l.steps k (q ++ [108]) ++ r.steps k (q ++ [114]) ++ [(q, x)]
theorem B.steps_wk (k : Kd) (t : B) : ∀ q : List Nat, (t.steps k q).map (·.2) = t.wk k := by
  induction t with
  | nil => intro q; cases k <;> rfl
  | node l x r h1 h2 =>
    intro q
    have a := h1 (q ++ [108])
    have b := h2 (q ++ [114])
    cases k
    · show ([(q, x)] ++ l.steps .first (q ++ [108]) ++ r.steps .first (q ++ [114])).map (·.2) = x :: (l.pre ++ r.pre)
      rw [List.map_append, List.map_append, a, b]; rfl
    · show (l.steps .between (q ++ [108]) ++ [(q, x)] ++ r.steps .between (q ++ [114])).map (·.2) = l.mid ++ x :: r.mid
      rw [List.map_append, List.map_append, a, b]
      show l.mid ++ [x] ++ r.mid = _
      rw [List.append_assoc]; rfl
    · show (l.steps .last (q ++ [108]) ++ r.steps .last (q ++ [114]) ++ [(q, x)]).map (·.2) = l.post ++ r.post ++ [x]
      rw [List.map_append, List.map_append, a, b]; rfl
theorem B.wk_len (k : Kd) (t : B) : (t.wk k).length = t.size := by
  cases k
  · exact t.pre_len
  · exact t.mid_len
  · show t.post.length = t.size
    induction t with
    | nil => rfl
    | node l x r h1 h2 =>
      show (l.post ++ r.post ++ [x]).length = l.size + 1 + r.size
      rw [List.length_append, List.length_append, h1, h2, List.length_cons, List.length_nil]
      omega
theorem B.steps_len (k : Kd) (t : B) (q : List Nat) : (t.steps k q).length = t.size := by
  rw [← t.wk_len k, ← t.steps_wk k q, List.length_map]
inductive StAt (H : Hp) : List V → List (List Nat × Nat) → Prop
  | nil : StAt H [] []
  | cons {a : Addr} {q : List Nat} {x : Nat} {vs : List V} {ss : List (List Nat × Nat)} : H a = some (.tup [.str (tx q), .str (ch x)]) → StAt H vs ss → StAt H (.ref a :: vs) ((q, x) :: ss)
theorem StAt.keep {H H' : Hp} (k : KeepT H H') {vs : List V} {ss : List (List Nat × Nat)} (h : StAt H vs ss) : StAt H' vs ss := by
  induction h with
  | nil => exact .nil
  | cons e _ ih => exact .cons (k _ _ e) ih
theorem StAt.same {H H' : Hp} (k : Same H H') {vs : List V} {ss : List (List Nat × Nat)} (h : StAt H vs ss) : StAt H' vs ss := h.keep (Tw.Same.keepT k)
theorem StAt.app {H : Hp} {vs us : List V} {ss ts : List (List Nat × Nat)} (h : StAt H vs ss) (g : StAt H us ts) : StAt H (vs ++ us) (ss ++ ts) := by
  induction h with
  | nil => exact g
  | cons e _ ih => exact .cons e ih
theorem StAt.len {H : Hp} {vs : List V} {ss : List (List Nat × Nat)} (h : StAt H vs ss) : vs.length = ss.length := by
  induction h with
  | nil => rfl
  | cons _ _ ih => rw [List.length_cons, List.length_cons, ih]
theorem StAt.get {H : Hp} {vs : List V} {ss : List (List Nat × Nat)} (h : StAt H vs ss) : ∀ {i : Nat} {v : V}, vs[i]? = some v → ∃ a q x, v = .ref a ∧ ss[i]? = some (q, x) ∧ H a = some (.tup [.str (tx q), .str (ch x)]) := by
  induction h with
  | nil => intro i v e; simp at e
  | cons e _ ih =>
    intro i v he
    cases i with
    | zero => cases he; exact ⟨_, _, _, rfl, rfl, e⟩
    | succ i => exact ih he
theorem str_l : Str.ofString "l" = tx [108] := by decide +kernel
theorem str_r : Str.ofString "r" = tx [114] := by decide +kernel
theorem str_0 : Str.ofString "" = tx [] := by decide +kernel

/-! ### parts and open paths -/
def B.at : B → List Nat → Option B
  | t, [] => some t
  | .nil, _ :: _ => none
  | .node l _ r, c :: w => if c = 108 then l.at w else if c = 114 then r.at w else none
theorem B.at_nil (t : B) : t.at [] = some t := by cases t <;> rfl
def B.op : B → List (List Nat)
  | .nil => [[]]
  | .node l _ r => l.op.map (108 :: ·) ++ r.op.map (114 :: ·)
theorem B.op_at (t : B) : ∀ w, w ∈ t.op ↔ t.at w = some .nil := by
  induction t with
  | nil =>
    intro w
    cases w with
    | nil => exact ⟨fun _ => rfl, fun _ => List.mem_singleton.mpr rfl⟩
    | cons c w => exact ⟨fun h => (by cases List.mem_singleton.mp h), fun h => (by cases h)⟩
  | node l x r h1 h2 =>
    intro w
    show w ∈ l.op.map (108 :: ·) ++ r.op.map (114 :: ·) ↔ _
    cases w with
    | nil =>
      refine ⟨fun h => ?_, fun h => (by cases h)⟩
      rcases List.mem_append.mp h with h | h
      · obtain ⟨_, _, e⟩ := List.mem_map.mp h; cases e
      · obtain ⟨_, _, e⟩ := List.mem_map.mp h; cases e
    | cons c w =>
      show _ ↔ (if c = 108 then l.at w else if c = 114 then r.at w else none) = some .nil
      rw [List.mem_append, List.mem_map, List.mem_map]
      by_cases c1 : c = 108
      · subst c1
        rw [if_pos rfl, ← h1 w]
        refine ⟨fun h => ?_, fun h => .inl ⟨w, h, rfl⟩⟩
        rcases h with ⟨u, hu, e⟩ | ⟨u, hu, e⟩
        · cases e; exact hu
        · cases e
      · rw [if_neg c1]
        by_cases c2 : c = 114
        · subst c2
          rw [if_pos rfl, ← h2 w]
          refine ⟨fun h => ?_, fun h => .inr ⟨w, h, rfl⟩⟩
          rcases h with ⟨u, hu, e⟩ | ⟨u, hu, e⟩
          · cases e
          · cases e; exact hu
        · rw [if_neg c2]
          refine ⟨fun h => ?_, fun h => (by cases h)⟩
          rcases h with ⟨u, hu, e⟩ | ⟨u, hu, e⟩
          · cases e; exact absurd rfl c1
          · cases e; exact absurd rfl c2
theorem nodup_cons_map (c : Nat) {L : List (List Nat)} (h : L.Nodup) : (L.map (c :: ·)).Nodup := List.Pairwise.map _ (fun _ _ ne e => ne (List.cons.inj e).2) h
theorem B.op_nodup (t : B) : t.op.Nodup := by
  induction t with
  | nil => exact List.nodup_cons.mpr ⟨by simp, List.nodup_nil⟩
  | node l x r h1 h2 =>
    show (l.op.map (108 :: ·) ++ r.op.map (114 :: ·)).Nodup
    refine List.nodup_append.mpr ⟨nodup_cons_map _ h1, nodup_cons_map _ h2, fun a ha b hb e => ?_⟩
    obtain ⟨_, _, rfl⟩ := List.mem_map.mp ha
    obtain ⟨_, _, rfl⟩ := List.mem_map.mp hb
    cases e
def isNode (o : Option B) : Prop := ∃ l x r, o = some (.node l x r)
theorem steps_mem (t : B) : ∀ (q p : List Nat), p ∈ (t.steps .first q).map (·.1) ↔ ∃ w, p = q ++ w ∧ isNode (t.at w) := by
  induction t with
  | nil =>
    intro q p
    refine ⟨fun h => (by cases h), ?_⟩
    rintro ⟨w, _, l, x, r, e⟩
    cases w with
    | nil => cases e
    | cons c w => cases e
  | node l x r h1 h2 =>
    intro q p
    show p ∈ ([(q, x)] ++ l.steps .first (q ++ [108]) ++ r.steps .first (q ++ [114])).map (·.1) ↔ _
    rw [List.map_append, List.map_append, List.mem_append, List.mem_append, h1, h2]
    constructor
    · rintro ((h | ⟨w, rfl, h⟩) | ⟨w, rfl, h⟩)
      · exact ⟨[], by rw [List.append_nil]; exact List.mem_singleton.mp h, _, _, _, rfl⟩
      · exact ⟨108 :: w, by rw [List.append_assoc]; rfl, h⟩
      · exact ⟨114 :: w, by rw [List.append_assoc]; rfl, h⟩
    · rintro ⟨w, rfl, h⟩
      cases w with
      | nil => exact .inl (.inl (List.mem_singleton.mpr (List.append_nil _)))
      | cons c w =>
        have h : isNode (if c = 108 then l.at w else if c = 114 then r.at w else none) := h
        by_cases c1 : c = 108
        · subst c1
          rw [if_pos rfl] at h
          exact .inl (.inr ⟨w, by rw [List.append_assoc]; rfl, h⟩)
        · rw [if_neg c1] at h
          by_cases c2 : c = 114
          · subst c2
            rw [if_pos rfl] at h
            exact .inr ⟨w, by rw [List.append_assoc]; rfl, h⟩
          · rw [if_neg c2] at h
            obtain ⟨_, _, _, e⟩ := h
            cases e
theorem steps_nodup (t : B) : ∀ q : List Nat, ((t.steps .first q).map (·.1)).Nodup := by
  induction t with
  | nil => intro q; exact List.nodup_nil
  | node l x r h1 h2 =>
    intro q
    show (([(q, x)] ++ l.steps .first (q ++ [108]) ++ r.steps .first (q ++ [114])).map (·.1)).Nodup
    rw [List.map_append, List.map_append]
    have ap : ∀ (c : Nat) (w : List Nat), q ≠ q ++ [c] ++ w := fun c w e => by
      have := congrArg List.length e
      simp only [List.length_append, List.length_cons, List.length_nil] at this
      omega
    refine List.nodup_append.mpr ⟨List.nodup_append.mpr ⟨List.nodup_cons.mpr ⟨by simp, List.nodup_nil⟩, h1 _, fun a ha b hb e => ?_⟩, h2 _, fun a ha b hb e => ?_⟩
    · obtain ⟨w, rfl, _⟩ := (steps_mem l _ b).mp hb
      rw [List.mem_singleton.mp ha] at e
      exact ap _ _ e
    · obtain ⟨w, rfl, _⟩ := (steps_mem r _ b).mp hb
      rcases List.mem_append.mp ha with ha | ha
      · rw [List.mem_singleton.mp ha] at e
        exact ap _ _ e
      · obtain ⟨u, rfl, _⟩ := (steps_mem l _ a).mp ha
        rw [List.append_assoc, List.append_assoc] at e
        have := List.append_cancel_left e
        cases this
theorem at_child {t : B} {w : List Nat} (h : isNode (t.at w)) {c : Nat} (hc : c = 108 ∨ c = 114) (hn : ¬ isNode (t.at (w ++ [c]))) : t.at (w ++ [c]) = some .nil := by
  induction w generalizing t with
  | nil =>
    obtain ⟨l, x, r, e⟩ := h
    have e : t = .node l x r := Option.some.inj ((B.at_nil t).symm.trans e)
    subst e
    rcases hc with rfl | rfl
    · show l.at [] = _
      cases l with
      | nil => rfl
      | node a b c => exact absurd ⟨a, b, c, rfl⟩ hn
    · show r.at [] = _
      cases r with
      | nil => rfl
      | node a b c => exact absurd ⟨a, b, c, rfl⟩ hn
  | cons d w ih =>
    cases t with
    | nil => obtain ⟨_, _, _, e⟩ := h; cases e
    | node l x r =>
      have h : isNode (if d = 108 then l.at w else if d = 114 then r.at w else none) := h
      have hn : ¬ isNode (if d = 108 then l.at (w ++ [c]) else if d = 114 then r.at (w ++ [c]) else none) := hn
      show (if d = 108 then l.at (w ++ [c]) else if d = 114 then r.at (w ++ [c]) else none) = _
      by_cases c1 : d = 108
      · rw [if_pos c1] at h hn ⊢; exact ih h hn
      · rw [if_neg c1] at h hn ⊢
        by_cases c2 : d = 114
        · rw [if_pos c2] at h hn ⊢; exact ih h hn
        · rw [if_neg c2] at h; obtain ⟨_, _, _, e⟩ := h; cases e
/-- the open paths below known ones, in the order of the known -/
def sidesOf (K : List (List Nat)) (q : List Nat) : List (List Nat) := [q ++ [108], q ++ [114]].filter fun p => decide (p ∉ K)
def opensOf (K : List (List Nat)) (L : List (List Nat)) : List (List Nat) := L.flatMap (sidesOf K)
theorem sides_mem {K : List (List Nat)} {q p : List Nat} : p ∈ sidesOf K q ↔ (∃ c, (c = 108 ∨ c = 114) ∧ p = q ++ [c]) ∧ p ∉ K := by
  unfold sidesOf
  rw [List.mem_filter, decide_eq_true_eq]
  constructor
  · rintro ⟨h, n⟩
    rcases List.mem_cons.mp h with rfl | h
    · exact ⟨⟨108, .inl rfl, rfl⟩, n⟩
    · rw [List.mem_singleton.mp h] at n ⊢
      exact ⟨⟨114, .inr rfl, rfl⟩, n⟩
  · rintro ⟨⟨c, rfl | rfl, rfl⟩, n⟩
    · exact ⟨List.mem_cons_self, n⟩
    · exact ⟨List.mem_cons_of_mem _ (List.mem_singleton.mpr rfl), n⟩
theorem opens_nodup (K : List (List Nat)) : ∀ {L : List (List Nat)}, L.Nodup → (opensOf K L).Nodup
  | [], _ => List.nodup_nil
  | q :: L, h => by
    obtain ⟨n1, n2⟩ := List.nodup_cons.mp h
    show (sidesOf K q ++ opensOf K L).Nodup
    refine List.nodup_append.mpr ⟨?_, opens_nodup K n2, fun a ha b hb e => ?_⟩
    · unfold sidesOf
      refine List.Nodup.sublist List.filter_sublist (List.nodup_cons.mpr ⟨fun z => ?_, List.nodup_cons.mpr ⟨by simp, List.nodup_nil⟩⟩)
      have := List.append_cancel_left (List.mem_singleton.mp z)
      cases this
    · obtain ⟨q2, hq2, hb⟩ := List.mem_flatMap.mp hb
      obtain ⟨⟨c, _, rfl⟩, _⟩ := sides_mem.mp ha
      obtain ⟨⟨d, _, e2⟩, _⟩ := sides_mem.mp hb
      rw [e2] at e
      have := (List.append_inj' e rfl).1
      exact n1 (this ▸ hq2)
theorem opens_open {t : B} {p : List Nat} (h : p ∈ opensOf ((t.steps .first []).map (·.1)) ((t.steps .first []).map (·.1))) : p ∈ t.op := by
  obtain ⟨q, hq, hp⟩ := List.mem_flatMap.mp h
  obtain ⟨⟨c, hc, rfl⟩, hn⟩ := sides_mem.mp hp
  obtain ⟨w, e, hw⟩ := (steps_mem t [] q).mp hq
  have e : q = w := e
  subst e
  exact (t.op_at _).mpr (at_child hw hc fun hn' => hn ((steps_mem t [] _).mpr ⟨q ++ [c], rfl, hn'⟩))
theorem opens_len (K : List (List Nat)) : ∀ L : List (List Nat), (opensOf K L).length ≤ 2 * L.length
  | [] => Nat.le_refl _
  | q :: L => by
    have h := opens_len K L
    have h2 : (sidesOf K q).length ≤ 2 := Nat.le_trans (List.length_filter_le _ _) (Nat.le_refl 2)
    show (sidesOf K q ++ opensOf K L).length ≤ 2 * (L.length + 1)
    rw [List.length_append]
    omega
theorem opens_words (K : List (List Nat)) {L : List (List Nat)} {n : Nat} (h : ∀ q ∈ L, q.length ≤ n) : ∀ p ∈ opensOf K L, p.length ≤ n + 1 := fun p hp => by
  obtain ⟨q, hq, hp⟩ := List.mem_flatMap.mp hp
  obtain ⟨⟨c, _, rfl⟩, _⟩ := sides_mem.mp hp
  have := h q hq
  rw [List.length_append]
  show q.length + 1 ≤ n + 1
  omega
/-! ### _law_nodes, _law_open -/
theorem iteS {x y : Str} {A B : Prop} (h : x = y) (a : A) : if decide (V.str x = V.str y) = true then A else B := by
  rw [if_pos (decide_eq_true (congrArg V.str h))]; exact a
theorem iteR {x y : Str} {A B : Prop} (h : x ≠ y) (b : B) : if decide (V.str x = V.str y) = true then A else B := by
  rw [if_neg (fun z => h (V.str.inj (of_decide_eq_true z)))]; exact b
theorem take_next {α : Type} {zs : List α} {i : Nat} {c : α} (h : zs[i]? = some c) : zs.take (i + 1) = zs.take i ++ [c] := by
  rw [List.take_succ, h]
  rfl
def spNodes (N : Nat) : Sp := fun vs H Q _ => ∃ (v : V) (t : B) (q : List Nat), vs = [v, vt q] ∧ BAt H v t ∧ t.size < N ∧ t.size + q.length ≤ 500 ∧
  ∀ (p : Addr) (us : List V) (H' : Hp), Same H H' → H' p = some (.lst us) → StAt H' us (t.steps .first q) → Q (.ref p) H'
theorem steps_words (t : B) : ∀ (q : List Nat), ∀ p ∈ (t.steps .first q).map (·.1), p.length ≤ q.length + t.size := by
  induction t with
  | nil => intro q p hp; cases hp
  | node l x r h1 h2 =>
    intro q p hp
    have hp : p ∈ ([(q, x)] ++ l.steps .first (q ++ [108]) ++ r.steps .first (q ++ [114])).map (·.1) := hp
    rw [List.map_append, List.map_append, List.mem_append, List.mem_append] at hp
    show p.length ≤ q.length + (l.size + 1 + r.size)
    rcases hp with (hp | hp) | hp
    · rw [List.mem_singleton.mp hp]
      show q.length ≤ _
      omega
    · have := h1 _ p hp
      rw [List.length_append] at this
      have e : [108].length = 1 := rfl
      omega
    · have := h2 _ p hp
      rw [List.length_append] at this
      have e : [114].length = 1 := rfl
      omega
theorem inV_texts (z : List Nat) (K : List (List Nat)) : inV (vt z) (K.map vt) = decide (z ∈ K) := by
  unfold inV
  by_cases h : z ∈ K
  · rw [decide_eq_true h, List.any_eq_true]
    exact ⟨vt z, List.mem_map.mpr ⟨z, h, rfl⟩, by show eqV (.str _) (.str _) = true; simp [eqV]⟩
  · rw [decide_eq_false h, Bool.eq_false_iff]
    intro e
    obtain ⟨y, hy, e⟩ := List.any_eq_true.mp e
    obtain ⟨k, hk, rfl⟩ := List.mem_map.mp hy
    have e : eqV (.str (tx k)) (.str (tx z)) = true := e
    simp only [eqV, beq_iff_eq] at e
    exact h (tx_inj e ▸ hk)
theorem flat_texts (K : List (List Nat)) : (K.map vt).all flatV = true := by
  rw [List.all_eq_true]
  intro x hx
  obtain ⟨k, _, rfl⟩ := List.mem_map.mp hx
  rfl
def spOpen : Sp := fun vs H Q _ => ∃ (v : V) (t : B), vs = [v] ∧ BAt H v t ∧ t.size ≤ 30 ∧
  ∀ (p : Addr) (H' : Hp), Same H H' → H p = none → H' p = some (.lst ((opensOf ((t.steps .first []).map (·.1)) ((t.steps .first []).map (·.1))).map vt)) → Q (.ref p) H'
section
variable {P : Program} {w : World} {K : PySem.W.Frag} {mg : Str → Option Value} {base : Heap} {f : Addr} {fd : FuncData}
theorem ok_nodes (F : Fun K "_law_nodes" "_law_nodes" s__law_nodes f fd) (b : Binds K fd ["_law_tree_here", "_law_path"] []) (g : mg "_law_nodes" = some (.ref f)) : ∀ N : Nat, FnOk P w K mg base CX0 N f fd ["_law_tree_here", "_law_path"] (spNodes N)
  | 0 => by
    have no : ∀ vs H Q E, ¬ spNodes 0 vs H Q E := fun vs H Q E h => by
      obtain ⟨v, t, q, _, _, h1, _⟩ := h
      omega
    exact ⟨fun vs H Q E h => absurd h (no vs H Q E), fun A outer s H args us vs Q E _ _ _ _ h => absurd h (no vs H Q E)⟩
  | N + 1 => by
    have Dself : Df P w K mg base N "_law_nodes" ["_law_tree_here", "_law_path"] (spNodes N) := ⟨f, fd, ok_nodes F b g N, b, F.kp, g⟩
    refine F.ok sc__law_nodes (fun vs H Q E h => ?_) (fun cdv A outer s H vs Q E hr h => ?_)
    · obtain ⟨v, t, q, rfl, _⟩ := h
      rfl
    obtain ⟨v, t, pth, rfl, hv, hn, hz, q⟩ := h
    refine ⟨_, (pss_cons (ps_if (pt_cmpR op_isN (pv 0) pe_non (nomark _))
      (pss_one (ps_ret (pe_lst pa_nil))) pss_nil)
    (pss_cons (ps_asg (pv 0) (pg_tup rfl (pgs_cons (pg_name (i := 2) sc__law_nodes.nd rfl (.inl rfl)) (pgs_cons (pg_name (i := 3) sc__law_nodes.nd rfl (.inl rfl)) (pgs_cons (pg_name (i := 4) sc__law_nodes.nd rfl (.inl rfl)) pgs_nil)))))
    (pss_one (ps_ret (pe_op op_cat (pe_op op_cat (pe_lst (pa_cons (pe_tup (pa_cons (pv 1) (pa_cons (pv 3) pa_nil))) pa_nil)) (pe_call Dself.ok (hr.mono (by omega)) rfl Dself.g Dself.kp Dself.b .nil pass0 (pa_cons (pv 2) (pa_cons (pe_op op_add_str (pv 1) pe_str) pa_nil)))) (pe_call Dself.ok (hr.mono (by omega)) rfl Dself.g Dself.kp Dself.b .nil pass0 (pa_cons (pv 4) (pa_cons (pe_op op_add_str (pv 1) pe_str) pa_nil)))))))), ?_⟩
    rcases hv.inv with ⟨rfl, rfl⟩ | ⟨a, l, r, x, tl, tr, rfl, rfl, ea, hl, hr'⟩
    · refine ⟨_, rfl, rfl, _, rfl, iteT ⟨(by show 0 ≤ sizeLine; decide), fun p np => ?_⟩⟩
      exact q p [] _ (same_new np _) upd_same .nil
    · refine ⟨_, rfl, rfl, _, rfl, iteF ?_⟩
      refine ⟨_, rfl, a, _, rfl, SqT.of ea, rfl, _, _, rfl, _, _, rfl, _, _, rfl, rfl, ?_⟩
      have sz : tl.size + 1 + tr.size < N + 1 := hn
      have sz2 : tl.size + 1 + tr.size + pth.length ≤ 500 := hz
      refine ⟨_, rfl, _, rfl, (by show 2 ≤ sizeLine; decide), fun tp ntp => ⟨(by show 1 ≤ sizeLine; decide), fun ro nro => ?_⟩⟩
      have q1 := same_new ntp (.tup [vt pth, .str (ch x)])
      have q2 := same_new nro (.lst [.ref tp])
      have etp := q2 _ _ (upd_same (H := H) (a := tp) (o := .tup [vt pth, .str (ch x)]))
      have ero := upd_same (H := upd H tp (.tup [vt pth, .str (ch x)])) (a := ro) (o := .lst [.ref tp])
      have s1 := q1.trans q2
      generalize upd (upd H tp (.tup [vt pth, .str (ch x)])) ro (.lst [.ref tp]) = H1 at etp ero s1
      refine ⟨_, rfl, _, rfl, _, _, rfl, rfl, ?_, ?_⟩
      · rw [str_l, tx_len, tx_len]; exact small (by show _ + 1 ≤ 1000; omega)
      rw [str_l, tx_app]
      refine ⟨l, tl, pth ++ [108], rfl, hl.same s1, by omega, by rw [List.length_append]; show _ + (_ + 1) ≤ 500; omega, fun lp ul H2 s2 elp stl => ?_⟩
      have ll := stl.len
      rw [B.steps_len] at ll
      have strt : StAt H2 [.ref tp] [(pth, x)] := .cons (s2 _ _ etp) .nil
      refine ⟨ro, lp, _, _, rfl, rfl, s2 _ _ ero, elp, small (by show 1 + _ ≤ 1000; omega), fun c1 n1 => ?_⟩
      have k1 := same_new n1 (.lst ([.ref tp] ++ ul))
      have s3 := (s1.trans s2).trans k1
      have st1 := (strt.app stl).same k1
      have ec1 := upd_same (H := H2) (a := c1) (o := .lst ([.ref tp] ++ ul))
      generalize upd H2 c1 (.lst ([.ref tp] ++ ul)) = H3 at s3 st1 ec1
      refine ⟨_, rfl, _, rfl, _, _, rfl, rfl, ?_, ?_⟩
      · rw [str_r, tx_len, tx_len]; exact small (by show _ + 1 ≤ 1000; omega)
      rw [str_r, tx_app]
      refine ⟨r, tr, pth ++ [114], rfl, hr'.same s3, by omega, by rw [List.length_append]; show _ + (_ + 1) ≤ 500; omega, fun rp ur H4 s4 erp str => ?_⟩
      have lr := str.len
      rw [B.steps_len] at lr
      refine ⟨c1, rp, _, _, rfl, rfl, s4 _ _ ec1, erp, small (by rw [List.length_append]; show 1 + _ + _ ≤ 1000; omega), fun c2 n2 => ?_⟩
      have k2 := same_new n2 (.lst ([.ref tp] ++ ul ++ ur))
      exact q c2 _ _ ((s3.trans s4).trans k2) upd_same (((st1.same s4).app str).same k2)
theorem ok_open (F : Fun K "_law_open" "_law_open" s__law_open f fd) (D_law_nodes : Df P w K mg base 40 "_law_nodes" ["_law_tree_here", "_law_path"] (spNodes 40)) : FnOk P w K mg base CX0 41 f fd ["_law_tree_here"] spOpen := by
  refine F.ok sc__law_open (fun vs H Q E h => ?_) (fun cdv A outer s H vs Q E hr h => ?_)
  · obtain ⟨v, t, rfl, _⟩ := h
    rfl
  obtain ⟨v, t, rfl, hv, hz, q⟩ := h
  refine ⟨_, (pss_cons (ps_set (i := 3) sc__law_open.nd rfl (.inr rfl) (pe_lc (own := [("_law_path", 1), ("_law_label", 2)]) (g := gTup K 2 (gCons (gName 1) (gCons (gName 2) gNil))) (tt := tYes) rfl sc__law_open.nd (pi_list (pe_call D_law_nodes.ok (hr.mono (by omega)) rfl D_law_nodes.g D_law_nodes.kp D_law_nodes.b .nil pass0 (pa_cons (pv 0) (pa_cons pe_str pa_nil)))) (blkOk_by (N := ["_law_tree_here", "_law_path", "_law_label", "_law_known", "_law_found", "_law_side"]) (sc := defScope s__law_open) (by decide +kernel)) (fun _ _ _ _ _ => (pg_tup rfl (pgs_cons (pg_name (i := 1) sc__law_open.nd rfl (.inl rfl)) (pgs_cons (pg_name (i := 2) sc__law_open.nd rfl (.inl rfl)) pgs_nil)))) (fun _ _ _ _ _ => pts_nil) (fun _ _ _ _ _ => (pv 1))))
    (pss_cons (ps_set (i := 4) sc__law_open.nd rfl (.inl rfl) (pe_lst pa_nil))
    (pss_cons (ps_for PassesOwn.never rfl (pi_list (pv 3)) (pg_name (i := 1) sc__law_open.nd rfl (.inr rfl))
      (pss_one (ps_expr (pe_bm PySem.F.plainAttrs_list PySem.F.slot_list_extend PySem.F.type_list_extend mt_extend (pv 4) (pa_cons (pe_lc (own := [("_law_side", 5)]) (g := gName 5) rfl sc__law_open.nd (pi_str pe_str) (blkOk_by (N := ["_law_tree_here", "_law_path", "_law_label", "_law_known", "_law_found", "_law_side"]) (sc := defScope s__law_open) (by decide +kernel)) (fun _ _ _ _ _ => (pg_name (i := 5) sc__law_open.nd rfl (.inl rfl))) (fun _ _ _ _ _ => pts_one (pt_cmpR (show OpR _ (compareOp .NotIn) (rIn K true) from op_notIn_seq) (pe_op op_add_str (pv 1) (pv 5)) (pv 3) (by rfl))) (fun _ _ _ _ _ => (pe_op op_add_str (pv 1) (pv 5)))) pa_nil)))))
    (pss_one (ps_ret (pv 4)))))), ?_⟩
  have wd := steps_words t []
  have wl : ((t.steps .first []).map (·.1)).length = t.size := by rw [List.length_map, B.steps_len]
  generalize hPs : (t.steps .first []).map (·.1) = Ps at q wd wl
  refine ⟨_, rfl, v, t, [], by rw [str_0]; rfl, hv, by omega, by show t.size + 0 ≤ 500; omega, fun p us H1 s1 ep st => ?_⟩
  refine ⟨p, rfl, ⟨_, SqL.of ep⟩, fun D nD => ?_⟩
  have k1 := same_new nD (.lst [])
  have hl := st.len
  rw [B.steps_len] at hl
  refine lc_list (K := K) (a := p) (xs := us) (fun i H' => Same H1 H' ∧ H' D = some (.lst ((Ps.take i).map vt))) ⟨k1, upd_same⟩ (fun i H' _ hp => SqL.of (hp.1 _ _ ep)) (fun i x H' hx hp => ?_) (fun H2 hp => ?_)
  · obtain ⟨sm, ed⟩ := hp
    obtain ⟨a, pq, c, rfl, es, ea⟩ := st.get hx
    have hc : Ps[i]? = some pq := by rw [← hPs, List.getElem?_map, es]; rfl
    have hi := (List.getElem?_eq_some_iff.mp hx).1
    refine ⟨a, _, rfl, SqT.of (sm _ _ ea), rfl, _, _, rfl, _, _, rfl, rfl, rfl, kept ?_⟩
    refine ⟨_, rfl, _, ed, ?_, fun b o e => ?_, ?_⟩
    · rw [List.length_map, List.length_take]; exact small1000 (by omega)
    · rw [upd_ne (ne_of_none e nD)]; exact sm _ _ e
    · rw [upd_same, take_next hc, List.map_append]; rfl
  · obtain ⟨sm, ed⟩ := hp
    rw [List.take_of_length_le (by omega)] at ed
    refine ⟨(by show 0 ≤ sizeLine; decide), fun fa nfa => ?_⟩
    have k2 := same_new nfa (.lst [])
    have nDf : D ≠ fa := ne_of_none ed nfa
    have s2 := (s1.trans sm).trans k2
    have ed2 := k2 _ _ ed
    have nfaH : H fa = none := by
      cases z : H fa with
      | none => rfl
      | some o => rw [(s1.trans sm) _ _ z] at nfa; cases nfa
    have efa := upd_same (H := H2) (a := fa) (o := .lst [])
    generalize upd H2 fa (.lst []) = H3 at s2 ed2 efa
    refine ⟨_, rfl, D, rfl, ⟨_, SqL.of ed2⟩, ?_⟩
    refine for_list (K := K) (a := D) (xs := Ps.map vt) (fun i σ H' => ∃ o1, σ = [some v, o1, none, some (.ref D), some (.ref fa), none] ∧ Same H H' ∧ H' D = some (.lst (Ps.map vt)) ∧ H' fa = some (.lst ((opensOf Ps (Ps.take i)).map vt))) ⟨_, rfl, s2, ed2, efa⟩ (fun i σ H' _ hp => by obtain ⟨_, _, _, h, _⟩ := hp; exact SqL.of h) (fun i x σ H' hx hp => ?_) (fun σ H' hp => ?_)
    · obtain ⟨o1, rfl, s', eD', ef'⟩ := hp
      rw [List.getElem?_map] at hx
      obtain ⟨pq, hpq, rfl⟩ := Option.map_eq_some_iff.mp hx
      have hi := (List.getElem?_eq_some_iff.mp hpq).1
      have pl := wd pq (List.mem_of_getElem? hpq)
      have pl : pq.length ≤ 30 := by
        have e : ([] : List Nat).length = 0 := rfl
        omega
      refine ⟨_, rfl, .inl ⟨rfl, _, SqL.of ef'⟩, _, rfl, fun L nL => ?_⟩
      have k4 := same_new nL (.lst [])
      have elr : (Str.ofString "lr").cps.toList = [108, 114] := by decide +kernel
      refine lc_text (x := Str.ofString "lr") (fun j H'' => Same H' H'' ∧ H'' L = some (.lst ((([pq ++ [108], pq ++ [114]].take j).filter fun p => decide (p ∉ Ps)).map vt))) ⟨k4, upd_same⟩ (fun j c H'' hc hp => ?_) (fun H'' hp => ?_)
      · obtain ⟨s5, eL⟩ := hp
        rw [elr] at hc
        have hj : j < 2 := (List.getElem?_eq_some_iff.mp hc).1
        have hcj : [pq ++ [108], pq ++ [114]][j]? = some (pq ++ [c]) := by
          match j, hj, hc with
          | 0, _, hc => cases hc; rfl
          | 1, _, hc => cases hc; rfl
        have ec : tx pq ++ ch c = tx (pq ++ [c]) := tx_app pq [c]
        have szc : (tx pq).length + (ch c).length ≤ sizeLine := small (by rw [tx_len]; show _ + 1 ≤ 1000; omega)
        refine ⟨rfl, ?_⟩
        refine ⟨_, rfl, _, rfl, _, _, rfl, rfl, szc, ?_⟩
        rw [ec]
        refine ⟨_, rfl, D, _, rfl, .inl (SqL.of (s5 _ _ eD')), rfl, flat_texts Ps, _, rfl, ?_⟩
        rw [if_pos rfl, inV_texts, take_next hcj, List.filter_append]
        by_cases hm : pq ++ [c] ∈ Ps
        · rw [decide_eq_true hm, List.filter_cons_of_neg (by simpa using hm), List.filter_nil, List.append_nil]
          exact iteF ⟨s5, eL⟩
        · rw [decide_eq_false hm, List.filter_cons_of_pos (by simpa using hm), List.filter_nil]
          refine iteT ⟨_, rfl, _, rfl, _, _, rfl, rfl, szc, ?_⟩
          rw [ec]
          refine ⟨_, eL, ?_, fun b o e => ?_, ?_⟩
          · rw [List.length_map]
            exact Nat.lt_of_le_of_lt (Nat.le_trans (List.length_filter_le _ _) (Nat.le_trans (List.length_take_le _ _) (by show j ≤ 2; omega))) (by decide)
          · rw [upd_ne (ne_of_none e nL)]; exact s5 _ _ e
          · rw [upd_same, List.map_append]; rfl
      · obtain ⟨s5, eL⟩ := hp
        have eL : H'' L = some (.lst ((sidesOf Ps pq).map vt)) := by
          rw [eL, elr]
          rfl
        have ol := opens_len Ps (Ps.take i)
        rw [List.length_take] at ol
        have sl : (sidesOf Ps pq).length ≤ 2 := Nat.le_trans (List.length_filter_le _ _) (Nat.le_refl 2)
        have eD5 := s5 _ _ eD'
        have ef5 := s5 _ _ ef'
        refine ⟨fa, L, _, _, rfl, rfl, ef5, eL, ?_, _, rfl, fun b o e => ?_, ?_, ?_⟩
        · rw [List.length_map, List.length_map]; exact small (by omega)
        · rw [upd_ne (ne_of_none e nfaH)]; exact s5 _ _ (s' _ _ e)
        · rw [upd_ne nDf]; exact eD5
        · rw [upd_same, take_next hpq]
          unfold opensOf
          rw [List.flatMap_append, List.map_append]
          show _ = some (HO.lst (_ ++ List.map vt (sidesOf Ps pq ++ [])))
          rw [List.append_nil]
    · obtain ⟨o1, rfl, s', eD', ef'⟩ := hp
      rw [List.length_map, List.take_length] at ef'
      exact ⟨_, rfl, q fa H' s' nfaH ef'⟩
end
/-! ### sorted(xs), xs a list of (text, int) -/
section
variable {X : Cx}
def shTI : Nat → Bool := fun i => i == 0
def rSortTI (K : PySem.W.Frag) : List V → Hp → VK → Prop := fun vs H Q => ∃ (a : Addr) (xs : List V), vs = [V.ref a] ∧ SqL K H a xs ∧ (∀ x ∈ xs, ∃ (t : Addr) (k : Str) (i : Int), x = .ref t ∧ H t = some (.tup [.str k, .int i])) ∧
  ∀ (ys : List V) (p : Addr), ys.Perm xs → H p = none → Q (.ref p) (upd H p (.lst ys))
theorem tups_of {h : Heap} {shape : Nat → Bool} : ∀ {vs : List Value}, (∀ v ∈ vs, ∃ f, PyProof.Rows.TupOf h shape v f) → ∃ fs, PyProof.Rows.TupsOf h shape vs fs
  | [], _ => ⟨[], .nil⟩
  | v :: vs, H => by
    obtain ⟨f, hf⟩ := H v List.mem_cons_self
    obtain ⟨fs, hfs⟩ := tups_of (vs := vs) fun u hu => H u (List.mem_cons_of_mem _ hu)
    exact ⟨f :: fs, .cons hf hfs⟩
theorem cr_sortTI : CallR X (.builtin "sorted") (rSortTI X.K) := by
  intro pins s σ H vs us Q I r h
  obtain ⟨a, xs, rfl, hs, hx, q⟩ := h
  obtain ⟨its, rv, hl, hz⟩ := I.list hs
  obtain ⟨u, rfl, ru⟩ := vals1 r
  obtain rfl : u = Value.ref a := ru
  obtain ⟨e1, e2⟩ := refs_back rv fun x m => by
    obtain ⟨t, _, _, e, _⟩ := hx x m
    exact ⟨t, e⟩
  have raw : ∀ v ∈ its, ∃ (t : Addr) (o : Obj) (k : Str) (i : Int) (t1 t2 : Tok) (n : Nat), v = .ref t ∧ s.heap.get? t = some o ∧ o.cls = .type "tuple" ∧ o.data = .seq #[.str k t1, .int i t2] n := fun v hv => by
    obtain ⟨t, rfl⟩ := e2 v hv
    have hm : V.ref t ∈ xs := by rw [e1]; exact List.mem_map.mpr ⟨_, hv, rfl⟩
    obtain ⟨t', k, i, e, ht⟩ := hx _ hm
    cases e
    obtain ⟨_, its2, r2, o, ho, hc, n, hd⟩ := I.hok _ _ ht
    obtain ⟨u1, u2, rfl, ri, rj⟩ := vals2 r2
    obtain ⟨t1, rfl⟩ := ri
    obtain ⟨t2, rfl⟩ := rj
    exact ⟨t, o, k, i, t1, t2, n, rfl, ho, hc, hd⟩
  obtain ⟨fs, hfs⟩ := tups_of (h := s.heap) (shape := shTI) (vs := its) fun v hv => by
    obtain ⟨t, o, k, i, t1, t2, n, rfl, ho, hc, hd⟩ := raw v hv
    exact ⟨.str k t1, t, o, _, n, rfl, ho, hc, hd, rfl, (fun e => absurd e (by decide)), fun _ => ⟨k, t1, rfl⟩⟩
  refine PyProof.Rows.G.sorted_tups (shape := shTI) hl.isList hfs (fun v hv => ?_) (by rw [← rv.length]; exact hz) fun st' hp _ _ => ?_
  · obtain ⟨t, o, k, i, t1, t2, n, rfl, ho, hc, hd⟩ := raw v hv
    exact ⟨[Sum.inr k.cps.toList, Sum.inl i], PyProof.Rows.G.tupKeyC_of ho hc hd rfl⟩
  · generalize hout : (arrOf st').map (·.2) = out
    have hp' : out.toList.Perm its := by
      rw [← hout, Array.toList_map]
      have e := (Array.perm_iff_toList_perm.mp hp).map Prod.snd
      rw [pairsOf_toList, List.map_snd_zip (Nat.le_refl _)] at e
      exact e
    have h3 : ∀ u ∈ out.toList, ∃ a, u = Value.ref a := fun u hu => e2 u (hp'.mem_iff.mp hu)
    obtain ⟨ep, he'⟩ := PyProof.Rows.sortedAll_at s.heap its out
    have hpp : (out.toList.map backV).Perm xs := by rw [e1]; exact hp'.map backV
    have hlen : (out.toList.map backV).length ≤ sizeLine := by rw [hpp.length_eq]; exact hz
    exact ⟨.ref _, upd H (s.heap.objs.size + 1) (.lst (out.toList.map backV)), I.laid (t' := s.toks) (fun _ _ => PyProof.Rows.sortedAll_old) (Nat.le_succ _) ⟨hlen, out.toList, ep, vals_back h3, he'⟩, rfl, q _ _ hpp (I.hok.fresh (Nat.le_succ _))⟩
end
/-! ### nests, _law_nest -/
abbrev Lk := List Nat × Nat
abbrev En := B × List Lk
inductive LkAt (H : Hp) : List V → List Lk → Prop
  | nil : LkAt H [] []
  | cons {a : Addr} {p : List Nat} {i : Nat} {vs : List V} {ls : List Lk} : H a = some (.tup [vt p, .int (i : Int)]) → LkAt H vs ls → LkAt H (.ref a :: vs) ((p, i) :: ls)
theorem LkAt.keep {H H' : Hp} (k : KeepT H H') {vs : List V} {ls : List Lk} (h : LkAt H vs ls) : LkAt H' vs ls := by
  induction h with
  | nil => exact .nil
  | cons e _ ih => exact .cons (k _ _ e) ih
theorem LkAt.len {H : Hp} {vs : List V} {ls : List Lk} (h : LkAt H vs ls) : vs.length = ls.length := by
  induction h with
  | nil => rfl
  | cons _ _ ih => rw [List.length_cons, List.length_cons, ih]
theorem LkAt.snoc {H : Hp} {vs : List V} {ls : List Lk} (h : LkAt H vs ls) {a : Addr} {p : List Nat} {i : Nat} (e : H a = some (.tup [vt p, .int (i : Int)])) : LkAt H (vs ++ [.ref a]) (ls ++ [(p, i)]) := by
  induction h with
  | nil => exact .cons e .nil
  | cons e' _ ih => exact .cons e' ih
theorem LkAt.mem {H : Hp} {vs : List V} {ls : List Lk} (h : LkAt H vs ls) : ∀ x ∈ vs, ∃ (t : Addr) (k : Str) (i : Int), x = .ref t ∧ H t = some (.tup [.str k, .int i]) := by
  induction h with
  | nil => intro x hx; cases hx
  | @cons a p i _ _ e _ ih =>
    intro x hx
    rcases List.mem_cons.mp hx with rfl | hx
    · exact ⟨a, _, _, rfl, e⟩
    · exact ih x hx
theorem LkAt.perm {H : Hp} {vs us : List V} (p : us.Perm vs) : ∀ {ls : List Lk}, LkAt H vs ls → ∃ ks, LkAt H us ks ∧ ks.Perm ls := by
  induction p with
  | nil => intro ls h; exact ⟨ls, h, .refl _⟩
  | cons x _ ih =>
    intro ls h
    cases h with
    | cons e h =>
      obtain ⟨ks, h1, h2⟩ := ih h
      exact ⟨_, .cons e h1, h2.cons _⟩
  | swap x y l =>
    intro ls h
    cases h with
    | cons e h =>
      cases h with
      | cons e' h => exact ⟨_, .cons e' (.cons e h), .swap _ _ _⟩
  | trans _ _ ih1 ih2 =>
    intro ls h
    obtain ⟨k1, a1, b1⟩ := ih2 h
    obtain ⟨k2, a2, b2⟩ := ih1 a1
    exact ⟨k2, a2, b2.trans b1⟩
inductive EnAt (H : Hp) : List V → List En → Prop
  | nil : EnAt H [] []
  | cons {a la : Addr} {tv : V} {us : List V} {t : B} {ls : List Lk} {vs : List V} {es : List En} : H a = some (.tup [tv, .ref la]) → BAt H tv t → H la = some (.tup us) → LkAt H us ls → EnAt H vs es → EnAt H (.ref a :: vs) ((t, ls) :: es)
theorem EnAt.keep {H H' : Hp} (k : KeepT H H') {vs : List V} {es : List En} (h : EnAt H vs es) : EnAt H' vs es := by
  induction h with
  | nil => exact .nil
  | cons e1 e2 e3 e4 _ ih => exact .cons (k _ _ e1) (e2.keep k) (k _ _ e3) (e4.keep k) ih
theorem EnAt.len {H : Hp} {vs : List V} {es : List En} (h : EnAt H vs es) : vs.length = es.length := by
  induction h with
  | nil => rfl
  | cons _ _ _ _ _ ih => rw [List.length_cons, List.length_cons, ih]
theorem EnAt.snoc {H : Hp} {vs : List V} {es : List En} (h : EnAt H vs es) {a la : Addr} {tv : V} {us : List V} {t : B} {ls : List Lk} (e1 : H a = some (.tup [tv, .ref la])) (e2 : BAt H tv t) (e3 : H la = some (.tup us)) (e4 : LkAt H us ls) :
    EnAt H (vs ++ [.ref a]) (es ++ [(t, ls)]) := by
  induction h with
  | nil => exact .cons e1 e2 e3 e4 .nil
  | cons a1 a2 a3 a4 _ ih => exact .cons a1 a2 a3 a4 ih
structure GoodE (lim n : Nat) (e : En) : Prop where
  s1 : 1 ≤ e.1.size
  s2 : e.1.size ≤ lim
  lt : ltB e.1
  nd : (e.2.map (·.1)).Nodup
  op : ∀ l ∈ e.2, l.1 ∈ e.1.op
  ix : ∀ l ∈ e.2, l.2 < n
def GoodN (lim : Nat) (es : List En) : Prop := ∀ i e, es[i]? = some e → GoodE lim i e
theorem GoodN.snoc {lim : Nat} {es : List En} (h : GoodN lim es) {e : En} (g : GoodE lim es.length e) : GoodN lim (es ++ [e]) := by
  intro i x hx
  rw [List.getElem?_append] at hx
  split at hx
  · exact h i x hx
  · rename_i hi
    have h0 : i - es.length = 0 := by
      have := (List.getElem?_eq_some_iff.mp hx).1
      rw [List.length_cons, List.length_nil] at this
      omega
    rw [h0] at hx
    cases hx
    have : i = es.length := by omega
    rw [this]
    exact g
theorem perm_vt {zs : List V} {P : List (List Nat)} (h : zs.Perm (P.map vt)) : ∃ Z : List (List Nat), zs = Z.map vt ∧ Z.Perm P := by
  generalize hL : P.map vt = L at h
  induction h generalizing P with
  | nil => exact ⟨[], rfl, by rw [List.map_eq_nil_iff.mp hL]⟩
  | cons x _ ih =>
    cases P with
    | nil => cases hL
    | cons p P =>
      cases hL
      obtain ⟨Z, rfl, pz⟩ := ih rfl
      exact ⟨p :: Z, rfl, pz.cons p⟩
  | swap x y l =>
    match P, hL with
    | p :: p' :: P, hL =>
      cases hL
      exact ⟨p' :: p :: P, rfl, .swap _ _ _⟩
  | trans _ _ ih1 ih2 =>
    obtain ⟨Z, rfl, pz⟩ := ih2 hL
    obtain ⟨Z', rfl, pz'⟩ := ih1 rfl
    exact ⟨Z', rfl, pz'.trans pz⟩
def spNest : Sp := fun vs H Q _ => ∃ (D : Deck) (n ent lim : Nat) (few : Int), vs = [.ref D.dk, .int (ent : Int), .int (lim : Int), .int few] ∧ DeckOk H D n ∧ n + 4000 ≤ 1000000 ∧ 1 ≤ ent ∧ ent ≤ 20 ∧ 1 ≤ lim ∧ lim ≤ 12 ∧
  ∀ (p : Addr) (us : List V) (es : List En) (n' : Nat) (H' : Hp), DeckOk H' D n' → n' ≤ n + 4000 → SameD D H H' → H' p = some (.tup us) → EnAt H' us es → GoodN lim es → 1 ≤ es.length → es.length ≤ ent → Q (.ref p) H'
section
variable {P : Program} {w : World} {K : PySem.W.Frag} {mg : Str → Option Value} {base : Heap} {f : Addr} {fd : FuncData}
theorem ok_nest (F : Fun K "_law_nest" "_law_nest" s__law_nest f fd) (M : Mgs mg) (D_law_draw : Df P w K mg base 1 "_law_draw" ["_law_deck_here", "_law_many"] spDraw) (D_law_pick : Df P w K mg base 2 "_law_pick" ["_law_deck_here", "_law_items"] (spPick K)) (D_law_mixed : Df P w K mg base 2 "_law_mixed" ["_law_deck_here", "_law_items"] spMixed)
    (D_law_drawn_tree : Df P w K mg base 34 "_law_drawn_tree" ["_law_deck_here", "_law_limit"] spDrawn) (D_law_open : Df P w K mg base 41 "_law_open" ["_law_tree_here"] spOpen) : FnOk P w K mg base CX0 42 f fd ["_law_deck_here", "_law_entries", "_law_limit", "_law_few"] spNest := by
  refine F.ok sc__law_nest (fun vs H Q E h => ?_) (fun cdv A outer s H vs Q E hr h => ?_)
  · obtain ⟨D, n, ent, lim, few, rfl, _⟩ := h
    rfl
  obtain ⟨D, n, ent, lim, few, rfl, d, hn, e1, e20, m1, m12, q⟩ := h
  refine ⟨_, (pss_cons (ps_set (i := 4) sc__law_nest.nd rfl (.inl rfl) (pe_lst pa_nil))
    (pss_cons (ps_for PassesOwn.never rfl (pi_range1 rfl M.range (pa_cons (pe_op op_add pe_int (pe_call D_law_draw.ok (hr.mono (by omega)) rfl D_law_draw.g D_law_draw.kp D_law_draw.b .nil pass0 (pa_cons (pv 0) (pa_cons (pv 1) pa_nil)))) pa_nil)) (pg_name (i := 5) sc__law_nest.nd rfl (.inl rfl))
      (pss_cons (ps_set (i := 6) sc__law_nest.nd rfl (.inl rfl) (pe_call D_law_drawn_tree.ok (hr.mono (by omega)) rfl D_law_drawn_tree.g D_law_drawn_tree.kp D_law_drawn_tree.b .nil pass0 (pa_cons (pv 0) (pa_cons (pv 2) pa_nil))))
    (pss_cons (ps_set (i := 7) sc__law_nest.nd rfl (.inl rfl) (pe_lst pa_nil))
    (pss_cons (ps_for PassesOwn.never rfl (pi_list (pe_call D_law_mixed.ok (hr.mono (by omega)) rfl D_law_mixed.g D_law_mixed.kp D_law_mixed.b .nil pass0 (pa_cons (pv 0) (pa_cons (pe_call D_law_open.ok (hr.mono (by omega)) rfl D_law_open.g D_law_open.kp D_law_open.b .nil pass0 (pa_cons (pv 6) pa_nil)) pa_nil)))) (pg_name (i := 8) sc__law_nest.nd rfl (.inl rfl))
      (pss_cons (ps_set (i := 9) sc__law_nest.nd rfl (.inl rfl) (pe_call D_law_pick.ok (hr.mono (by omega)) rfl D_law_pick.g D_law_pick.kp D_law_pick.b .nil pass0 (pa_cons (pv 0) (pa_cons (pe_lst (pa_cons (pe_op op_sub (pv 5) pe_int) (pa_cons (pe_op op_sub (pe_call D_law_draw.ok (hr.mono (by omega)) rfl D_law_draw.g D_law_draw.kp D_law_draw.b .nil pass0 (pa_cons (pv 0) (pa_cons (pe_op op_add (pv 5) pe_int) pa_nil))) pe_int) pa_nil))) pa_nil))))
    (pss_one (ps_if (PW.pt (pw_and (pt_cmpR op_ge (pv 9) pe_int (nomark _)) (pw_and1 (pt_cmpR op_ge (pe_call D_law_draw.ok (hr.mono (by omega)) rfl D_law_draw.g D_law_draw.kp D_law_draw.b .nil pass0 (pa_cons (pv 0) (pa_cons pe_int pa_nil))) (pv 3) (nomark _)))))
      (pss_one (ps_expr (pe_bm PySem.F.plainAttrs_list PySem.F.slot_list_append PySem.F.type_list_append mt_append (pv 7) (pa_cons (pe_tup (pa_cons (pv 8) (pa_cons (pv 9) pa_nil))) pa_nil)))) pss_nil))))
    (pss_one (ps_expr (pe_bm PySem.F.plainAttrs_list PySem.F.slot_list_append PySem.F.type_list_append mt_append (pv 4) (pa_cons (pe_tup (pa_cons (pv 6) (pa_cons (pe_callTy call_tuple_of rfl M.tuple (by decide +kernel) (pa_cons (pe_callB cr_sortTI rfl M.sorted (by decide +kernel) (pa_cons (pv 7) pa_nil)) pa_nil)) pa_nil))) pa_nil))))))))
    (pss_one (ps_ret (pe_callTy call_tuple_of rfl M.tuple (by decide +kernel) (pa_cons (pv 4) pa_nil)))))), ?_⟩
  refine ⟨(by show 0 ≤ sizeLine; decide), fun pf npf => ?_⟩
  have k1 := same_new npf (.lst [])
  have of := d.new npf
  have ef := upd_same (H := H) (a := pf) (o := .lst [])
  have d1 := d.same k1
  generalize upd H pf (.lst []) = H1 at k1 ef d1 ⊢
  refine ⟨_, rfl, _, rfl, D, n, _, rfl, d1, by omega, by omega, by omega, fun i H2 i0 i1 d2 s2 => ?_⟩
  refine ⟨_, _, rfl, rfl, _, rfl, by omega, by omega, ?_⟩
  refine for_range (lo := 0) (n := (1 + i).toNat) (fun k σ H' => ∃ (us : List V) (es : List En) (n' : Nat) (o5 o6 o7 o8 o9 : Option V), σ = [some (.ref D.dk), some (.int (ent : Int)), some (.int (lim : Int)), some (.int few), some (.ref pf), o5, o6, o7, o8, o9] ∧
    DeckOk H' D n' ∧ n' ≤ n + 1 + 150 * k ∧ SameD D H H' ∧ H' pf = some (.lst us) ∧ EnAt H' us es ∧ GoodN lim es ∧ es.length = k) ⟨[], [], n + 1, _, _, _, _, _, rfl, d2, by omega, (SameD.of k1).trans s2, s2.at of ef, .nil, (fun i e h => by cases h), rfl⟩ (fun k σ H3 hk hp => ?_) (fun σ H3 hp => ?_)
  · obtain ⟨us, es, n3, o5, o6, o7, o8, o9, rfl, d3, n3b, s3, ef3, en3, g3, l3⟩ := hp
    have hk20 : k < 20 := by omega
    refine ⟨_, rfl, _, rfl, D, n3, lim, rfl, d3, by omega, m1, by omega, fun tv t n4 H4 d4 n4b s4 at4 z1 z2 ltb => ?_⟩
    refine ⟨(by show 0 ≤ sizeLine; decide), fun pl npl => ?_⟩
    have k5 := same_new npl (.lst [])
    have ol := d4.new npl
    have el := upd_same (H := H4) (a := pl) (o := .lst [])
    have d5 := d4.same k5
    have at5 := at4.same k5
    have s5 := (s3.trans s4).trans (SameD.of k5)
    have nplH : H pl = none := (s3.trans s4).free d4 npl
    have nfl : pf ≠ pl := ne_of_none (s4.at of ef3) npl
    have ef5 : upd H4 pl (.lst []) pf = some (.lst us) := k5 _ _ (s4.at of ef3)
    have en5 : EnAt (upd H4 pl (.lst [])) us es := (en3.keep (s4.keepT d3)).keep (Tw.Same.keepT k5)
    generalize upd H4 pl (.lst []) = H5 at k5 el d5 at5 s5 ef5 en5 ⊢
    have ndO := opens_nodup ((t.steps .first []).map (·.1)) (steps_nodup t [])
    have lenO := opens_len ((t.steps .first []).map (·.1)) ((t.steps .first []).map (·.1))
    rw [List.length_map, B.steps_len] at lenO
    have opO := fun p => @opens_open t p
    refine ⟨_, rfl, _, rfl, tv, t, rfl, at5, by omega, fun po H6 s6 npo epo => ?_⟩
    generalize opensOf ((t.steps .first []).map (·.1)) ((t.steps .first []).map (·.1)) = O at ndO lenO opO epo
    have d6 := d5.same s6
    have oo : Off D po := by
      refine d5.new npo
    refine ⟨D, n4, po, _, rfl, d6, by rw [List.length_map]; omega, epo, oo, by rw [List.length_map]; omega, fun pm zs H7 d7 s7 npm epm perm om => ?_⟩
    rw [List.length_map] at d7
    obtain ⟨Z, rfl, pz⟩ := perm_vt perm
    have zl := pz.length_eq
    have s67 := (SameD.of (D := D) s6).trans s7
    have nlm : pl ≠ pm := ne_of_none (s6 _ _ el) npm
    refine ⟨pm, rfl, ⟨_, SqL.of epm⟩, ?_⟩
    refine for_list (K := K) (a := pm) (xs := Z.map vt) (fun j σ H' => ∃ (vs : List V) (ls : List Lk) (n' : Nat) (o8 o9 : Option V), σ = [some (.ref D.dk), some (.int (ent : Int)), some (.int (lim : Int)), some (.int few), some (.ref pf), some (.int (0 + (k : Int))), some tv, some (.ref pl), o8, o9] ∧
      DeckOk H' D n' ∧ n' ≤ n4 + O.length + 3 * j ∧ SameD D H H' ∧ KeepT H5 H' ∧ H' pm = some (.lst (Z.map vt)) ∧ H' pf = some (.lst us) ∧ H' pl = some (.lst vs) ∧ LkAt H' vs ls ∧ ls.length ≤ j ∧ (ls.map (·.1)).Sublist (Z.take j) ∧ ∀ l ∈ ls, l.2 < k)
      ⟨[], [], _, _, _, rfl, d7, by omega, s5.trans s67, s67.keepT d5, epm, s67.at of ef5, s67.at ol el, .nil, Nat.le_refl 0, .slnil, (fun l hl => by cases hl)⟩ (fun j σ H' _ hp => by obtain ⟨_, _, _, _, _, _, _, _, _, _, h, _⟩ := hp; exact SqL.of h) (fun j x σ H8 hx hp => ?_) (fun σ H8 hp => ?_)
    · obtain ⟨vs, ls, n8, o8, o9, rfl, d8, n8b, s8, kt8, em8, ef8, el8, lk8, ll8, sb8, ix8⟩ := hp
      rw [List.getElem?_map] at hx
      obtain ⟨pq, hpq, rfl⟩ := Option.map_eq_some_iff.mp hx
      have hj := (List.getElem?_eq_some_iff.mp hpq).1
      refine ⟨_, rfl, _, rfl, _, _, rfl, rfl, _, rfl, _, rfl, _, _, rfl, rfl, D, n8, _, rfl, d8, by omega, by omega, by omega, fun r H9 r0 r1 d9 s9 => ?_⟩
      refine ⟨_, _, rfl, rfl, (by show 2 ≤ sizeLine; decide), fun pi npi => ?_⟩
      have k9 := same_new npi (.lst [.int (0 + (k : Int) - 1), .int (r - 1)])
      refine ⟨D, n8 + 1, _, rfl, d9.same k9, by omega, .inr ⟨pi, _, rfl, upd_same, d9.new npi, List.cons_ne_nil _ _, (by show 2 ≤ 60; decide), fun x H10 hx d10 s10 => ?_⟩⟩
      obtain ⟨ix, rfl, ix0, ix1⟩ : ∃ ix : Int, x = .int ix ∧ -1 ≤ ix ∧ ix < (k : Int) := by
        rcases List.mem_cons.mp hx with rfl | hx
        · exact ⟨_, rfl, by omega, by omega⟩
        · rw [List.mem_singleton.mp hx]
          exact ⟨_, rfl, by omega, by omega⟩
      have s10' := (s9.trans (SameD.of k9)).trans s10
      have tk : Z.take (j + 1) = Z.take j ++ [pq] := take_next hpq
      refine ⟨_, rfl, _, _, rfl, rfl, _, rfl, ?_⟩
      by_cases hix : ix ≥ 0
      · rw [decide_eq_true hix]
        refine iteT ⟨_, rfl, D, n8 + 2, 4, rfl, d10, by omega, by decide, by decide, fun r2 H11 _ _ d11 s11 => ?_⟩
        have sA := s10'.trans s11
        refine ⟨_, rfl, _, _, rfl, rfl, _, rfl, ?_⟩
        by_cases hf : r2 ≥ few
        · rw [decide_eq_true hf]
          refine iteT ?_
          have el11 := sA.at ol el8
          refine ⟨_, rfl, .inl ⟨rfl, _, SqL.of el11⟩, _, rfl, _, rfl, (by show 2 ≤ sizeLine; decide), fun pt npt => ?_⟩
          have k12 := same_new npt (.tup [vt pq, .int ix])
          have et := upd_same (H := H11) (a := pt) (o := .tup [vt pq, .int ix])
          have vl := lk8.len
          refine ⟨pl, _, _, rfl, rfl, k12 _ _ el11, by show _ < 16777216; omega, ?_⟩
          have sB := sA.trans (SameD.of k12)
          have d12 := d11.same k12
          have el12 := k12 _ _ el11
          have em12 := k12 _ _ (sA.at om em8)
          have ef12 := k12 _ _ (sA.at of ef8)
          have lk12 := (lk8.keep (sA.keepT d8)).keep (Tw.Same.keepT k12)
          generalize upd H11 pt (.tup [vt pq, .int ix]) = H12 at k12 et sB d12 el12 em12 ef12 lk12 ⊢
          have kT : KeepT H12 (upd H12 pl (.lst (vs ++ [.ref pt]))) := fun b xs e => by
            rw [upd_ne (fun z => by rw [z, el12] at e; cases e)]; exact e
          have exi : ix = ((ix.toNat : Nat) : Int) := by omega
          rw [exi] at et
          refine ⟨vs ++ [.ref pt], ls ++ [(pq, ix.toNat)], n8 + 3, _, _, rfl, d12.put ol _, by omega, (s8.trans sB).put nplH _, (kt8.trans (sB.keepT d8)).trans kT, ?_, ?_, upd_same, (lk12.keep kT).snoc (kT _ _ et), by rw [List.length_append]; show _ + 1 ≤ _; omega, ?_, ?_⟩
          · rw [upd_ne (Ne.symm nlm)]; exact em12
          · rw [upd_ne nfl]; exact ef12
          · rw [tk, List.map_append]
            exact sb8.append (List.Sublist.refl _)
          · intro l hl
            rcases List.mem_append.mp hl with h | h
            · exact ix8 l h
            · rw [List.mem_singleton.mp h]
              show ix.toNat < k
              omega
        · rw [decide_eq_false hf]
          refine iteF ?_
          refine ⟨vs, ls, n8 + 3, _, _, rfl, d11, by omega, s8.trans sA, kt8.trans (sA.keepT d8), sA.at om em8, sA.at of ef8, sA.at ol el8, lk8.keep (sA.keepT d8), by omega, ?_, ix8⟩
          rw [tk]
          exact sb8.trans (List.sublist_append_left _ _)
      · rw [decide_eq_false hix]
        refine iteF (iteF ?_)
        refine ⟨vs, ls, n8 + 2, _, _, rfl, d10, by omega, s8.trans s10', kt8.trans (s10'.keepT d8), s10'.at om em8, s10'.at of ef8, s10'.at ol el8, lk8.keep (s10'.keepT d8), by omega, ?_, ix8⟩
        rw [tk]
        exact sb8.trans (List.sublist_append_left _ _)
    · obtain ⟨vs, ls, n8, o8, o9, rfl, d8, n8b, s8, kt8, em8, ef8, el8, lk8, ll8, sb8, ix8⟩ := hp
      rw [List.length_map] at n8b ll8 sb8
      have at8 := at5.keep kt8
      refine ⟨_, rfl, .inl ⟨rfl, _, SqL.of ef8⟩, _, rfl, _, rfl, pl, vs, rfl, SqL.of el8, lk8.mem, fun ys ps perm2 nps => ?_⟩
      obtain ⟨ks, lkS, pk⟩ := lk8.perm perm2
      have k9 := same_new nps (.lst ys)
      have es9 := upd_same (H := H8) (a := ps) (o := .lst ys)
      have d9 := d8.same k9
      have ef9 := k9 _ _ ef8
      have at9 := at8.same k9
      have lk9 := lkS.keep (Tw.Same.keepT k9)
      have en9 := (en5.keep kt8).keep (Tw.Same.keepT k9)
      have s9 := s8.trans (SameD.of k9)
      generalize upd H8 ps (.lst ys) = H9 at k9 es9 d9 ef9 at9 lk9 en9 s9 ⊢
      refine ⟨ps, ys, rfl, .inl ⟨SqL.of es9, fun pt npt => ?_⟩⟩
      have k10 := same_new npt (.tup ys)
      have et10 := upd_same (H := H9) (a := pt) (o := .tup ys)
      have d10 := d9.same k10
      have ef10 := k10 _ _ ef9
      have at10 := at9.same k10
      have lk10 := lk9.keep (Tw.Same.keepT k10)
      have en10 := en9.keep (Tw.Same.keepT k10)
      have s10 := s9.trans (SameD.of k10)
      generalize upd H9 pt (.tup ys) = H10 at k10 et10 d10 ef10 at10 lk10 en10 s10 ⊢
      refine ⟨(by show 2 ≤ sizeLine; decide), fun pe npe => ?_⟩
      have k11 := same_new npe (.tup [tv, .ref pt])
      have ee11 := upd_same (H := H10) (a := pe) (o := .tup [tv, .ref pt])
      have d11 := d10.same k11
      have ef11 := k11 _ _ ef10
      have et11 := k11 _ _ et10
      have at11 := at10.same k11
      have lk11 := lk10.keep (Tw.Same.keepT k11)
      have en11 := en10.keep (Tw.Same.keepT k11)
      have s11 := s10.trans (SameD.of k11)
      generalize upd H10 pe (.tup [tv, .ref pt]) = H11 at k11 ee11 d11 ef11 et11 at11 lk11 en11 s11 ⊢
      have ul := en11.len
      refine ⟨pf, _, _, rfl, rfl, ef11, by show _ < 16777216; omega, ?_⟩
      have kT : KeepT H11 (upd H11 pf (.lst (us ++ [.ref pe]))) := fun b xs e => by
        rw [upd_ne (fun z => by rw [z, ef11] at e; cases e)]; exact e
      have ksm : ∀ l ∈ ks, l ∈ ls := fun l hl => pk.mem_iff.mp hl
      have sub : ∀ l ∈ ls, l.1 ∈ O := fun l hl => pz.mem_iff.mp (List.mem_of_mem_take (sb8.subset (List.mem_map.mpr ⟨l, hl, rfl⟩)))
      have ndk : (ks.map (·.1)).Nodup := (pk.map (·.1)).nodup_iff.mpr (((pz.nodup_iff.mpr ndO).sublist (List.take_sublist _ _)).sublist sb8)
      refine ⟨us ++ [.ref pe], es ++ [(t, ks)], n8, _, _, _, _, _, rfl, d11.put of _, by omega, s11.put npf _, upd_same, (en11.keep kT).snoc (kT _ _ ee11) (at11.keep kT) (kT _ _ et11) (lk11.keep kT), g3.snoc ⟨z1, z2, ltb, ndk, fun l hl => opO l.1 (sub l (ksm l hl)), fun l hl => by rw [l3]; exact ix8 l (ksm l hl)⟩, by rw [List.length_append, l3]; rfl⟩
  · obtain ⟨us, es, n3, o5, o6, o7, o8, o9, rfl, d3, n3b, s3, ef3, en3, g3, l3⟩ := hp
    refine ⟨_, rfl, pf, us, rfl, .inl ⟨SqL.of ef3, fun pr npr => ?_⟩⟩
    have k4 := same_new npr (.tup us)
    exact q pr us es n3 _ (d3.same k4) (by omega) (s3.trans (SameD.of k4)) upd_same (en3.keep (Tw.Same.keepT k4)) g3 (by omega) (by omega)
end
/-! ### what hangs where; add_spots -/
def B.sub : B → (List Nat → B) → B
  | .nil, h => h []
  | .node l x r, h => .node (l.sub fun w => h (108 :: w)) x (r.sub fun w => h (114 :: w))
/-- the spots at us tell the trees ds: the first is none, each later one has its sides before it -/
structure SpAt (H : Hp) (us : List V) (ds : List B) : Prop where
  len : us.length = ds.length
  pos : ds[0]? = some .nil
  zero : ∃ a, us[0]? = some (.ref a) ∧ H a = some (.tup [.int 0, .str "", .int 0])
  each : ∀ k, 0 < k → k < ds.length → ∃ (a : Addr) (i j c : Nat) (l r : B), us[k]? = some (.ref a) ∧ H a = some (.tup [.int (i : Int), .str (ch c), .int (j : Int)]) ∧ i < k ∧ j < k ∧ ds[i]? = some l ∧ ds[j]? = some r ∧ ds[k]? = some (.node l c r)
theorem SpAt.keep {H H' : Hp} (k : KeepT H H') {us : List V} {ds : List B} (h : SpAt H us ds) : SpAt H' us ds := by
  obtain ⟨a, e1, e2⟩ := h.zero
  refine ⟨h.len, h.pos, ⟨a, e1, k _ _ e2⟩, fun n n0 n1 => ?_⟩
  obtain ⟨a, i, j, c, l, r, h1, h2, h3⟩ := h.each n n0 n1
  exact ⟨a, i, j, c, l, r, h1, k _ _ h2, h3⟩
theorem SpAt.snoc {H : Hp} {us : List V} {ds : List B} (h : SpAt H us ds) {a : Addr} {i j c : Nat} {l r : B} (e : H a = some (.tup [.int (i : Int), .str (ch c), .int (j : Int)])) (hl : ds[i]? = some l) (hr : ds[j]? = some r) :
    SpAt H (us ++ [.ref a]) (ds ++ [.node l c r]) := by
  have hi := (List.getElem?_eq_some_iff.mp hl).1
  have hj := (List.getElem?_eq_some_iff.mp hr).1
  obtain ⟨z, z1, z2⟩ := h.zero
  have zl := (List.getElem?_eq_some_iff.mp z1).1
  have len := h.len
  refine ⟨by rw [List.length_append, List.length_append, len]; rfl, by rw [List.getElem?_append_left (by omega)]; exact h.pos, ⟨z, by rw [List.getElem?_append_left zl]; exact z1, z2⟩, fun n n0 n1 => ?_⟩
  rw [List.length_append, List.length_cons, List.length_nil] at n1
  by_cases hn : n < ds.length
  · obtain ⟨a', i', j', c', l', r', h1, h2, h3, h4, h5, h6, h7⟩ := h.each n n0 hn
    exact ⟨a', i', j', c', l', r', by rw [List.getElem?_append_left (by omega)]; exact h1, h2, h3, h4, by rw [List.getElem?_append_left (by omega)]; exact h5, by rw [List.getElem?_append_left (by omega)]; exact h6, by rw [List.getElem?_append_left hn]; exact h7⟩
  · have hn : n = ds.length := by omega
    subst hn
    refine ⟨a, i, j, c, l, r, ?_, e, hi, hj, by rw [List.getElem?_append_left hi]; exact hl, by rw [List.getElem?_append_left hj]; exact hr, by rw [List.getElem?_append_right (Nat.le_refl _), Nat.sub_self]; rfl⟩
    rw [← len, List.getElem?_append_right (Nat.le_refl _), Nat.sub_self]
    rfl
/-- the dict at hd tells for each path the spot of what hangs there -/
def HgAt (H : Hp) (hd : Addr) (ds : List B) (h : List Nat → B) : Prop := ∃ kvs : List (Key × V), H hd = some (.dK kvs) ∧ ∀ p : List Nat, ∃ i : Nat, (valV kvs (.inr (tx p))).getD (.int 0) = .int (i : Int) ∧ ds[i]? = some (h p)
/-- all stands still but the list at sp -/
def SameL (sp : Addr) (H H' : Hp) : Prop := ∀ b o, b ≠ sp → H b = some o → H' b = some o
def spAdd (N : Nat) : Sp := fun vs H Q _ => ∃ (sp hd : Addr) (v : V) (t : B) (q : List Nat) (us : List V) (ds : List B) (h : List Nat → B), vs = [.ref sp, v, vt q, .ref hd] ∧ BAt H v t ∧ t.size < N ∧ t.size + q.length ≤ 500 ∧ H sp = some (.lst us) ∧ SpAt H us ds ∧ HgAt H hd ds h ∧ ds.length + t.size ≤ 1000 ∧
  ∀ (k : Nat) (us' : List V) (ex : List B) (H' : Hp), SameL sp H H' → H' sp = some (.lst us') → SpAt H' us' (ds ++ ex) → ex.length = t.size → (ds ++ ex)[k]? = some (t.sub fun w => h (q ++ w)) → (t ≠ .nil → k + 1 = us'.length) → Q (.int (k : Int)) H'
section
variable {P : Program} {w : World} {K : PySem.W.Frag} {mg : Str → Option Value} {base : Heap} {f : Addr} {fd : FuncData}
theorem ok_add (F : Fun K "add_spots" "add_spots" s_add_spots f fd) (M : Mgs mg) (b : Binds K fd ["spots", "tree", "path", "hung"] []) (g : mg "add_spots" = some (.ref f)) : ∀ N : Nat, FnOk P w K mg base CX0 N f fd ["spots", "tree", "path", "hung"] (spAdd N)
  | 0 => by
    have no : ∀ vs H Q E, ¬ spAdd 0 vs H Q E := fun vs H Q E h => by
      obtain ⟨sp, hd, v, t, q, us, ds, h, _, _, h1, _⟩ := h
      omega
    exact ⟨fun vs H Q E h => absurd h (no vs H Q E), fun A outer s H args us vs Q E _ _ _ _ h => absurd h (no vs H Q E)⟩
  | N + 1 => by
    have Dself : Df P w K mg base N "add_spots" ["spots", "tree", "path", "hung"] (spAdd N) := ⟨f, fd, ok_add F M b g N, b, F.kp, g⟩
    refine F.ok sc_add_spots (fun vs H Q E h => ?_) (fun cdv A outer s H vs Q E hr h => ?_)
    · obtain ⟨sp, hd, v, t, q, us, ds, h, rfl, _⟩ := h
      rfl
    obtain ⟨sp, hd, v, t, pq, us, ds, h, rfl, hv, hn, hz, es, sa, hg, hl, q⟩ := h
    refine ⟨_, (pss_cons (ps_if (pt_cmpR op_isN (pv 1) pe_non (nomark _))
      (pss_one (ps_ret (pe_dget2 (Nat.lt_of_le_of_lt (Nat.add_le_add_left (by decide) _) hr.units) (pv 3) (pv 2) pe_int ⟨rfl, rfl, rfl, rfl⟩))) pss_nil)
    (pss_cons (ps_set (i := 4) sc_add_spots.nd rfl (.inl rfl) (pe_call Dself.ok (hr.mono (by omega)) rfl Dself.g Dself.kp Dself.b .nil pass0 (pa_cons (pv 0) (pa_cons (pe_ix ix_tup (pv 1) pe_int (fun _ _ => rfl)) (pa_cons (pe_op op_add_str (pv 2) pe_str) (pa_cons (pv 3) pa_nil))))))
    (pss_cons (ps_set (i := 5) sc_add_spots.nd rfl (.inl rfl) (pe_call Dself.ok (hr.mono (by omega)) rfl Dself.g Dself.kp Dself.b .nil pass0 (pa_cons (pv 0) (pa_cons (pe_ix ix_tup (pv 1) pe_int (fun _ _ => rfl)) (pa_cons (pe_op op_add_str (pv 2) pe_str) (pa_cons (pv 3) pa_nil))))))
    (pss_cons (ps_expr (pe_bm PySem.F.plainAttrs_list PySem.F.slot_list_append PySem.F.type_list_append mt_append (pv 0) (pa_cons (pe_tup (pa_cons (pv 4) (pa_cons (pe_ix ix_tup (pv 1) pe_int (fun _ _ => rfl)) (pa_cons (pv 5) pa_nil)))) pa_nil)))
    (pss_one (ps_ret (pe_op op_sub (pe_callB call_len_seq rfl M.len PySem.boot_len (pa_cons (pv 0) pa_nil)) pe_int))))))), ?_⟩
    obtain ⟨kvs, ek, hk⟩ := id hg
    rcases hv.inv with ⟨rfl, rfl⟩ | ⟨a, l, r, x, tl, tr, rfl, rfl, ea, hl', hr'⟩
    · refine ⟨_, rfl, rfl, _, rfl, iteT ?_⟩
      obtain ⟨i, e1, e2⟩ := hk pq
      refine ⟨_, rfl, hd, rfl, .inl ⟨kvs, .inl ek⟩, _, rfl, _, .inl ⟨kvs, .inr (tx pq), .inl ek, rfl, rfl⟩, ?_⟩
      rw [e1]
      refine q i us [] H (fun b o _ e => e) es (by rw [List.append_nil]; exact sa) rfl ?_ (fun z => absurd rfl z)
      rw [List.append_nil]
      show _ = some (h (pq ++ []))
      rw [List.append_nil]
      exact e2
    · refine ⟨_, rfl, rfl, _, rfl, iteF ?_⟩
      have sz : tl.size + 1 + tr.size < N + 1 := hn
      have sz2 : tl.size + 1 + tr.size + pq.length ≤ 500 := hz
      have sz3 : ds.length + (tl.size + 1 + tr.size) ≤ 1000 := hl
      have nsa : ∀ {H' : Hp} {b : Addr} {xs ys : List V}, H' sp = some (.lst xs) → H' b = some (.tup ys) → b ≠ sp := fun e1 e2 z => by rw [z, e1] at e2; cases e2
      have nsh : hd ≠ sp := fun z => by rw [z, es] at ek; cases ek
      have kT : ∀ {H1 H2 : Hp} {xs : List V}, H1 sp = some (.lst xs) → SameL sp H1 H2 → KeepT H1 H2 := fun e1 sl b xs e => sl b _ (nsa e1 e) e
      refine ⟨_, rfl, _, rfl, a, _, _, _, rfl, rfl, SqT.of ea, rfl, _, rfl, _, _, rfl, rfl, ?_, ?_⟩
      · rw [str_l, tx_len, tx_len]; exact small (by show _ + 1 ≤ 1000; omega)
      rw [str_l, tx_app]
      refine ⟨_, rfl, sp, hd, l, tl, pq ++ [108], us, ds, h, rfl, hl', by omega, by rw [List.length_append]; show _ + (_ + 1) ≤ 500; omega, es, sa, hg, by omega, fun i us1 x1 H1 s1 es1 sa1 xl1 ei _ => ?_⟩
      have k1 := kT es s1
      have ek1 := s1 hd _ nsh ek
      have hg1 : HgAt H1 hd (ds ++ x1) h := ⟨kvs, ek1, fun p => by
        obtain ⟨i, e1, e2⟩ := hk p
        exact ⟨i, e1, by rw [List.getElem?_append_left (List.getElem?_eq_some_iff.mp e2).1]; exact e2⟩⟩
      have ea1 := k1 _ _ ea
      refine ⟨_, rfl, _, rfl, a, _, _, _, rfl, rfl, SqT.of ea1, rfl, _, rfl, _, _, rfl, rfl, ?_, ?_⟩
      · rw [str_r, tx_len, tx_len]; exact small (by show _ + 1 ≤ 1000; omega)
      rw [str_r, tx_app]
      refine ⟨_, rfl, sp, hd, r, tr, pq ++ [114], us1, ds ++ x1, h, rfl, hr'.keep k1, by omega, by rw [List.length_append]; show _ + (_ + 1) ≤ 500; omega, es1, sa1, hg1, by rw [List.length_append]; omega, fun j us2 x2 H2 s2 es2 sa2 xl2 ej _ => ?_⟩
      have k2 := kT es1 s2
      have ea2 := k2 _ _ ea1
      refine ⟨_, rfl, .inl ⟨rfl, _, SqL.of es2⟩, _, rfl, _, rfl, a, _, _, _, rfl, rfl, SqT.of ea2, rfl, _, rfl, (by show 3 ≤ sizeLine; decide), fun pt npt => ?_⟩
      have k3 := same_new npt (.tup [.int (i : Int), .str (ch x), .int (j : Int)])
      have et := upd_same (H := H2) (a := pt) (o := .tup [.int (i : Int), .str (ch x), .int (j : Int)])
      have es3 := k3 _ _ es2
      have sa3 := sa2.keep (Tw.Same.keepT k3)
      have s3 : SameL sp H (upd H2 pt (.tup [.int (i : Int), .str (ch x), .int (j : Int)])) := fun b o hb e => k3 _ _ (s2 b o hb (s1 b o hb e))
      generalize upd H2 pt (.tup [.int (i : Int), .str (ch x), .int (j : Int)]) = H3 at k3 et es3 sa3 s3 ⊢
      have ul := sa3.len
      rw [List.length_append, List.length_append] at ul
      refine ⟨sp, _, _, rfl, rfl, es3, by show _ < 16777216; omega, ?_⟩
      have kS : KeepT H3 (upd H3 sp (.lst (us2 ++ [.ref pt]))) := fun b xs e => by
        rw [upd_ne (nsa es3 e)]; exact e
      have ei2 : ((ds ++ x1) ++ x2)[i]? = some (tl.sub fun w => h (pq ++ [108] ++ w)) := by
        rw [List.getElem?_append_left (List.getElem?_eq_some_iff.mp ei).1]; exact ei
      have sa4 := (sa3.keep kS).snoc (kS _ _ et) ei2 ej
      refine ⟨_, rfl, _, _, rfl, .inl (SqL.of upd_same), ?_⟩
      refine ⟨_, _, rfl, rfl, ?_⟩
      have ek4 : (((us2 ++ [V.ref pt]).length : Nat) : Int) - 1 = ((us2.length : Nat) : Int) := by
        rw [List.length_append, List.length_cons, List.length_nil]; omega
      show Q (.int _) _
      rw [ek4]
      refine q us2.length (us2 ++ [.ref pt]) (x1 ++ x2 ++ [.node (tl.sub fun w => h (pq ++ [108] ++ w)) x (tr.sub fun w => h (pq ++ [114] ++ w))]) _ (fun b o hb e => by rw [upd_ne hb]; exact s3 b o hb e) upd_same (by rw [← List.append_assoc, ← List.append_assoc]; exact sa4) ?_ ?_ (fun _ => by rw [List.length_append]; rfl)
      · rw [List.length_append, List.length_append, xl1, xl2]
        show tl.size + tr.size + 1 = tl.size + 1 + tr.size
        omega
      · rw [← List.append_assoc, ← List.append_assoc, List.getElem?_append_right (by rw [List.length_append, List.length_append]; omega)]
        rw [show us2.length - (ds ++ x1 ++ x2).length = 0 by rw [List.length_append, List.length_append]; omega]
        show some _ = some (B.node (tl.sub fun w => h (pq ++ 108 :: w)) x (tr.sub fun w => h (pq ++ 114 :: w)))
        simp only [List.append_assoc, List.cons_append, List.nil_append]
end
/-! ### name = {key: value for ..} on one line, the name a local -/
section
variable {X : Cx}
theorem sw_dict {kx vx : Expr} {gs : List Comprehension} {scope : Scope} {pos py : Pos} {y : Str} {l : Nat} {env : Env} (hk : env.scope.kind = .function) (hy : env.scope.names.lookup y = some .local) (hl : (py.line == pos.line) = true)
    (ha : (scope.names.any fun (n, k) => n == y && (k == .local || k == .cell)) = false) : swapsWith (.DictComp kx vx gs scope pos) (some (.Name y py)) l env = pure true := by
  have ky : env.kindOf y = some .local := hy
  have hb : env.blockKind = .function := by unfold Env.blockKind; rw [hk]; rfl
  unfold swapsWith
  simp only [hb, ky, ha, Expr.pos, hl]
  rfl
theorem ps_setDc {i : Nat} {y : Str} {py : Pos} {kx vx tg iter : Expr} {ifs : List Expr} {scope : Scope} {own : List (Str × Nat)} {pos spos : Pos} {wi : TI} {g : TG} {tt : TT} {tk tv : TE} (hc : X.calm = true) (hN : X.N.Nodup) (hy : X.N[i]? = some y) (hyl : X.env.scope.names.lookup y = some .local)
    (hsw : swapsWith (.DictComp kx vx [⟨tg, iter, ifs, 0⟩] scope pos) (some (.Name y py)) spos.line X.env = pure true) (hi : PI X tg iter wi) (ok : BlkOk X.N X.env.scope scope own)
    (hg : ∀ (s : Shared) (H : Hp) (C : Addr) (cl : List (Str × Addr)) (fp : List Addr), PG (X.blk s H scope (compEnvC scope cl C X.env) fp) tg g) (ht : ∀ (s : Shared) (H : Hp) (C : Addr) (cl : List (Str × Addr)) (fp : List Addr), PTs (X.blk s H scope (compEnvC scope cl C X.env) fp) ifs tt)
    (hk : ∀ (s : Shared) (H : Hp) (C : Addr) (cl : List (Str × Addr)) (fp : List Addr), PE (X.blk s H scope (compEnvC scope cl C X.env) fp) kx tk)
    (he : ∀ (s : Shared) (H : Hp) (C : Addr) (cl : List (Str × Addr)) (fp : List Addr), PE (X.blk s H scope (compEnvC scope cl C X.env) fp) vx tv) (hs : ∀ x, foldedSetIterable iter X.env x = pure x := by intro _; rfl) :
    PS X (.Assign [.Name y py] (.DictComp kx vx [⟨tg, iter, ifs, 0⟩] scope pos) spos) (tAsg (tDc wi g tt tk tv (own.map (·.2))) (gName i)) := by
  refine ⟨fun pins s σ H D I h => ?_⟩
  rw [exec_Assign_Name_used _ _ _ _ hsw]
  refine wpAny_bind (wpAny_standAt (wpAny_bind ?_))
  show wpAny _ X.A (do let _ ← comprehension (.DictComp kx vx [⟨tg, iter, ifs, 0⟩] scope pos) scope X.env (firstIterPos [⟨tg, iter, ifs, 0⟩] pos) newDict false (eval iter X.env) (some (assign (.Name y py) X.env))) _ _ s
  have h : tDc wi g tt tk tv (own.map (·.2)) σ H (fun x H1 => gName i x σ H1 D.nx) := h
  refine wpAny_bind (thn (dc_core (Qf := fun _ s' => SP X pins D .next s') hc hN I hi ok hg ht hk he hs h fun L C s' m H' I' q hn f => ?_) fun _ s' hq => wpAny_pure (wpAny_pure hq))
  show wpAny _ _ (assign (.Name y py) X.env (.ref L)) _ _ _
  refine wpAny_assign_Name (store_ok2 (v := V.ref L) I' hN hy (.inl hyl) rfl (fun s2 I2 ⟨a, sb, ha⟩ => ?_) (.inr hyl))
  obtain ⟨f0, f1, f2, f3, f4, f5⟩ := f
  have haC : C ≠ a := by
    rcases ha with z | z
    · rw [z]; exact f1
    · exact fun e => f4 y a z e.symm
  refine ⟨m, hn.sameBut sb haC, fun h3 sb3 => ?_⟩
  exact ⟨_, H', I2.turned (t' := s2.toks) (fun b o hb e => (sb3.2 b hb).trans e) f0 f1 f3 f4 f5, q⟩
end
/-! ### the whole trees of a nest; spots_of -/
def hungL (F : List B) (ls : List Lk) (p : List Nat) : B := match ls.find? (fun l => decide (l.1 = p)) with
  | some l => F.getD l.2 .nil
  | none => .nil
def fulls (es : List En) : List B := es.foldl (fun F e => F ++ [e.1.sub (hungL F e.2)]) []
theorem fulls_snoc (es : List En) (e : En) : fulls (es ++ [e]) = fulls es ++ [e.1.sub (hungL (fulls es) e.2)] := by
  unfold fulls
  rw [List.foldl_append]
  rfl
theorem fulls_len (es : List En) : (fulls es).length = es.length := by
  have go : ∀ (es : List En) (F : List B), (es.foldl (fun F e => F ++ [e.1.sub (hungL F e.2)]) F).length = F.length + es.length := by
    intro es
    induction es with
    | nil => intro F; rfl
    | cons e r ih =>
      intro F
      rw [List.foldl_cons, ih, List.length_append, List.length_cons, List.length_cons, List.length_nil]
      omega
  unfold fulls
  rw [go, List.length_nil, Nat.zero_add]
theorem EnAt.get {H : Hp} {vs : List V} {es : List En} (h : EnAt H vs es) : ∀ {i : Nat} {v : V}, vs[i]? = some v → ∃ (a la : Addr) (tv : V) (us : List V) (t : B) (ls : List Lk), v = .ref a ∧ es[i]? = some (t, ls) ∧ H a = some (.tup [tv, .ref la]) ∧ BAt H tv t ∧ H la = some (.tup us) ∧ LkAt H us ls := by
  induction h with
  | nil => intro i v hv; cases hv
  | cons e1 e2 e3 e4 _ ih =>
    intro i v hv
    match i, hv with
    | 0, hv => cases hv; exact ⟨_, _, _, _, _, _, rfl, rfl, e1, e2, e3, e4⟩
    | i + 1, hv => exact ih hv
theorem LkAt.get {H : Hp} {vs : List V} {ls : List Lk} (h : LkAt H vs ls) : ∀ {i : Nat} {v : V}, vs[i]? = some v → ∃ (a : Addr) (p : List Nat) (n : Nat), v = .ref a ∧ ls[i]? = some (p, n) ∧ H a = some (.tup [vt p, .int (n : Int)]) := by
  induction h with
  | nil => intro i v hv; cases hv
  | cons e _ ih =>
    intro i v hv
    match i, hv with
    | 0, hv => cases hv; exact ⟨_, _, _, rfl, rfl, e⟩
    | i + 1, hv => exact ih hv
/-- what the dict tells behind j links -/
def tells (rs : List Nat) (ls : List Lk) (p : List Nat) : Option V := (ls.find? fun l => decide (l.1 = p)).map fun l => V.int ((rs.getD l.2 0 : Nat) : Int)
theorem tells_next {rs : List Nat} {ls : List Lk} {j : Nat} {q : List Nat} {n : Nat} (nd : (ls.map (·.1)).Nodup) (h : ls[j]? = some (q, n)) (p : List Nat) : tells rs (ls.take (j + 1)) p = if p = q then some (.int ((rs.getD n 0 : Nat) : Int)) else tells rs (ls.take j) p := by
  have hj := (List.getElem?_eq_some_iff.mp h).1
  have no : ∀ l ∈ ls.take j, l.1 ≠ q := fun l hl e => by
    have nt : ((ls.take (j + 1)).map (·.1)).Nodup := nd.sublist ((List.take_sublist _ _).map _)
    rw [take_next h, List.map_append, List.nodup_append] at nt
    exact nt.2.2 l.1 (List.mem_map.mpr ⟨l, hl, rfl⟩) q (List.mem_singleton.mpr rfl) e
  unfold tells
  rw [take_next h, List.find?_append]
  by_cases hp : p = q
  · subst hp
    rw [if_pos rfl, List.find?_eq_none.mpr (fun l hl => by simpa using no l hl)]
    simp
  · rw [if_neg hp]
    have : List.find? (fun l : Lk => decide (l.1 = p)) [(q, n)] = none := by
      rw [List.find?_eq_none]
      intro l hl
      rw [List.mem_singleton.mp hl]
      simpa using fun z : q = p => hp z.symm
    rw [this]
    simp
theorem nodup_le {α : Type} [DecidableEq α] : ∀ {l m : List α}, l.Nodup → (∀ x ∈ l, x ∈ m) → l.length ≤ m.length
  | [], m, _, _ => Nat.zero_le _
  | x :: l, m, nd, h => by
    obtain ⟨n1, n2⟩ := List.nodup_cons.mp nd
    have hx := h x List.mem_cons_self
    have := nodup_le (l := l) (m := m.erase x) n2 fun y hy => (List.mem_erase_of_ne (fun z : y = x => n1 (z ▸ hy))).mpr (h y (List.mem_cons_of_mem _ hy))
    rw [List.length_erase_of_mem hx] at this
    have : 0 < m.length := List.length_pos_of_mem hx
    rw [List.length_cons]
    omega
theorem B.op_len (t : B) : t.op.length = t.size + 1 := by
  induction t with
  | nil => rfl
  | node l x r h1 h2 =>
    show (l.op.map (108 :: ·) ++ r.op.map (114 :: ·)).length = l.size + 1 + r.size + 1
    rw [List.length_append, List.length_map, List.length_map, h1, h2]
    omega
def spSpots (K : PySem.W.Frag) : Sp := fun vs H Q _ => ∃ (p : Addr) (us : List V) (es : List En), vs = [.ref p] ∧ H p = some (.tup us) ∧ EnAt H us es ∧ GoodN 12 es ∧ 1 ≤ es.length ∧ es.length ≤ 20 ∧
  ∀ (sp : Addr) (ss : List V) (ds : List B) (H' : Hp), Same H H' → H sp = none → H' sp = some (.lst ss) → SpAt H' ss ds → ds.length ≤ 300 → ds[ds.length - 1]? = (fulls es)[es.length - 1]? → Q (.ref sp) H'
section
variable {P : Program} {w : World} {K : PySem.W.Frag} {mg : Str → Option Value} {base : Heap} {f : Addr} {fd : FuncData}
theorem ok_spots (F : Fun K "spots_of" "spots_of" s_spots_of f fd) (Dadd_spots : Df P w K mg base 30 "add_spots" ["spots", "tree", "path", "hung"] (spAdd 30)) : FnOk P w K mg base CX0 31 f fd ["nest"] (spSpots K) := by
  refine F.ok sc_spots_of (fun vs H Q E h => ?_) (fun cdv A outer s H vs Q E hr h => ?_)
  · obtain ⟨p, us, es, rfl, _⟩ := h
    rfl
  obtain ⟨p, us, es, rfl, ep, en, gn, e1, e20, q⟩ := h
  refine ⟨_, (pss_cons (ps_set (i := 1) sc_spots_of.nd rfl (.inl rfl) (pe_lst (pa_cons (pe_tup (pa_cons pe_int (pa_cons pe_str (pa_cons pe_int pa_nil)))) pa_nil)))
    (pss_cons (ps_set (i := 2) sc_spots_of.nd rfl (.inr rfl) (pe_lst pa_nil))
    (pss_cons (ps_for PassesOwn.never rfl (pi_tup (pv 0)) (pg_tup rfl (pgs_cons (pg_name (i := 3) sc_spots_of.nd rfl (.inl rfl)) (pgs_cons (pg_name (i := 4) sc_spots_of.nd rfl (.inl rfl)) pgs_nil)))
      (pss_cons (ps_setDc (i := 7) (own := [("path", 5), ("index", 6)]) (g := gTup K 2 (gCons (gName 5) (gCons (gName 6) gNil))) (tt := tYes) (by rfl) sc_spots_of.nd rfl rfl (sw_dict rfl rfl rfl (by decide +kernel)) (pi_tup (pv 4)) (blkOk_by (N := ["nest", "spots", "roots", "tree", "links", "path", "index", "hung"]) (sc := defScope s_spots_of) (by decide +kernel)) (fun _ _ _ _ _ => (pg_tup rfl (pgs_cons (pg_name (i := 5) sc_spots_of.nd rfl (.inl rfl)) (pgs_cons (pg_name (i := 6) sc_spots_of.nd rfl (.inl rfl)) pgs_nil)))) (fun _ _ _ _ _ => pts_nil) (fun _ _ _ _ _ => (pv 5)) (fun _ _ _ _ _ => (pe_ix (show IxR _ (rIxL K) from ix_list) (pv 2) (pv 6) (fun _ _ => rfl))))
    (pss_one (ps_expr (pe_bm PySem.F.plainAttrs_list PySem.F.slot_list_append PySem.F.type_list_append mt_append (pv 2) (pa_cons (pe_call Dadd_spots.ok (hr.mono (by omega)) rfl Dadd_spots.g Dadd_spots.kp Dadd_spots.b .nil pass0 (pa_cons (pv 1) (pa_cons (pv 3) (pa_cons pe_str (pa_cons (pv 7) pa_nil))))) pa_nil))))))
    (pss_one (ps_ret (pv 1)))))), ?_⟩
  refine ⟨(by show 3 ≤ sizeLine; decide), fun p0 np0 => ?_⟩
  have k0 := same_new np0 (.tup [.int 0, .str "", .int 0])
  have e0 := upd_same (H := H) (a := p0) (o := .tup [.int 0, .str "", .int 0])
  generalize upd H p0 (.tup [.int 0, .str "", .int 0]) = H0 at k0 e0 ⊢
  refine ⟨(by show 1 ≤ sizeLine; decide), fun sp nsp => ?_⟩
  have k1 := same_new nsp (.lst [.ref p0])
  have es1 := upd_same (H := H0) (a := sp) (o := .lst [.ref p0])
  have e01 := k1 _ _ e0
  have nspH : H sp = none := by
    cases z : H sp with
    | none => rfl
    | some o => rw [k0 _ _ z] at nsp; cases nsp
  generalize upd H0 sp (.lst [.ref p0]) = H1 at k1 es1 e01 ⊢
  refine ⟨(by show 0 ≤ sizeLine; decide), fun rp nrp => ?_⟩
  have k2 := same_new nrp (.lst [])
  have er2 := upd_same (H := H1) (a := rp) (o := .lst [])
  have es2 := k2 _ _ es1
  have e02 := k2 _ _ e01
  have nsr : sp ≠ rp := ne_of_none es1 nrp
  have s2 := (k0.trans k1).trans k2
  have nrpH : H rp = none := by
    cases z : H rp with
    | none => rfl
    | some o => rw [(k0.trans k1) _ _ z] at nrp; cases nrp
  generalize upd H1 rp (.lst []) = H2 at k2 er2 es2 e02 s2 ⊢
  have sa2 : SpAt H2 [.ref p0] [.nil] := ⟨rfl, rfl, ⟨p0, rfl, e02⟩, fun k k0 k1 => absurd k1 (by show ¬ k < 1; omega)⟩
  have el := en.len
  refine ⟨_, rfl, p, rfl, ⟨_, SqT.of (s2 _ _ ep)⟩, ?_⟩
  refine for_tup (K := K) (a := p) (xs := us) (fun k σ H' => ∃ (ss : List V) (ds : List B) (rs : List Nat) (o3 o4 o5 o6 o7 : Option V), σ = [some (.ref p), some (.ref sp), some (.ref rp), o3, o4, o5, o6, o7] ∧ Same H H' ∧ H' sp = some (.lst ss) ∧ H' rp = some (.lst (rs.map fun n : Nat => V.int (n : Int))) ∧ SpAt H' ss ds ∧ rs.length = k ∧
    (∀ (i r : Nat), rs[i]? = some r → ds[r]? = (fulls (es.take k))[i]?) ∧ ds.length ≤ 1 + 12 * k ∧ (0 < k → ds[ds.length - 1]? = (fulls (es.take k))[k - 1]?))
    ⟨[.ref p0], [.nil], [], _, _, _, _, _, rfl, s2, es2, er2, sa2, rfl, (fun i r h => by cases h), Nat.le_refl _, (fun z => absurd z (by decide))⟩ (fun k σ H' _ hp => by obtain ⟨_, _, _, _, _, _, _, _, _, h, _⟩ := hp; exact SqT.of (h _ _ ep)) (fun k x σ H3 hx hp => ?_) (fun σ H3 hp => ?_)
  · obtain ⟨ss, ds, rs, o3, o4, o5, o6, o7, rfl, s3, es3, er3, sa3, rl, rg, dl, _⟩ := hp
    obtain ⟨a, la, tv, ls', t, ls, rfl, ee, ea, at0, ela, lk⟩ := en.get hx
    have hk := (List.getElem?_eq_some_iff.mp ee).1
    have ge := gn k _ ee
    have ll := lk.len
    have F12 := ge.s2
    refine ⟨a, _, rfl, SqT.of (s3 _ _ ea), rfl, _, _, rfl, _, _, rfl, rfl, ?_⟩
    have oplen := t.op_len
    have lsl : ls.length ≤ 13 := by
      have h1 : (ls.map (·.1)).length ≤ t.op.length := nodup_le ge.nd fun p hp => by
        obtain ⟨l, hl, rfl⟩ := List.mem_map.mp hp
        exact ge.op l hl
      rw [List.length_map] at h1
      have : t.size ≤ 12 := F12
      omega
    refine ⟨_, rfl, la, rfl, ⟨_, SqT.of (s3 _ _ ela)⟩, fun D nD => ?_⟩
    have kD := same_new nD (.dK [])
    refine dc_tup (K := K) (a := la) (xs := ls') (fun j H' => Same H3 H' ∧ ∃ kvs : List (Key × V), H' D = some (.dK kvs) ∧ kvs.length ≤ j ∧ ∀ p, valV kvs (.inr (tx p)) = tells rs (ls.take j) p) ⟨kD, [], upd_same, Nat.le_refl 0, fun p => rfl⟩ (fun j H' _ hp => SqT.of (hp.1 _ _ (s3 _ _ ela))) (fun j x H4 hx4 hp => ?_) (fun H4 hp => ?_)
    · obtain ⟨s4, kvs, ed, kl, kt⟩ := hp
      obtain ⟨b, pq, n, rfl, el4, eb⟩ := lk.get hx4
      have hj := (List.getElem?_eq_some_iff.mp el4).1
      have hn : n < rs.length := by rw [rl]; exact ge.ix (pq, n) (List.mem_of_getElem? el4)
      refine ⟨b, _, rfl, SqT.of (s4 _ _ (s3 _ _ eb)), rfl, _, _, rfl, _, _, rfl, rfl, rfl, kept ?_⟩
      refine ⟨_, rfl, _, rfl, _, rfl, rp, _, _, _, rfl, rfl, SqL.of (s4 _ _ er3), atI_nat (by rw [List.getElem?_map, List.getElem?_eq_getElem hn]; rfl), kvs, .inr (tx pq), rfl, ed, by show _ < 16777216; omega, fun b o e => ?_, _, upd_same, ?_, fun p => ?_⟩
      · rw [upd_ne (ne_of_none e nD)]; exact s4 _ _ e
      · unfold putK
        split
        · rw [List.length_map]; omega
        · rw [List.length_append]; show _ + 1 ≤ _; omega
      · rw [valV_put, tells_next ge.nd el4, kt]
        by_cases hp : p = pq
        · subst hp
          rw [if_pos rfl, if_pos rfl, List.getD_eq_getElem?_getD, List.getElem?_eq_getElem hn]
          rfl
        · rw [if_neg hp, if_neg (fun z => hp (tx_inj (Sum.inr.inj z)))]
    · obtain ⟨s4, kvs, ed, kl, kt⟩ := hp
      rw [ll, List.take_of_length_le (Nat.le_refl _)] at kt
      have fl : (fulls (es.take k)).length = k := by rw [fulls_len, List.length_take]; omega
      have hg : HgAt H4 D ds (hungL (fulls (es.take k)) ls) := ⟨kvs, ed, fun p => by
        rw [kt]
        unfold tells hungL
        cases hf : ls.find? (fun l => decide (l.1 = p)) with
        | none => exact ⟨0, rfl, sa3.pos⟩
        | some l =>
          have hl : l.2 < rs.length := by rw [rl]; exact ge.ix l (List.mem_of_find?_eq_some hf)
          refine ⟨rs.getD l.2 0, rfl, ?_⟩
          rw [List.getD_eq_getElem?_getD, List.getElem?_eq_getElem hl]
          show ds[rs[l.2]]? = some ((fulls (es.take k)).getD l.2 .nil)
          rw [rg l.2 rs[l.2] (List.getElem?_eq_getElem hl), List.getD_eq_getElem?_getD, List.getElem?_eq_getElem (by omega)]
          rfl⟩
      have t12 : t.size ≤ 12 := F12
      have tne : t ≠ .nil := fun z => by
        have : 1 ≤ t.size := ge.s1
        rw [z] at this
        exact absurd this (by decide)
      refine ⟨_, rfl, .inl ⟨rfl, _, SqL.of (s4 _ _ er3)⟩, _, rfl, _, rfl, _, rfl, ?_⟩
      refine ⟨sp, D, tv, t, [], ss, ds, hungL (fulls (es.take k)) ls, by rw [str_0]; rfl, (at0.same s3).same s4, by omega, by show t.size + 0 ≤ 500; omega, s4 _ _ es3, sa3.keep (Tw.Same.keepT s4), hg, by omega, fun r ss5 ex H5 s5 es5 sa5 xl er5 lst => ?_⟩
      have er5' := s5 rp _ (Ne.symm nsr) (s4 _ _ er3)
      have hlst := lst tne
      have slen := sa5.len
      refine ⟨rp, _, _, rfl, rfl, er5', by rw [List.length_map]; show _ < 16777216; omega, ?_⟩
      have tk : es.take (k + 1) = es.take k ++ [(t, ls)] := take_next ee
      have fs : fulls (es.take (k + 1)) = fulls (es.take k) ++ [t.sub (hungL (fulls (es.take k)) ls)] := by rw [tk]; exact fulls_snoc _ _
      have ex5 : (ds ++ ex)[r]? = some (t.sub (hungL (fulls (es.take k)) ls)) := er5
      refine ⟨ss5, ds ++ ex, rs ++ [r], _, _, _, _, _, rfl, fun b o e => ?_, ?_, ?_, ?_, by rw [List.length_append, rl]; rfl, fun i r0 hi => ?_, by rw [List.length_append, xl]; omega, fun _ => ?_⟩
      · rw [upd_ne (ne_of_none e nrpH)]
        exact s5 b o (ne_of_none e nspH) (s4 _ _ (s3 _ _ e))
      · rw [upd_ne nsr]; exact es5
      · rw [upd_same, List.map_append]; rfl
      · exact sa5.keep fun b xs e => by rw [upd_ne (fun z => by rw [z, er5'] at e; cases e)]; exact e
      · rw [fs]
        by_cases hik : i < k
        · rw [List.getElem?_append_left (by omega)] at hi
          have e := rg i r0 hi
          have hr0 : r0 < ds.length := by
            rw [List.getElem?_eq_getElem (show i < (fulls (es.take k)).length by omega)] at e
            exact (List.getElem?_eq_some_iff.mp e).1
          rw [List.getElem?_append_left hr0, e, List.getElem?_append_left (by omega)]
        · rw [List.getElem?_append_right (by omega)] at hi
          have h0 : i - rs.length = 0 := by
            have := (List.getElem?_eq_some_iff.mp hi).1
            rw [List.length_cons, List.length_nil] at this
            omega
          rw [h0] at hi
          cases hi
          rw [ex5, List.getElem?_append_right (by omega), show i - (fulls (es.take k)).length = 0 by omega]
          rfl
      · rw [fs, show (ds ++ ex).length - 1 = r by omega, ex5, show k + 1 - 1 = k by omega, List.getElem?_append_right (by omega), show k - (fulls (es.take k)).length = 0 by omega]
        rfl
  · obtain ⟨ss, ds, rs, o3, o4, o5, o6, o7, rfl, s3, es3, er3, sa3, rl, rg, dl, last⟩ := hp
    refine ⟨_, rfl, q sp ss ds H3 s3 nspH es3 sa3 (by omega) ?_⟩
    have := last (by omega)
    rw [el, List.take_of_length_le (Nat.le_refl _)] at this
    exact this
end
/-! ### counts_in, nest_size, count_label, nest_depth -/
def B.cnt (zs : List Nat) : B → Nat
  | .nil => 0
  | .node l c r => l.cnt zs + r.cnt zs + if c ∈ zs then 1 else 0
abbrev vn (n : Nat) : V := .int (n : Int)
theorem at_last {xs : List V} {v : V} (h : xs[xs.length - 1]? = some v) : atI xs (-1) = some v := by
  have h0 := (List.getElem?_eq_some_iff.mp h).1
  have e : ixN xs.length (-1) = some (xs.length - 1) := by
    unfold ixN
    rw [if_neg (by decide), if_pos (by omega)]
    congr 1
    omega
  unfold atI
  rw [e]
  exact h
def spCounts : Sp := fun vs H Q _ => ∃ (sp : Addr) (ss : List V) (ds : List B) (zs : List Nat), vs = [.ref sp, vt zs] ∧ H sp = some (.lst ss) ∧ SpAt H ss ds ∧ ds.length ≤ 300 ∧
  ∀ (p : Addr) (H' : Hp), Same H H' → H' p = some (.lst (ds.map fun d => vn (d.cnt zs))) → Q (.ref p) H'
section
variable {P : Program} {w : World} {K : PySem.W.Frag} {mg : Str → Option Value} {base : Heap} {f : Addr} {fd : FuncData}
theorem ok_counts {k : Nat} (F : Fun K "counts_in" "counts_in" s_counts_in f fd) : FnOk P w K mg base CX0 (k + 1) f fd ["spots", "letters"] spCounts := by
  refine F.ok sc_counts_in (fun vs H Q E h => ?_) (fun cdv A outer s H vs Q E hr h => ?_)
  · obtain ⟨sp, ss, ds, zs, rfl, _⟩ := h
    rfl
  obtain ⟨sp, ss, ds, zs, rfl, es, sa, dl, q⟩ := h
  refine ⟨_, (pss_cons (ps_set (i := 2) sc_counts_in.nd rfl (.inl rfl) (pe_lst (pa_cons pe_int pa_nil)))
    (pss_cons (ps_for PassesOwn.never rfl (pi_list (pe_slice sl_list (pv 0) (po_some pe_int) po_none)) (pg_tup rfl (pgs_cons (pg_name (i := 3) sc_counts_in.nd rfl (.inl rfl)) (pgs_cons (pg_name (i := 4) sc_counts_in.nd rfl (.inl rfl)) (pgs_cons (pg_name (i := 5) sc_counts_in.nd rfl (.inl rfl)) pgs_nil))))
      (pss_one (ps_expr (pe_bm PySem.F.plainAttrs_list PySem.F.slot_list_append PySem.F.type_list_append mt_append (pv 2) (pa_cons (pe_op op_add (pe_op op_add (pe_ix ix_list (pv 2) (pv 3) (fun _ _ => rfl)) (pe_ix ix_list (pv 2) (pv 5) (fun _ _ => rfl))) (pe_ifExp (pt_cmpR op_in_sign (pv 4) (pv 1) (by rfl)) pe_int pe_int)) pa_nil)))))
    (pss_one (ps_ret (pv 2))))), ?_⟩
  refine ⟨(by show 1 ≤ sizeLine; decide), fun pc npc => ?_⟩
  have k1 := same_new npc (.lst [.int 0])
  have ec1 := upd_same (H := H) (a := pc) (o := .lst [.int 0])
  generalize upd H pc (.lst [.int 0]) = H1 at k1 ec1 ⊢
  refine ⟨_, rfl, 1, rfl, sp, ss, rfl, SqL.of (k1 _ _ es), fun pl npl => ?_⟩
  rw [show (1 : Int) = ((1 : Nat) : Int) from rfl, cut_from]
  have k2 := same_new npl (.lst (ss.drop 1))
  have el2 := upd_same (H := H1) (a := pl) (o := .lst (ss.drop 1))
  have ec2 := k2 _ _ ec1
  have s2 := k1.trans k2
  generalize upd H1 pl (.lst (ss.drop 1)) = H2 at k2 el2 ec2 s2 ⊢
  have len := sa.len
  have d0 : 0 < ds.length := (List.getElem?_eq_some_iff.mp sa.pos).1
  have npl' : pl ≠ pc := Ne.symm (ne_of_none ec1 npl)
  have nil0 : ds.take 1 = [.nil] := by
    have := sa.pos
    cases ds with
    | nil => cases this
    | cons d r => cases this; rfl
  refine ⟨pl, rfl, ⟨_, SqL.of el2⟩, ?_⟩
  refine for_list (K := K) (a := pl) (xs := ss.drop 1) (fun j σ H' => ∃ o3 o4 o5 : Option V, σ = [some (.ref sp), some (vt zs), some (.ref pc), o3, o4, o5] ∧ Same H H' ∧ H' pl = some (.lst (ss.drop 1)) ∧ H' pc = some (.lst ((ds.take (j + 1)).map fun d => vn (d.cnt zs))))
    ⟨_, _, _, rfl, s2, el2, by rw [nil0]; exact ec2⟩ (fun j σ H' _ hp => by obtain ⟨_, _, _, _, _, h, _⟩ := hp; exact SqL.of h) (fun j x σ H3 hx hp => ?_) (fun σ H3 hp => ?_)
  · obtain ⟨o3, o4, o5, rfl, s3, el3, ec3⟩ := hp
    rw [List.getElem?_drop] at hx
    have hj := (List.getElem?_eq_some_iff.mp hx).1
    obtain ⟨a, i, i', c, l, r, h1, h2, hi, hi', e1, e2, e3⟩ := sa.each (1 + j) (by omega) (by omega)
    rw [h1] at hx
    cases hx
    have get : ∀ (n : Nat) (d : B), n < 1 + j → ds[n]? = some d → ((ds.take (j + 1)).map fun d => vn (d.cnt zs))[n]? = some (vn (d.cnt zs)) := fun n d hn hd => by
      rw [List.getElem?_map, List.getElem?_take, if_pos (by omega), hd]
      rfl
    refine ⟨a, _, rfl, SqT.of (s3 _ _ h2), rfl, _, _, rfl, _, _, rfl, _, _, rfl, rfl, ?_⟩
    refine ⟨_, rfl, .inl ⟨rfl, _, SqL.of ec3⟩, _, rfl, _, rfl, pc, _, _, _, rfl, rfl, SqL.of ec3, atI_nat (get i l hi e1), _, rfl, _, rfl, pc, _, _, _, rfl, rfl, SqL.of ec3, atI_nat (get i' r hi' e2), _, _, rfl, rfl, ?_⟩
    have tk : ds.take (j + 1 + 1) = ds.take (j + 1) ++ [.node l c r] := take_next (show ds[j + 1]? = _ by rw [Nat.add_comm j 1]; exact e3)
    have fin : ∀ (b : Nat), b = (if c ∈ zs then 1 else 0) → ∃ o3 o4 o5 : Option V, [some (.ref sp), some (vt zs), some (.ref pc), some (vn i), some (.str (ch c)), some (vn i')] = [some (.ref sp), some (vt zs), some (.ref pc), o3, o4, o5] ∧ Same H (upd H3 pc (.lst ((ds.take (j + 1)).map (fun d => vn (d.cnt zs)) ++ [.int ((l.cnt zs : Int) + (r.cnt zs : Int) + (b : Int))]))) ∧
        upd H3 pc (.lst ((ds.take (j + 1)).map (fun d => vn (d.cnt zs)) ++ [.int ((l.cnt zs : Int) + (r.cnt zs : Int) + (b : Int))])) pl = some (.lst (ss.drop 1)) ∧
        upd H3 pc (.lst ((ds.take (j + 1)).map (fun d => vn (d.cnt zs)) ++ [.int ((l.cnt zs : Int) + (r.cnt zs : Int) + (b : Int))])) pc = some (.lst ((ds.take (j + 1 + 1)).map fun d => vn (d.cnt zs))) := fun b hb => by
      refine ⟨_, _, _, rfl, fun b o e => ?_, ?_, ?_⟩
      · rw [upd_ne (ne_of_none e npc)]; exact s3 _ _ e
      · rw [upd_ne npl']; exact el3
      · rw [upd_same, tk, List.map_append]
        show _ = some (HO.lst (_ ++ [V.int ((l.cnt zs + r.cnt zs + (if c ∈ zs then 1 else 0) : Nat) : Int)]))
        rw [← hb, Int.natCast_add, Int.natCast_add]
    refine ⟨_, rfl, _, rfl, c, _, rfl, rfl, _, rfl, ?_⟩
    have sl : ((ds.take (j + 1)).map fun d => vn (d.cnt zs)).length < sizeLine := by
      rw [List.length_map, List.length_take]; show _ < 16777216; omega
    by_cases hc : c ∈ zs
    · rw [decide_eq_true (show c ∈ (tx zs).cps.toList from hc)]
      exact iteT ⟨_, _, rfl, rfl, pc, _, _, rfl, rfl, ec3, sl, fin 1 (if_pos hc).symm⟩
    · rw [decide_eq_false (show ¬ c ∈ (tx zs).cps.toList from hc)]
      exact iteF ⟨_, _, rfl, rfl, pc, _, _, rfl, rfl, ec3, sl, fin 0 (if_neg hc).symm⟩
  · obtain ⟨o3, o4, o5, rfl, s3, el3, ec3⟩ := hp
    refine ⟨_, rfl, q pc H3 s3 ?_⟩
    rw [ec3, List.length_drop, List.take_of_length_le (by omega)]
end
/-! ### sums and depths of what hangs -/
theorem perm_sum {l m : List Nat} (p : l.Perm m) : l.sum = m.sum := by
  induction p with
  | nil => rfl
  | cons x _ ih => rw [List.sum_cons, List.sum_cons, ih]
  | swap x y l => simp only [List.sum_cons]; omega
  | trans _ _ h1 h2 => exact h1.trans h2
theorem cnt_sub (zs : List Nat) (t : B) : ∀ h : List Nat → B, (t.sub h).cnt zs = t.cnt zs + (t.op.map fun w => (h w).cnt zs).sum := by
  induction t with
  | nil =>
    intro h
    show (h []).cnt zs = 0 + ((h []).cnt zs + 0)
    omega
  | node l x r h1 h2 =>
    intro h
    show (l.sub _).cnt zs + (r.sub _).cnt zs + (if x ∈ zs then 1 else 0) = l.cnt zs + r.cnt zs + (if x ∈ zs then 1 else 0) + ((l.op.map (108 :: ·) ++ r.op.map (114 :: ·)).map fun w => (h w).cnt zs).sum
    rw [h1, h2, List.map_append, List.sum_append, List.map_map, List.map_map]
    show _ = _ + ((l.op.map fun w => (h (108 :: w)).cnt zs).sum + (r.op.map fun w => (h (114 :: w)).cnt zs).sum)
    omega
theorem hung_cons {F : List B} {l : Lk} {ls : List Lk} {w : List Nat} : hungL F (l :: ls) w = if l.1 = w then F.getD l.2 .nil else hungL F ls w := by
  unfold hungL
  rw [List.find?_cons]
  by_cases h : l.1 = w
  · rw [if_pos h, decide_eq_true h]
  · rw [if_neg h, decide_eq_false h]
theorem sum_zero : ∀ (O : List (List Nat)), (O.map fun _ => 0).sum = 0
  | [] => rfl
  | _ :: O => by rw [List.map_cons, List.sum_cons, sum_zero O]
theorem sum_links (g : B → Nat) (hg : g .nil = 0) (F : List B) : ∀ (ls : List Lk) (O : List (List Nat)), O.Nodup → (ls.map (·.1)).Nodup → (∀ l ∈ ls, l.1 ∈ O) → (O.map fun w => g (hungL F ls w)).sum = (ls.map fun l => g (F.getD l.2 .nil)).sum
  | [], O, _, _, _ => by
    have : (O.map fun w => g (hungL F [] w)) = O.map fun _ => 0 := List.map_congr_left fun w _ => hg
    rw [this, sum_zero]
    rfl
  | l :: ls, O, nO, nl, sub => by
    rw [List.map_cons, List.nodup_cons] at nl
    have hx := sub l List.mem_cons_self
    have p := List.perm_cons_erase hx
    rw [perm_sum (p.map _), List.map_cons, List.sum_cons, List.map_cons, List.sum_cons, hung_cons, if_pos rfl]
    have e : ((O.erase l.1).map fun w => g (hungL F (l :: ls) w)) = (O.erase l.1).map fun w => g (hungL F ls w) := List.map_congr_left fun w hw => by
      have : l.1 ≠ w := fun z => by
        have h := (nO.mem_erase_iff).mp hw
        exact h.1 z.symm
      rw [hung_cons, if_neg this]
    rw [e, sum_links g hg F ls (O.erase l.1) (nO.erase _) nl.2 fun k hk => ?_]
    refine (nO.mem_erase_iff).mpr ⟨fun z => nl.1 ?_, sub k (List.mem_cons_of_mem _ hk)⟩
    rw [← z]
    exact List.mem_map.mpr ⟨k, hk, rfl⟩
theorem cnt_full (zs : List Nat) {F : List B} {t : B} {ls : List Lk} (nd : (ls.map (·.1)).Nodup) (op : ∀ l ∈ ls, l.1 ∈ t.op) : (t.sub (hungL F ls)).cnt zs = t.cnt zs + (ls.map fun l => (F.getD l.2 .nil).cnt zs).sum := by
  rw [cnt_sub]
  rw [sum_links (fun b => b.cnt zs) rfl F ls t.op t.op_nodup nd op]
/-- m is the greatest of what hangs under t -/
theorem deep_sub (t : B) : ∀ (h : List Nat → B), (∀ w ∈ t.op, w.length + (h w).deep ≤ (t.sub h).deep) ∧ ∃ w ∈ t.op, w.length + (h w).deep = (t.sub h).deep := by
  induction t with
  | nil =>
    intro h
    have e : ([] : List Nat).length + (h []).deep = (B.nil.sub h).deep := Nat.zero_add _
    exact ⟨fun w hw => by rw [List.mem_singleton.mp hw]; exact Nat.le_of_eq e, [], List.mem_singleton.mpr rfl, e⟩
  | node l x r h1 h2 =>
    intro h
    obtain ⟨a1, w1, m1, b1⟩ := h1 fun w => h (108 :: w)
    obtain ⟨a2, w2, m2, b2⟩ := h2 fun w => h (114 :: w)
    have ed : ((B.node l x r).sub h).deep = 1 + max (l.sub fun w => h (108 :: w)).deep (r.sub fun w => h (114 :: w)).deep := rfl
    refine ⟨fun w hw => ?_, ?_⟩
    · rcases List.mem_append.mp (show w ∈ l.op.map (108 :: ·) ++ r.op.map (114 :: ·) from hw) with hw | hw
      · obtain ⟨v, hv, rfl⟩ := List.mem_map.mp hw
        have := a1 v hv
        rw [ed, List.length_cons]
        omega
      · obtain ⟨v, hv, rfl⟩ := List.mem_map.mp hw
        have := a2 v hv
        rw [ed, List.length_cons]
        omega
    · rw [ed]
      by_cases c : (r.sub fun w => h (114 :: w)).deep ≤ (l.sub fun w => h (108 :: w)).deep
      · exact ⟨108 :: w1, List.mem_append_left _ (List.mem_map.mpr ⟨w1, m1, rfl⟩), by rw [List.length_cons]; omega⟩
      · exact ⟨114 :: w2, List.mem_append_right _ (List.mem_map.mpr ⟨w2, m2, rfl⟩), by rw [List.length_cons]; omega⟩
theorem sub_nil (t : B) : (t.sub fun _ => .nil) = t := by
  induction t with
  | nil => rfl
  | node l x r h1 h2 =>
    show B.node (l.sub _) x (r.sub _) = _
    rw [h1, h2]
theorem op_deep {t : B} {w : List Nat} (h : w ∈ t.op) : w.length ≤ t.deep := by
  have := (deep_sub t fun _ => .nil).1 w h
  rw [sub_nil] at this
  exact this
theorem hung_some {F : List B} {ls : List Lk} {w : List Nat} (h : hungL F ls w ≠ .nil) : ∃ l ∈ ls, l.1 = w ∧ hungL F ls w = F.getD l.2 .nil := by
  unfold hungL at h ⊢
  cases hf : ls.find? (fun l => decide (l.1 = w)) with
  | none => rw [hf] at h; exact absurd rfl h
  | some l => exact ⟨l, List.mem_of_find?_eq_some hf, by simpa using List.find?_some hf, rfl⟩
theorem hung_at {F : List B} : ∀ {ls : List Lk} {l : Lk}, (ls.map (·.1)).Nodup → l ∈ ls → hungL F ls l.1 = F.getD l.2 .nil
  | k :: ls, l, nd, h => by
    rw [List.map_cons, List.nodup_cons] at nd
    rw [hung_cons]
    rcases List.mem_cons.mp h with rfl | h
    · rw [if_pos rfl]
    · rw [if_neg (fun z : k.1 = l.1 => nd.1 (by rw [z]; exact List.mem_map.mpr ⟨l, h, rfl⟩))]
      exact hung_at nd.2 h
theorem deep_full {F : List B} {t : B} {ls : List Lk} (nd : (ls.map (·.1)).Nodup) (op : ∀ l ∈ ls, l.1 ∈ t.op) {m : Nat} (h1 : t.deep ≤ m) (h2 : ∀ l ∈ ls, l.1.length + (F.getD l.2 .nil).deep ≤ m) (h3 : m = t.deep ∨ ∃ l ∈ ls, m = l.1.length + (F.getD l.2 .nil).deep) :
    (t.sub (hungL F ls)).deep = m := by
  obtain ⟨a, w, hw, b⟩ := deep_sub t (hungL F ls)
  apply Nat.le_antisymm
  · rw [← b]
    by_cases c : hungL F ls w = .nil
    · rw [c]
      exact Nat.le_trans (op_deep hw) h1
    · obtain ⟨l, hl, rfl, e⟩ := hung_some c
      rw [e]
      exact h2 l hl
  · rcases h3 with rfl | ⟨l, hl, rfl⟩
    · obtain ⟨_, v, hv, e⟩ := deep_sub t fun _ => .nil
      rw [sub_nil] at e
      have := a v hv
      have e' : v.length + 0 = t.deep := e
      omega
    · have := a l.1 (op l hl)
      rw [hung_at nd hl] at this
      exact this
/-! ### _law_grown, _law_written -/
theorem fulls_pre (es r : List En) : ∃ ex, fulls (es ++ r) = fulls es ++ ex := by
  have go : ∀ (r : List En) (F : List B), ∃ ex, r.foldl (fun F e => F ++ [e.1.sub (hungL F e.2)]) F = F ++ ex := by
    intro r
    induction r with
    | nil => intro F; exact ⟨[], by rw [List.append_nil]; rfl⟩
    | cons e r ih =>
      intro F
      obtain ⟨ex, h⟩ := ih (F ++ [e.1.sub (hungL F e.2)])
      exact ⟨[e.1.sub (hungL F e.2)] ++ ex, by rw [List.foldl_cons, h, List.append_assoc]⟩
  unfold fulls
  rw [List.foldl_append]
  exact go r _
theorem hung_pre {F ex : List B} {ls : List Lk} (h : ∀ l ∈ ls, l.2 < F.length) (w : List Nat) : hungL (F ++ ex) ls w = hungL F ls w := by
  unfold hungL
  cases hf : ls.find? (fun l => decide (l.1 = w)) with
  | none => rfl
  | some l =>
    show (F ++ ex).getD l.2 .nil = F.getD l.2 .nil
    rw [List.getD_eq_getElem?_getD, List.getD_eq_getElem?_getD, List.getElem?_append_left (h l (List.mem_of_find?_eq_some hf))]
theorem full_get {lim : Nat} {es : List En} (g : GoodN lim es) {k : Nat} {t : B} {ls : List Lk} (h : es[k]? = some (t, ls)) : (fulls es)[k]? = some (t.sub (hungL (fulls es) ls)) := by
  have hk := (List.getElem?_eq_some_iff.mp h).1
  have tk : es.take (k + 1) = es.take k ++ [(t, ls)] := take_next h
  obtain ⟨ex, e⟩ := fulls_pre (es.take (k + 1)) (es.drop (k + 1))
  rw [List.take_append_drop] at e
  obtain ⟨ex2, e2⟩ := fulls_pre (es.take k) (es.drop k)
  rw [List.take_append_drop] at e2
  have fl : (fulls (es.take k)).length = k := by rw [fulls_len, List.length_take]; omega
  have eh : hungL (fulls es) ls = hungL (fulls (es.take k)) ls := funext fun w => by
    rw [e2, hung_pre fun l hl => by rw [fl]; exact (g k _ h).ix l hl]
  rw [eh, e, tk, fulls_snoc, List.append_assoc, List.getElem?_append_right (by omega), show k - (fulls (es.take k)).length = 0 by omega]
  rfl
def spGrown (N : Nat) : Sp := fun vs H Q _ => ∃ (p : Addr) (us : List V) (es : List En) (k : Nat) (v : V) (t T : B) (ls : List Lk) (q : List Nat), vs = [.ref p, .int (k : Int), v, vt q] ∧ H p = some (.tup us) ∧ EnAt H us es ∧ GoodN 12 es ∧ es[k]? = some (T, ls) ∧ BAt H v t ∧ (t.sub fun w => hungL (fulls es) ls (q ++ w)).deep + k < N ∧ t.size + q.length ≤ 100 ∧
  ∀ (v' : V) (H' : Hp), Same H H' → BAt H' v' (t.sub fun w => hungL (fulls es) ls (q ++ w)) → Q v' H'
/-! ### _law_sizes -/
theorem size_sub (t : B) : ∀ h : List Nat → B, (t.sub h).size = t.size + (t.op.map fun w => (h w).size).sum := by
  induction t with
  | nil =>
    intro h
    show (h []).size = 0 + ((h []).size + 0)
    omega
  | node l x r h1 h2 =>
    intro h
    show (l.sub _).size + 1 + (r.sub _).size = l.size + 1 + r.size + ((l.op.map (108 :: ·) ++ r.op.map (114 :: ·)).map fun w => (h w).size).sum
    rw [h1, h2, List.map_append, List.sum_append, List.map_map, List.map_map]
    show _ = _ + ((l.op.map fun w => (h (108 :: w)).size).sum + (r.op.map fun w => (h (114 :: w)).size).sum)
    omega
theorem size_full {F : List B} {t : B} {ls : List Lk} (nd : (ls.map (·.1)).Nodup) (op : ∀ l ∈ ls, l.1 ∈ t.op) : (t.sub (hungL F ls)).size = t.size + (ls.map fun l => (F.getD l.2 .nil).size).sum := by
  rw [size_sub]
  rw [sum_links (fun b => b.size) rfl F ls t.op t.op_nodup nd op]
theorem cast_sum : ∀ l : List Nat, (l.map fun n : Nat => (n : Int)).sum = ((l.sum : Nat) : Int)
  | [] => rfl
  | x :: l => by rw [List.map_cons, List.sum_cons, List.sum_cons, cast_sum l]; omega
theorem links_len {lim k : Nat} {t : B} {ls : List Lk} (g : GoodE lim k (t, ls)) (h : lim ≤ 12) : ls.length ≤ 13 := by
  have h1 : (ls.map (·.1)).length ≤ t.op.length := nodup_le g.nd fun p hp => by
    obtain ⟨l, hl, rfl⟩ := List.mem_map.mp hp
    exact g.op l hl
  rw [List.length_map, t.op_len] at h1
  have : t.size ≤ lim := g.s2
  omega
def spSizes : Sp := fun vs H Q _ => ∃ (p : Addr) (us : List V) (es : List En), vs = [.ref p] ∧ H p = some (.tup us) ∧ EnAt H us es ∧ GoodN 12 es ∧ es.length ≤ 20 ∧
  ∀ (a : Addr) (H' : Hp), Same H H' → H' a = some (.lst ((fulls es).map fun X => vn X.size)) → Q (.ref a) H'
section
variable {P : Program} {w : World} {K : PySem.W.Frag} {mg : Str → Option Value} {base : Heap} {f : Addr} {fd : FuncData}
theorem ok_sizes (F : Fun K "_law_sizes" "_law_sizes" s__law_sizes f fd) (M : Mgs mg) (msum : mg "sum" = none) (D_law_nodes : Df P w K mg base 40 "_law_nodes" ["_law_tree_here", "_law_path"] (spNodes 40)) : FnOk P w K mg base CX0 41 f fd ["_law_nest_here"] spSizes := by
  refine F.ok sc__law_sizes (fun vs H Q E h => ?_) (fun cdv A outer s H vs Q E hr h => ?_)
  · obtain ⟨p, us, es, rfl, _⟩ := h
    rfl
  obtain ⟨p, us, es, rfl, ep, en, gn, e20, q⟩ := h
  refine ⟨_, (pss_cons (ps_set (i := 1) sc__law_sizes.nd rfl (.inr rfl) (pe_lst pa_nil))
    (pss_cons (ps_for PassesOwn.never rfl (pi_tup (pv 0)) (pg_tup rfl (pgs_cons (pg_name (i := 2) sc__law_sizes.nd rfl (.inl rfl)) (pgs_cons (pg_name (i := 3) sc__law_sizes.nd rfl (.inl rfl)) pgs_nil)))
      (pss_one (ps_expr (pe_bm PySem.F.plainAttrs_list PySem.F.slot_list_append PySem.F.type_list_append mt_append (pv 1) (pa_cons (pe_op op_add (pe_callB call_len_seq rfl M.len PySem.boot_len (pa_cons (pe_call D_law_nodes.ok (hr.mono (by omega)) rfl D_law_nodes.g D_law_nodes.kp D_law_nodes.b .nil pass0 (pa_cons (pv 2) (pa_cons pe_str pa_nil))) pa_nil)) (pe_callB (cr_sum rfl) rfl msum (by decide +kernel) (pa_cons (pe_lc (own := [("_law_path", 4), ("_law_index", 5)]) (g := gTup K 2 (gCons (gName 4) (gCons (gName 5) gNil))) (tt := tYes) rfl sc__law_sizes.nd (pi_tup (pv 3)) (blkOk_by (N := ["_law_nest_here", "_law_found", "_law_tree_here", "_law_links", "_law_path", "_law_index"]) (sc := defScope s__law_sizes) (by decide +kernel)) (fun _ _ _ _ _ => (pg_tup rfl (pgs_cons (pg_name (i := 4) sc__law_sizes.nd rfl (.inl rfl)) (pgs_cons (pg_name (i := 5) sc__law_sizes.nd rfl (.inl rfl)) pgs_nil)))) (fun _ _ _ _ _ => pts_nil) (fun _ _ _ _ _ => (pe_ix (show IxR _ (rIxL K) from ix_list) (pv 1) (pv 5) (fun _ _ => rfl)))) pa_nil))) pa_nil)))))
    (pss_one (ps_ret (pv 1))))), ?_⟩
  refine ⟨(by show 0 ≤ sizeLine; decide), fun pf npf => ?_⟩
  have k1 := same_new npf (.lst [])
  have ef := upd_same (H := H) (a := pf) (o := .lst [])
  generalize upd H pf (.lst []) = H1 at k1 ef ⊢
  have el := en.len
  refine ⟨_, rfl, p, rfl, ⟨_, SqT.of (k1 _ _ ep)⟩, ?_⟩
  refine for_tup (K := K) (a := p) (xs := us) (fun k σ H' => ∃ o2 o3 o4 o5 : Option V, σ = [some (.ref p), some (.ref pf), o2, o3, o4, o5] ∧ Same H H' ∧ H' pf = some (.lst ((fulls (es.take k)).map fun X => vn X.size))) ⟨_, _, _, _, rfl, k1, ef⟩ (fun k σ H' _ hp => by obtain ⟨_, _, _, _, _, h, _⟩ := hp; exact SqT.of (h _ _ ep)) (fun k x σ H3 hx hp => ?_) (fun σ H3 hp => ?_)
  · obtain ⟨o2, o3, o4, o5, rfl, s3, ef3⟩ := hp
    obtain ⟨a, la, tv, ls', t, ls, rfl, ee, ea, at0, ela, lk⟩ := en.get hx
    have hk := (List.getElem?_eq_some_iff.mp ee).1
    have ge := gn k _ ee
    have ll := lk.len
    have lsl := links_len ge (Nat.le_refl _)
    have t12 : t.size ≤ 12 := ge.s2
    have fl : (fulls (es.take k)).length = k := by rw [fulls_len, List.length_take]; omega
    refine ⟨a, _, rfl, SqT.of (s3 _ _ ea), rfl, _, _, rfl, _, _, rfl, rfl, ?_⟩
    refine ⟨_, rfl, .inl ⟨rfl, _, SqL.of ef3⟩, _, rfl, tv, t, [], by rw [str_0]; rfl, at0.same s3, by omega, by show t.size + 0 ≤ 500; omega, fun pn un H4 s4 en4 st4 => ?_⟩
    have ul := st4.len
    rw [B.steps_len] at ul
    refine ⟨pn, un, rfl, .inl (SqL.of en4), _, rfl, la, rfl, ⟨_, SqT.of (s4 _ _ (s3 _ _ ela))⟩, fun D nD => ?_⟩
    have kD := same_new nD (.lst [])
    have ef4 := s4 _ _ ef3
    refine lc_tup (K := K) (a := la) (xs := ls') (fun j H' => Same H4 H' ∧ H' D = some (.lst ((ls.take j).map fun l => vn ((fulls (es.take k)).getD l.2 .nil).size))) ⟨kD, upd_same⟩ (fun j H' _ hp => SqT.of (hp.1 _ _ (s4 _ _ (s3 _ _ ela)))) (fun j x H5 hx5 hp => ?_) (fun H5 hp => ?_)
    · obtain ⟨s5, eD⟩ := hp
      obtain ⟨b, pq, n, rfl, el5, eb⟩ := lk.get hx5
      have hj := (List.getElem?_eq_some_iff.mp el5).1
      have hn : n < (fulls (es.take k)).length := by rw [fl]; exact ge.ix (pq, n) (List.mem_of_getElem? el5)
      refine ⟨b, _, rfl, SqT.of (s5 _ _ (s4 _ _ (s3 _ _ eb))), rfl, _, _, rfl, _, _, rfl, rfl, rfl, kept ?_⟩
      refine ⟨_, rfl, _, rfl, pf, _, _, _, rfl, rfl, SqL.of (s5 _ _ ef4), atI_nat (by rw [List.getElem?_map, List.getElem?_eq_getElem hn]; rfl), _, eD, ?_, fun b o e => ?_, ?_⟩
      · rw [List.length_map, List.length_take]; exact small1000 (by omega)
      · rw [upd_ne (ne_of_none e nD)]; exact s5 _ _ e
      · rw [upd_same, take_next el5, List.map_append]
        show _ = some (HO.lst (_ ++ [vn ((fulls (es.take k)).getD n .nil).size]))
        rw [List.getD_eq_getElem?_getD, List.getElem?_eq_getElem hn]
        rfl
    · obtain ⟨s5, eD⟩ := hp
      rw [ll, List.take_of_length_le (Nat.le_refl _)] at eD
      have eD' : H5 D = some (.lst (((ls.map fun l => ((fulls (es.take k)).getD l.2 .nil).size).map fun n : Nat => (n : Int)).map V.int)) := by
        rw [eD, List.map_map, List.map_map]; rfl
      refine ⟨D, _, rfl, SqL.of eD', ?_⟩
      rw [cast_sum]
      refine ⟨_, _, rfl, rfl, pf, _, _, rfl, rfl, s5 _ _ ef4, by rw [List.length_map, fl]; show _ < 16777216; omega, ?_⟩
      refine ⟨_, _, _, _, rfl, fun b o e => ?_, ?_⟩
      · rw [upd_ne (ne_of_none e npf)]; exact s5 _ _ (s4 _ _ (s3 _ _ e))
      · rw [upd_same, show es.take (k + 1) = es.take k ++ [(t, ls)] from take_next ee, fulls_snoc, List.map_append]
        refine congrArg (fun z : Int => some (HO.lst (((fulls (es.take k)).map fun X => vn X.size) ++ [V.int z]))) ?_
        show _ = (((t.sub (hungL (fulls (es.take k)) ls)).size : Nat) : Int)
        rw [size_full (t := t) (ls := ls) ge.nd ge.op, ul]
        omega
  · obtain ⟨o2, o3, o4, o5, rfl, s3, ef3⟩ := hp
    rw [el, List.take_of_length_le (Nat.le_refl _)] at ef3
    exact ⟨_, rfl, q pf H3 s3 ef3⟩
end
/-! ### what the nodes' list tells: the depth, the numbers of a letter -/
theorem steps_deep (t : B) : ∀ q : List Nat, (∀ s ∈ t.steps .first q, s.1.length + 1 ≤ q.length + t.deep) ∧ (t ≠ .nil → ∃ s ∈ t.steps .first q, s.1.length + 1 = q.length + t.deep) := by
  induction t with
  | nil => intro q; exact ⟨(fun s hs => by cases hs), fun h => absurd rfl h⟩
  | node l x r h1 h2 =>
    intro q
    obtain ⟨a1, b1⟩ := h1 (q ++ [108])
    obtain ⟨a2, b2⟩ := h2 (q ++ [114])
    have e1 : (q ++ [108]).length = q.length + 1 := by rw [List.length_append]; rfl
    have e2 : (q ++ [114]).length = q.length + 1 := by rw [List.length_append]; rfl
    have es : (B.node l x r).steps .first q = [(q, x)] ++ l.steps .first (q ++ [108]) ++ r.steps .first (q ++ [114]) := rfl
    have ed : (B.node l x r).deep = 1 + max l.deep r.deep := rfl
    refine ⟨fun s hs => ?_, fun _ => ?_⟩
    · rw [es, List.mem_append, List.mem_append] at hs
      rcases hs with (hs | hs) | hs
      · rw [List.mem_singleton.mp hs, ed]
        show q.length + 1 ≤ _
        omega
      · have := a1 s hs
        omega
      · have := a2 s hs
        omega
    · rw [es]
      by_cases c : r.deep ≤ l.deep
      · by_cases hl : l = .nil
        · have d0 : l.deep = 0 := by rw [hl]; rfl
          exact ⟨(q, x), List.mem_append_left _ (List.mem_append_left _ (List.mem_singleton.mpr rfl)), by show q.length + 1 = _; omega⟩
        · obtain ⟨s, hs, e⟩ := b1 hl
          exact ⟨s, List.mem_append_left _ (List.mem_append_right _ hs), by omega⟩
      · have hr : r ≠ .nil := fun z => by
          have d0 : r.deep = 0 := by rw [z]; rfl
          omega
        obtain ⟨s, hs, e⟩ := b2 hr
        exact ⟨s, List.mem_append_right _ hs, by omega⟩
theorem cnt_pre (c : Nat) (t : B) : (t.pre.filter fun d => decide (d = c)).length = t.cnt [c] := by
  induction t with
  | nil => rfl
  | node l x r h1 h2 =>
    show ((x :: (l.pre ++ r.pre)).filter fun d => decide (d = c)).length = l.cnt [c] + r.cnt [c] + if x ∈ [c] then 1 else 0
    rw [List.filter_cons, List.filter_append]
    by_cases h : x = c
    · rw [if_pos (decide_eq_true h), if_pos (List.mem_singleton.mpr h), List.length_cons, List.length_append, h1, h2]
    · rw [if_neg (by simpa using h), if_neg (fun z => h (List.mem_singleton.mp z)), List.length_append, h1, h2]
      rfl
theorem cnt_steps (c : Nat) (t : B) (q : List Nat) : ((t.steps .first q).filter fun s => decide (s.2 = c)).length = t.cnt [c] := by
  rw [← cnt_pre, show t.pre = (t.steps .first q).map (·.2) from (t.steps_wk .first q).symm, List.filter_map, List.length_map]
  rfl
theorem cnt_all {zs : List Nat} {t : B} (h : ∀ c ∈ t.pre, c ∈ zs) : t.cnt zs = t.size := by
  induction t with
  | nil => rfl
  | node l x r h1 h2 =>
    have a1 := h1 fun c hc => h c (List.mem_cons_of_mem _ (List.mem_append_left _ hc))
    have a2 := h2 fun c hc => h c (List.mem_cons_of_mem _ (List.mem_append_right _ hc))
    show l.cnt zs + r.cnt zs + (if x ∈ zs then 1 else 0) = l.size + 1 + r.size
    rw [if_pos (h x List.mem_cons_self), a1, a2]
    omega
/-- all labels that hang somewhere are letters -/
theorem pre_sub (P : Nat → Prop) (t : B) : ∀ h : List Nat → B, (∀ c ∈ t.pre, P c) → (∀ w, ∀ c ∈ (h w).pre, P c) → ∀ c ∈ (t.sub h).pre, P c := by
  induction t with
  | nil => intro h _ a; exact a []
  | node l x r h1 h2 =>
    intro h a b c hc
    have hc : c ∈ x :: ((l.sub fun w => h (108 :: w)).pre ++ (r.sub fun w => h (114 :: w)).pre) := hc
    rcases List.mem_cons.mp hc with rfl | hc
    · exact a c List.mem_cons_self
    · rcases List.mem_append.mp hc with hc | hc
      · exact h1 _ (fun d hd => a d (List.mem_cons_of_mem _ (List.mem_append_left _ hd))) (fun w => b _) c hc
      · exact h2 _ (fun d hd => a d (List.mem_cons_of_mem _ (List.mem_append_right _ hd))) (fun w => b _) c hc
theorem fulls_lt {lim : Nat} {es : List En} (g : GoodN lim es) : ∀ k, k ≤ es.length → ∀ X ∈ fulls (es.take k), ∀ c ∈ X.pre, 97 ≤ c ∧ c ≤ 122 := by
  intro k
  induction k with
  | zero => intro _ X hX; cases hX
  | succ k ih =>
    intro hk X hX
    have ee : es[k]? = some es[k] := List.getElem?_eq_getElem (by omega)
    rw [show es.take (k + 1) = es.take k ++ [es[k]] from take_next ee, fulls_snoc] at hX
    rcases List.mem_append.mp hX with hX | hX
    · exact ih (by omega) X hX
    · rw [List.mem_singleton.mp hX]
      refine pre_sub (fun c => 97 ≤ c ∧ c ≤ 122) _ _ (g k _ ee).lt fun w c hc => ?_
      by_cases z : hungL (fulls (es.take k)) es[k].2 w = .nil
      · rw [z] at hc; cases hc
      · obtain ⟨l, hl, _, e⟩ := hung_some z
        have fl : (fulls (es.take k)).length = k := by rw [fulls_len, List.length_take]; omega
        have hl2 : l.2 < (fulls (es.take k)).length := by rw [fl]; exact (g k _ ee).ix l hl
        rw [e, List.getD_eq_getElem?_getD, List.getElem?_eq_getElem hl2] at hc
        exact ih (by omega) _ (List.getElem_mem hl2) c hc
/-! ### a def entered at one caller -/
theorem enter_def {P : Program} {w : World} {K : PySem.W.Frag} {mg : Str → Option Value} {base : Heap} {f : Addr} {fd : FuncData} {N ps : List Str} {k : Nat} {x qual : Str} {st : Stmt} (F : Fun K x qual st f fd) (S : FnScope N ps (defScope st))
    {A : Around} {outer : List Env} {s : Shared} {H : Hp} {args : Args} {us : List Value} {vs : List V} {Q : VK} {E : XK}
    (room : Room (k + 1) A) (en : Env0 P w K mg base A outer s H) (bd : BindsTo s fd args (ps.zip us)) (rel : Vals vs us) (hln : vs.length = ps.length)
    (body : ∀ cdv : Value, Room k (A.deeper (envOfC qual (defScope st) s.heap.objs.size f cdv)) →
      ∃ t, PSs (cxOf CX0 P w K mg base N qual (defScope st) f cdv A outer s H E).nox (defBody st) t ∧ t { nx := fun _ H' => Q .non H', rt := Q } (start N vs) H) :
    codeAny (model P w) A (.call (.ref f) args) (CR CX0 outer P w H s Q E) s := by
  obtain ⟨oc, od, kV, doc, pm, an, cdv, ct, osl, rfl, look, code⟩ := F.ex
  have still : ∀ b o, base.get? b = some o → s.heap.get? b = some o := fun b o e => (en.bs b o e).1
  have inK : K.In s.heap := en.mod.kin.keeps still
  have noL : s.heap.NoLimit := en.mod.nolimit.keeps still
  have kinds : ∀ y ∈ ps.zip us, (defScope st).names.lookup y.1 = some .local ∨
      ((defScope st).names.lookup y.1 = some .cell ∧ ((cellsFrom (s.heap.objs.size + 1) (defScope st).names []).lookup y.1).isSome = true) := by
    rintro ⟨nm, u⟩ hy
    cases S.par nm (List.of_mem_zip hy).1 with
    | inl z => exact .inl z
    | inr z => exact .inr ⟨z, PySem.W.cellsFrom_some _ _ _ (.inl z)⟩
  have step := codeAny_call_function (prog := P) (w := w) (A := A) (s := s) room.depth (inK _ _ look) rfl S.co S.gen rfl (PySem.W.codeRec_of inK code)
    (R := CR CX0 outer P w H s Q E) (args := args)
  refine step (bd _ _ _ _ ?_)
  refine wpAny_newFunctionEnv_cells S.kind kinds ?_
  intro env isEnv s1 inC
  subst isEnv
  refine ⟨noL.keeps inC.toInCall.keep, codeAny_func ?_⟩
  obtain ⟨t, ht, hq⟩ := body cdv (room.deeper _)
  have J : Inv (cxOf CX0 P w K mg base N qual (defScope st) f cdv A outer s H E) [] (start N vs) H s1 := inv_start S room.hd en hln rel inC
  refine wpAny_mono (ht.nox.run [] s1 (start N vs) H _ J hq) ?_ ?_
  · intro fl s' done
    cases fl with
    | ret u =>
      obtain ⟨v, σ', H', I', rv, qv⟩ := done
      exact ⟨v, H', I'.os, I'.bare, I'.base, I'.hok, rv, qv⟩
    | next =>
      obtain ⟨σ', H', I', qv⟩ := done
      exact ⟨V.non, H', I'.os, I'.bare, I'.base, I'.hok, rfl, qv⟩
    | brk => exact done.elim fun _ z => z.elim fun _ z => z.2.elim
    | cont => exact done.elim fun _ z => z.elim fun _ z => z.2.elim
  · intro e s' z
    exact z
/-! ### the law's own call -/
theorem law_at {P : Program} {w : World} {K : PySem.W.Frag} {mg mb : Str → Option Value} {fa a : Addr} {s₁ : Shared} {vs : List Value} {ns : List Int}
    (inK : K.In s₁.heap) (gl : s₁.heap.Ns mainGlobals mg) (bl : s₁.heap.Ns builtinsNs mb) (isB : ∀ x : Str, x ≠ "__name__" → mb x = bootBuiltins x) (lim : s₁.heap.NoLimit) (gens : s₁.gens = #[])
    (obj : s₁.heap.get? a = some { cls := .type "list", data := .seq vs.toArray }) (hints : IntsAre vs ns) (few : ns.length ≤ sizeLine)
    (run : ∀ (base : Heap) (H : Hp), K.In base → base.Ns mainGlobals mg → Env0 P w K mg base callerA [] s₁ H → SqL K H a (ns.map V.int) →
      codeAny (model P w) callerA (.call (.ref fa) ⟨[.ref a], []⟩) (CR CX0 [] P w H s₁ (fun v _ => v = .bl true) fun _ _ _ => False) s₁) :
    codeAny (model P w) callerA (.call (.ref fa) ⟨[.ref a], []⟩) (fun r s' => r = .ok (.ret (.bool true)) ∧ OldK s₁.heap s'.heap ∧ s'.os = s₁.os ∧ AllBare s'.gens) s₁ := by
  have rel := vals_ints hints
  have lens := hints.length
  have found : ∃ H : Hp, Only H ∧ SqL K H a (ns.map V.int) ∧ HOk P w H s₁.heap ∧ (∀ b u, H b = some u → b = a ∧ K.lookup a = none) := by
    cases inText : K.lookup a with
    | some o =>
      have same := inK a o inText
      rw [obj] at same
      cases same
      have never : ∀ (u : HO), (none : Option HO) ≠ some u := fun u z => by cases z
      refine ⟨fun _ => none, fun _ => .inl rfl, ?_, (fun b u z => (never u z).elim), (fun b u z => (never u z).elim)⟩
      refine .inr ⟨_, vs.toArray, _, inText, rfl, rfl, rfl, ?_, ?_⟩
      · rw [List.size_toArray, lens]
        exact few
      · rw [List.toList_toArray]
        exact rel
    | none =>
      let here : HO := .frz { cls := .type "list", data := .seq vs.toArray } (.lst (ns.map V.int))
      have only : ∀ b u, (if b = a then some here else none) = some u → b = a ∧ u = here := fun b u z => by
        by_cases hb : b = a
        · rw [if_pos hb] at z
          exact ⟨hb, (Option.some.inj z).symm⟩
        · rw [if_neg hb] at z
          cases z
      refine ⟨fun b => if b = a then some here else none, fun b => ?_, .inl (.inr ⟨{ cls := .type "list", data := .seq vs.toArray }, if_pos rfl⟩), fun b u z => ?_, fun b u z => ⟨(only b u z).1, rfl⟩⟩
      · by_cases hb : b = a
        · exact .inr ⟨_, _, if_pos hb⟩
        · exact .inl (if_neg hb)
      · obtain ⟨rfl, rfl⟩ := only b u z
        exact ⟨obj, by rw [List.length_map]; exact few, vs, _, rel, obj⟩
  obtain ⟨H, hO, hS, hok, hA⟩ := found
  have under : ∀ {b : Addr} {o : Obj}, s₁.heap.get? b = some o → H b = none → (hidT s₁.heap H).get? b = some o := fun e z => hidT_get e z
  have notDict : ∀ {b : Addr} {o : Obj} {es : Array DictEntry} {ep : Nat}, s₁.heap.get? b = some o → o.data = .dict es ep → H b = none := by
    intro b o es ep e isD
    cases z : H b with
    | none => rfl
    | some u =>
      obtain ⟨rfl, _⟩ := hA b u z
      rw [obj] at e
      cases e
      cases isD
  have ns' : ∀ {b : Addr} {m : Str → Option Value}, s₁.heap.Ns b m → (hidT s₁.heap H).Ns b m := by
    rintro b m ⟨o, es, ep, e, isD, r⟩
    exact ⟨o, es, ep, under e (notDict e isD), isD, r⟩
  have inK' : K.In (hidT s₁.heap H) := by
    intro b o e
    refine under (inK b o e) ?_
    cases z : H b with
    | none => rfl
    | some u =>
      obtain ⟨rfl, no⟩ := hA b u z
      rw [no] at e
      cases e
  obtain ⟨mc, l1, l2⟩ := lim
  have env : Env0 P w K mg (hidT s₁.heap H) callerA [] s₁ H :=
    ⟨rfl, ⟨inK', ns' gl, ⟨mb, ns' bl, isB⟩, ⟨mc, ns' l1, l2⟩⟩, fun _ _ e => of_hidT e, Nat.le_of_eq (hidT_size _ _), trivial, (fun _ hb => nomatch hb), hok, .of_eq gens⟩
  refine codeAny_mono (run _ H inK' (ns' gl) env hS) ?_
  intro r s' h
  cases r with
  | error e => exact h.elim
  | ok fl =>
    cases fl with
    | next => exact h.elim
    | brk => exact h.elim
    | cont => exact h.elim
    | ret u =>
      obtain ⟨v, H', os, bare, un, hok', rv, isT⟩ := h
      subst isT
      cases rv
      refine ⟨rfl, OldK.of_keep ?_, os, bare⟩
      intro b o e
      cases z : H b with
      | none => exact un.keep b o e z (fun y => nomatch y) (fun y => nomatch y)
      | some u =>
        rcases hO b with y | ⟨ob, xs, y⟩
        · rw [z] at y
          cases y
        · have y2 := un.frzs b ob _ y
          obtain ⟨e1, _⟩ := hok b _ y
          obtain ⟨e2, _⟩ := hok' b _ y2
          rw [e] at e1
          cases e1
          exact e2
/-! ### defs that ask for repr: the guards are carried -/
structure FnOkG (P : Program) (w : World) (K : PySem.W.Frag) (mg : Str → Option Value) (base : Heap) (k : Nat) (f : Addr) (fd : FuncData) (ps : List Str) (sp : Sp) : Prop where
  len : ∀ vs H Q E, sp vs H Q E → vs.length = ps.length
  run : ∀ (A : Around) (outer : List Env) (s : Shared) (H : Hp) (args : Args) (us : List Value) (vs : List V) (Q : VK) (E : XK), A.guards = some [] → Room k A → Env0 P w K mg base A outer s H →
    BindsTo s fd args (ps.zip us) → Vals vs us → sp vs H Q E → codeAny (model P w) A (.call (.ref f) args) (CR CX0 outer P w H s Q E) s
theorem fnG {P : Program} {w : World} {K : PySem.W.Frag} {mg : Str → Option Value} {base : Heap} {f : Addr} {fd : FuncData} {N ps : List Str} {k : Nat} {x qual : Str} {st : Stmt} {sp : Sp} (F : Fun K x qual st f fd) (S : FnScope N ps (defScope st))
    (len : ∀ vs H Q E, sp vs H Q E → vs.length = ps.length)
    (body : ∀ (cdv : Value) (A : Around) (outer : List Env) (s : Shared) (H : Hp) (vs : List V) (Q : VK) (E : XK), A.guards = some [] → Room k (A.deeper (envOfC qual (defScope st) s.heap.objs.size f cdv)) → sp vs H Q E →
      ∃ t, PSs (cxOf CX0 P w K mg base N qual (defScope st) f cdv A outer s H E).nox (defBody st) t ∧ t { nx := fun _ H' => Q .non H', rt := Q } (start N vs) H) :
    FnOkG P w K mg base (k + 1) f fd ps sp := by
  refine ⟨len, ?_⟩
  intro A outer s H args us vs Q E gs room en bd rel hsp
  exact enter_def F S room en bd rel (len _ _ _ _ hsp) fun cdv hr => body cdv A outer s H vs Q E gs hr hsp
theorem pe_callG {X : Cx} {k : Nat} {f : Addr} {fd : FuncData} {ps : List Str} {sp : Sp} {x : Str} {p pos : Pos} {e : Expr} {es : List Expr} {t : TA}
    (G : FnOkG X.prog X.w X.K X.mg X.base k f fd ps sp) (gs : X.A.guards = some []) (room : Room k X.A) (isG : Gl X x) (at0 : X.mg x = some (.ref f)) (kp : PySem.W.keepIn X.K (.ref f) = true) (bd : Binds X.K fd ps []) (args : PA X (e :: es) t)
    (nd : (x == ("__debug__" : Str)) = false := by decide) (he : starEach (e :: es) X.env = (false, eval e X.env) :: starEach es X.env := by rfl) (hp : (backTo pos (starEach es X.env)).any (·.1) = false := by rfl) :
    PE X (.Call (.Name x p) (e :: es) [] pos) (tCall sp [] E0 t) := by
  constructor
  intro pins s σ H Q I h
  refine wpAny_Call_Name_kw (ld_glob I isG at0 ?_ nd)
  refine PySem.W.callWith_K (h₀ := X.base) I.ok.mod.kin kp (thn (args.run pos pins s σ H _ I h) ?_) he hp
  rintro us s1 ⟨vs, H1, I1, rel, q⟩
  refine ⟨I1.kIn, ?_⟩
  have q' : sp vs H1 Q E0 := by
    rw [List.append_nil] at q
    exact q
  have hl : (us ++ []).length = ps.length := by
    rw [List.append_nil, ← rel.length]
    exact G.len _ _ _ _ q'
  have bd' := bd s1 us I1.kIn hl
  rw [List.append_nil] at bd'
  refine wpAny_call (codeAny_mono (G.run X.A X.stack s1 H1 ⟨us, []⟩ us vs Q E0 gs room I1.env0 bd' rel q') ?_)
  intro r s' done
  cases r with
  | error e => exact done.elim
  | ok fl =>
    cases fl with
    | ret u => exact I1.after done
    | next => exact done.elim
    | brk => exact done.elim
    | cont => exact done.elim
/-- a def that asks for repr, with its promise -/
structure DfG (P : Program) (w : World) (K : PySem.W.Frag) (mg : Str → Option Value) (base : Heap) (k : Nat) (nm : Str) (ps : List Str) (sp : Sp) where
  f : Addr
  fd : FuncData
  ok : FnOkG P w K mg base k f fd ps sp
  b : Binds K fd ps []
  kp : PySem.W.keepIn K (.ref f) = true
  g : mg nm = some (.ref f)
/-! ### repr of data without dicts -/
mutual
def okR : PyData → Bool
  | .none => true
  | .bool _ => true
  | .int i => decide (0 ≤ i) && decide (i < 10 ^ 30)
  | .str x => decide (x.length ≤ 64) && x.cps.toList.all (· < 128)
  | .list xs => okRs xs
  | .tuple xs => okRs xs
  | .dict _ => false
def okRs : List PyData → Bool
  | [] => true
  | x :: xs => okR x && okRs xs
end
mutual
def wtR : PyData → Nat
  | .none => 4
  | .bool _ => 5
  | .int _ => 31
  | .str x => 10 * x.length + 2
  | .list xs => 3 + wtRs xs
  | .tuple xs => 3 + wtRs xs
  | .dict _ => 0
def wtRs : List PyData → Nat
  | [] => 0
  | x :: xs => wtR x + 2 + wtRs xs
end
theorem small_shown {i : Int} (h0 : 0 ≤ i) (h : i < 10 ^ 30) : (Str.ofString (toString i)).length ≤ 31 ∧ i.natAbs.log2 < 1920 := by
  refine ⟨Nat.le_trans (toString_length_le h0 (by decide) h) (by decide), ?_⟩
  by_cases z : i.natAbs = 0
  · rw [z]; decide
  · rw [Nat.log2_lt z]
    have h2 : i.natAbs < 10 ^ 30 := by omega
    exact Nat.lt_of_lt_of_le h2 (Nat.le_trans (show 10 ^ 30 ≤ 2 ^ 100 by decide) (Nat.pow_le_pow_right (by decide) (by decide)))
theorem listText_leR (ts : List Str) : (listText ts).length ≤ piled ts + 3 := by
  have h := textFrom_len_le ts 0 "["
  have e : (listText ts).length = (textFrom 0 "[" ts).length + 1 := by
    show (textFrom 0 "[" ts ++ "]").length = _
    rw [strLen_append]
    rfl
  have z : ∀ l : List Str, (l.map (·.length)).sum + 2 * l.length = piled l := by
    intro l
    induction l with
    | nil => rfl
    | cons t l ih =>
      rw [piled_cons, List.map_cons, List.sum_cons, List.length_cons]
      omega
  have z2 := z ts
  have z3 : (("[" : String) : Str).length = 1 := rfl
  omega
mutual
theorem shownR : ∀ d : PyData, okR d = true → d.shown.length ≤ wtR d ∧ d.showable = true ∧ d.hasDict = false
  | .none, _ => by
    simp only [PyData.shown, wtR, PyData.showable, PyData.hasDict, and_true]
    decide +kernel
  | .bool b, _ => by
    simp only [PyData.shown, wtR, PyData.showable, PyData.hasDict, and_true]
    cases b <;> decide +kernel
  | .int i, h => by
    simp only [okR, Bool.and_eq_true, decide_eq_true_eq] at h
    obtain ⟨h1, h2⟩ := small_shown h.1 h.2
    simp only [PyData.shown, wtR, PyData.showable, PyData.hasDict, decide_eq_true_eq, and_true]
    exact ⟨h1, h2⟩
  | .str x, h => by
    simp only [okR, Bool.and_eq_true, decide_eq_true_eq, List.all_eq_true] at h
    have h1 := StrLaws.reprText_len x (fun c hc => Nat.lt_of_lt_of_le (h.2 c hc) (by decide))
    simp only [PyData.shown, wtR, PyData.showable, PyData.hasDict, and_true]
    omega
  | .list xs, h => by
    simp only [okR] at h
    obtain ⟨h1, h2, h3⟩ := shownRs xs h
    simp only [PyData.shown, wtR, PyData.showable, PyData.hasDict]
    exact ⟨Nat.le_trans (listText_leR _) (by omega), h2, h3⟩
  | .tuple xs, h => by
    simp only [okR] at h
    obtain ⟨h1, h2, h3⟩ := shownRs xs h
    simp only [PyData.shown, wtR, PyData.showable, PyData.hasDict]
    exact ⟨Nat.le_trans (fmt_text _) (by omega), h2, h3⟩
  | .dict _, h => by
    simp only [okR] at h
    exact absurd h Bool.false_ne_true
theorem shownRs : ∀ ds : List PyData, okRs ds = true → piled (PyData.shownAll ds) ≤ wtRs ds ∧ PyData.showableAll ds = true ∧ PyData.hasDictAll ds = false
  | [], _ => by
    simp only [PyData.shownAll, wtRs, PyData.showableAll, PyData.hasDictAll, and_true]
    exact Nat.le_refl _
  | d :: ds, h => by
    simp only [okRs, Bool.and_eq_true] at h
    obtain ⟨h1, h2, h5⟩ := shownR d h.1
    obtain ⟨h3, h4, h6⟩ := shownRs ds h.2
    simp only [PyData.shownAll, wtRs, PyData.showableAll, PyData.hasDictAll, h2, h4, h5, h6, Bool.and_self, Bool.or_self, and_true]
    rw [piled_cons]
    omega
end
def rReprR (K : PySem.W.Frag) : List V → Hp → VK → Prop := fun xs H Q => ∃ (a : Addr) (d : PyData), xs = [.ref a] ∧ Dp K H (.ref a) d ∧ okR d = true ∧ wtR d ≤ 1000000 ∧ d.depth ≤ 60 ∧ Q (.str d.shown) H
theorem call_reprR {X : Cx} (hg : X.A.guards = some []) (hu : X.A.units + 64 < cLine) : CallR X (.builtin "repr") (rReprR X.K) := by
  intro pins s σ H xs us Q I r h
  obtain ⟨a, d, rfl, hd, hs, hw, hz, q⟩ := h
  obtain ⟨u, rfl, rx⟩ := vals1 r
  cases rx
  obtain ⟨h1, h2, h3⟩ := shownR d hs
  obtain ⟨as, rd⟩ := Dp.reads I d _ _ hd rfl
  exact repr_of_reads' rd h2 (PyData.noDict_hsm h3) hg (by omega) (fun _ _ e => e) (fun h' u tk hk => ⟨.str d.shown, H, I.kept (t' := tk) hk, ⟨u, rfl⟩, q⟩) (by show _ ≤ 16777216; omega)
/-! ### data of nests; how large a nest is -/
theorem B.data_depth : ∀ t : B, t.data.depth = t.deep
  | .nil => by simp only [B.data, PyData.depth, B.deep]
  | .node l x r => by
    simp only [B.data, PyData.depth, PyData.depthAll, B.deep, l.data_depth, r.data_depth]
    omega
theorem okR_ch {c : Nat} (h : c < 128) : okR (.str (ch c)) = true := by
  simp only [okR, Bool.and_eq_true, decide_eq_true_eq, List.all_eq_true]
  refine ⟨by show 1 ≤ 64; decide, fun z hz => ?_⟩
  have : z = c := by simpa using hz
  omega
theorem okR_tree : ∀ t : B, ltB t → okR t.data = true ∧ wtR t.data ≤ 25 * t.size + 4
  | .nil, _ => by simp only [B.data, okR, wtR]; exact ⟨trivial, Nat.le_add_left ..⟩
  | .node l x r, h => by
    obtain ⟨a1, a2⟩ := okR_tree l fun c hc => h c (List.mem_cons_of_mem _ (List.mem_append_left _ hc))
    obtain ⟨b1, b2⟩ := okR_tree r fun c hc => h c (List.mem_cons_of_mem _ (List.mem_append_right _ hc))
    have hx := h x List.mem_cons_self
    have e1 : okR (.str (ch x)) = true := okR_ch (by omega)
    have e2 : wtR (.str (ch x)) = 12 := rfl
    simp only [B.data, okR, okRs, a1, b1, Bool.and_true, Bool.true_and]
    refine ⟨by simpa only [okR] using e1, ?_⟩
    show wtR (.tuple [l.data, .str (ch x), r.data]) ≤ 25 * (l.size + 1 + r.size) + 4
    have e3 : wtR (.tuple [l.data, .str (ch x), r.data]) = 3 + (wtR l.data + 2 + (wtR (.str (ch x)) + 2 + (wtR r.data + 2 + 0))) := by simp only [wtR, wtRs]
    rw [e3, e2]
    omega
theorem op_signs : ∀ (t : B) (w : List Nat), w ∈ t.op → ∀ c ∈ w, c = 108 ∨ c = 114
  | .nil, w, h, c, hc => by
    rw [List.mem_singleton.mp h] at hc
    cases hc
  | .node l x r, w, h, c, hc => by
    rcases List.mem_append.mp h with h | h
    · obtain ⟨u, hu, rfl⟩ := List.mem_map.mp h
      rcases List.mem_cons.mp hc with rfl | hc
      · exact .inl rfl
      · exact op_signs l u hu c hc
    · obtain ⟨u, hu, rfl⟩ := List.mem_map.mp h
      rcases List.mem_cons.mp hc with rfl | hc
      · exact .inr rfl
      · exact op_signs r u hu c hc
theorem int_lt {n : Nat} (h : n < 10 ^ 30) : (n : Int) < 10 ^ 30 := by exact_mod_cast h
def lkD (l : Lk) : PyData := .tuple [.str (tx l.1), .int (l.2 : Int)]
def enD (e : En) : PyData := .tuple [e.1.data, .tuple (e.2.map lkD)]
def nestD (es : List En) : PyData := .tuple (es.map enD)
theorem LkAt.dp {K : PySem.W.Frag} {H : Hp} {vs : List V} {ls : List Lk} (h : LkAt H vs ls) : DpAll K H vs (ls.map lkD) := by
  induction h with
  | nil => exact .nil
  | cons e _ ih => exact .cons (.tup (SqT.of e) (.cons (.str _) (.cons (.int _) .nil))) ih
theorem EnAt.dp {K : PySem.W.Frag} {H : Hp} {vs : List V} {es : List En} (h : EnAt H vs es) : DpAll K H vs (es.map enD) := by
  induction h with
  | nil => exact .nil
  | cons e1 e2 e3 e4 _ ih => exact .cons (.tup (SqT.of e1) (.cons e2.dp (.cons (.tup (SqT.of e3) e4.dp) .nil))) ih
theorem links_ok {t : B} {n : Nat} (hn : n ≤ 1000) (ht : t.deep ≤ 60) : ∀ ls : List Lk, (∀ l ∈ ls, l.1 ∈ t.op) → (∀ l ∈ ls, l.2 < n) → okRs (ls.map lkD) = true ∧ wtRs (ls.map lkD) ≤ 700 * ls.length ∧ PyData.depthAll (ls.map lkD) ≤ 1
  | [], _, _ => by
    refine ⟨by simp only [List.map_nil, okRs], by simp only [List.map_nil, wtRs]; exact Nat.zero_le _, by simp only [List.map_nil, PyData.depthAll]; omega⟩
  | l :: ls, h1, h2 => by
    obtain ⟨a, b, c⟩ := links_ok hn ht ls (fun k hk => h1 k (List.mem_cons_of_mem _ hk)) (fun k hk => h2 k (List.mem_cons_of_mem _ hk))
    have p1 := op_deep (h1 l List.mem_cons_self)
    have p2 := op_signs t l.1 (h1 l List.mem_cons_self)
    have p3 := h2 l List.mem_cons_self
    have k1 : okR (.str (tx l.1)) = true := by
      simp only [okR, Bool.and_eq_true, decide_eq_true_eq, List.all_eq_true, tx_len]
      refine ⟨decide_eq_true (by omega), fun z hz => ?_⟩
      have := p2 z hz
      omega
    have k2 : okR (.int (l.2 : Int)) = true := by
      simp only [okR, Bool.and_eq_true, decide_eq_true_eq]
      exact ⟨by omega, int_lt (Nat.lt_of_lt_of_le p3 (Nat.le_trans hn (by decide)))⟩
    have k3 : wtR (.str (tx l.1)) = 10 * l.1.length + 2 := rfl
    refine ⟨?_, ?_, ?_⟩
    · rw [List.map_cons]
      show (okR (.tuple [.str (tx l.1), .int (l.2 : Int)]) && okRs (ls.map lkD)) = true
      rw [a, Bool.and_true]
      show (okR (.str (tx l.1)) && (okR (.int (l.2 : Int)) && true)) = true
      rw [k1, k2]
      rfl
    · rw [List.map_cons]
      show wtR (.tuple [.str (tx l.1), .int (l.2 : Int)]) + 2 + wtRs (ls.map lkD) ≤ _
      have : wtR (.tuple [.str (tx l.1), .int (l.2 : Int)]) = 3 + (wtR (.str (tx l.1)) + 2 + (31 + 2 + 0)) := by simp only [wtR, wtRs]
      rw [this, k3, List.length_cons]
      omega
    · rw [List.map_cons]
      simp only [PyData.depthAll, lkD, PyData.depth]
      omega
theorem entries_ok : ∀ (es : List En), (∀ e ∈ es, ∃ n, n ≤ 20 ∧ GoodE 12 n e) → okRs (es.map enD) = true ∧ wtRs (es.map enD) ≤ 10000 * es.length ∧ PyData.depthAll (es.map enD) ≤ 14
  | [], _ => by
    refine ⟨by simp only [List.map_nil, okRs], by simp only [List.map_nil, wtRs]; exact Nat.zero_le _, by simp only [List.map_nil, PyData.depthAll]; omega⟩
  | e :: es, h => by
    obtain ⟨a, b, c⟩ := entries_ok es fun k hk => h k (List.mem_cons_of_mem _ hk)
    obtain ⟨n, hn, g⟩ := h e List.mem_cons_self
    obtain ⟨t, ls⟩ := e
    have td := t.deep_le
    have s2 : t.size ≤ 12 := g.s2
    obtain ⟨k1, k2⟩ := okR_tree t g.lt
    obtain ⟨m1, m2, m3⟩ := links_ok (t := t) (n := n) (by omega) (by omega) ls g.op g.ix
    have ll := links_len g (Nat.le_refl _)
    refine ⟨?_, ?_, ?_⟩
    · rw [List.map_cons]
      show ((okR t.data && (okRs (ls.map lkD) && true)) && okRs (es.map enD)) = true
      rw [a, k1, m1]
      rfl
    · rw [List.map_cons]
      show wtR (.tuple [t.data, .tuple (ls.map lkD)]) + 2 + wtRs (es.map enD) ≤ _
      have : wtR (.tuple [t.data, .tuple (ls.map lkD)]) = 3 + (wtR t.data + 2 + (3 + wtRs (ls.map lkD) + 2 + 0)) := by simp only [wtR, wtRs]
      rw [this, List.length_cons]
      omega
    · rw [List.map_cons]
      simp only [PyData.depthAll, enD, PyData.depth, B.data_depth]
      omega
theorem nest_ok {es : List En} (g : GoodN 12 es) (h : es.length ≤ 20) : okR (nestD es) = true ∧ wtR (nestD es) ≤ 1000000 ∧ (nestD es).depth ≤ 60 := by
  obtain ⟨a, b, c⟩ := entries_ok es fun e he => by
    obtain ⟨i, hi⟩ := List.getElem?_of_mem he
    have := (List.getElem?_eq_some_iff.mp hi).1
    exact ⟨i, by omega, g i e hi⟩
  refine ⟨?_, ?_, ?_⟩
  · simp only [nestD, okR, a]
  · simp only [nestD, wtR]
    omega
  · simp only [nestD, PyData.depth]
    omega
theorem sum_le {m : Nat} : ∀ l : List Nat, (∀ x ∈ l, x ≤ m) → l.sum ≤ l.length * m
  | [], _ => Nat.zero_le _
  | x :: l, h => by
    have h1 := h x List.mem_cons_self
    have h2 := sum_le l fun y hy => h y (List.mem_cons_of_mem _ hy)
    rw [List.sum_cons, List.length_cons, Nat.add_mul]
    omega
theorem fulls_size {es : List En} (g : GoodN 12 es) : ∀ k, k ≤ es.length → ∀ X ∈ fulls (es.take k), X.size + 1 ≤ 13 ^ k := by
  intro k
  induction k with
  | zero => intro _ X hX; cases hX
  | succ k ih =>
    intro hk X hX
    have ee : es[k]? = some es[k] := List.getElem?_eq_getElem (by omega)
    have p13 : 13 ^ (k + 1) = 13 ^ k * 13 := Nat.pow_succ ..
    have p1 : 1 ≤ 13 ^ k := Nat.pos_of_ne_zero (by simp)
    rw [show es.take (k + 1) = es.take k ++ [es[k]] from take_next ee, fulls_snoc] at hX
    rcases List.mem_append.mp hX with hX | hX
    · have := ih (by omega) X hX
      omega
    · rw [List.mem_singleton.mp hX]
      have ge := g k _ ee
      have fl : (fulls (es.take k)).length = k := by rw [fulls_len, List.length_take]; omega
      rw [size_full ge.nd ge.op]
      have s2 := ge.s2
      have sm := sum_le (m := 13 ^ k - 1) (es[k].2.map fun l => ((fulls (es.take k)).getD l.2 .nil).size) fun x hx => by
        obtain ⟨l, hl, rfl⟩ := List.mem_map.mp hx
        have hl2 : l.2 < (fulls (es.take k)).length := by rw [fl]; exact ge.ix l hl
        rw [List.getD_eq_getElem?_getD, List.getElem?_eq_getElem hl2]
        have := ih (by omega) _ (List.getElem_mem hl2)
        show (fulls (es.take k))[l.2].size ≤ _
        omega
      have ll : es[k].2.length ≤ es[k].1.size + 1 := by
        have h1 : (es[k].2.map (·.1)).length ≤ es[k].1.op.length := nodup_le ge.nd fun p hp => by
          obtain ⟨l, hl, rfl⟩ := List.mem_map.mp hp
          exact ge.op l hl
        rw [List.length_map, B.op_len] at h1
        exact h1
      rw [List.length_map] at sm
      have : es[k].2.length * (13 ^ k - 1) ≤ 13 * (13 ^ k - 1) := Nat.mul_le_mul_right _ (by omega)
      omega
theorem full_size {es : List En} (g : GoodN 12 es) (h20 : es.length ≤ 20) {X : B} (e : (fulls es)[es.length - 1]? = some X) : X.size < 10 ^ 30 ∧ ∀ c ∈ X.pre, 97 ≤ c ∧ c ≤ 122 := by
  have hm := List.mem_of_getElem? e
  have a := fulls_size g es.length (Nat.le_refl _) X (by rw [List.take_length]; exact hm)
  have b := fulls_lt g es.length (Nat.le_refl _) X (by rw [List.take_length]; exact hm)
  have c : 13 ^ es.length ≤ 13 ^ 20 := Nat.pow_le_pow_right (by decide) h20
  have d : 13 ^ 20 ≤ 10 ^ 30 := by decide
  exact ⟨by omega, b⟩
theorem cnt_le (zs : List Nat) : ∀ t : B, t.cnt zs ≤ t.size
  | .nil => Nat.le_refl _
  | .node l x r => by
    have h1 := cnt_le zs l
    have h2 := cnt_le zs r
    show l.cnt zs + r.cnt zs + (if x ∈ zs then 1 else 0) ≤ l.size + 1 + r.size
    split <;> omega
/-! rows of numbers -/
def numD (ns : List Nat) : PyData := .list (ns.map fun n : Nat => .int (n : Int))
theorem dp_nums {K : PySem.W.Frag} {H : Hp} : ∀ ns : List Nat, DpAll K H (ns.map vn) (ns.map fun n : Nat => PyData.int (n : Int))
  | [] => .nil
  | _ :: ns => .cons (.int _) (dp_nums ns)
theorem nums_ok : ∀ ns : List Nat, (∀ n ∈ ns, n < 10 ^ 30) → okRs (ns.map fun n : Nat => PyData.int (n : Int)) = true ∧ wtRs (ns.map fun n : Nat => PyData.int (n : Int)) = 33 * ns.length ∧ PyData.depthAll (ns.map fun n : Nat => PyData.int (n : Int)) = 0 ∧ PyData.canLayAll0 (ns.map fun n : Nat => PyData.int (n : Int)) = true
  | [], _ => by simp only [List.map_nil, okRs, wtRs, PyData.depthAll, PyData.canLayAll0]; exact ⟨trivial, rfl, trivial, trivial⟩
  | n :: ns, h => by
    obtain ⟨a, b, c, d⟩ := nums_ok ns fun k hk => h k (List.mem_cons_of_mem _ hk)
    have := h n List.mem_cons_self
    simp only [List.map_cons, okRs, okR, wtRs, wtR, PyData.depthAll, PyData.depth, PyData.canLayAll0, PyData.canLay0, a, b, c, d, List.length_cons, Bool.and_true, Bool.and_self, Bool.and_eq_true, decide_eq_true_eq]
    refine ⟨⟨by omega, int_lt this⟩, by omega, by omega, trivial⟩
theorem eqv_nums : ∀ ns : List Nat, PyData.eqvAll (ns.map fun n : Nat => PyData.int (n : Int)) (ns.map fun n : Nat => PyData.int (n : Int)) = true
  | [] => by simp only [List.map_nil, PyData.eqvAll]
  | n :: ns => by simp only [List.map_cons, PyData.eqvAll, PyData.eqv, eqv_nums ns, Bool.and_true]; simp
def rReprV (K : PySem.W.Frag) : List V → Hp → VK → Prop := fun xs H Q => ∃ (v : V) (d : PyData), xs = [v] ∧ Dp K H v d ∧ okR d = true ∧ wtR d ≤ 1000000 ∧ d.depth ≤ 60 ∧ Q (.str d.shown) H
theorem call_reprV {X : Cx} (hg : X.A.guards = some []) (hu : X.A.units + 64 < cLine) : CallR X (.builtin "repr") (rReprV X.K) := by
  intro pins s σ H xs us Q I r h
  obtain ⟨v, d, rfl, hd, hs, hw, hz, q⟩ := h
  obtain ⟨u, rfl, rx⟩ := vals1 r
  obtain ⟨h1, h2, h3⟩ := shownR d hs
  have fits : d.shown.length ≤ sizeLine := by show _ ≤ 16777216; omega
  have rds := Dp.reads I d v u hd rx
  have fin : ∀ (h' : Heap) (t : Tok) (tk : Tok), (∀ b o, s.heap.get? b = some o → h'.get? b = some o) → EP X pins σ Q (.str d.shown t) { s with heap := h', toks := tk } := fun h' t tk hk => ⟨.str d.shown, H, I.kept (t' := tk) hk, ⟨t, rfl⟩, q⟩
  cases hd with
  | non =>
    cases rx
    simp only [PyData.shown] at fin
    exact PySem.P.repr_of_none (fin s.heap _ _ fun _ _ e => e)
  | bl b =>
    cases rx
    simp only [PyData.shown] at fin
    exact PySem.P.repr_of_bool (fin s.heap _ _ fun _ _ e => e)
  | int i =>
    obtain ⟨t, rfl⟩ := rx
    simp only [PyData.shown] at fin
    simp only [PyData.showable, decide_eq_true_eq] at h2
    exact PySem.P.repr_of_int h2 (fin s.heap _ _ fun _ _ e => e)
  | str x =>
    obtain ⟨t, rfl⟩ := rx
    simp only [PyData.shown] at fin fits
    exact PySem.P.repr_of_str (fin s.heap _ _ fun _ _ e => e) fits
  | lst _ _ =>
    cases rx
    obtain ⟨as, rd⟩ := rds
    exact repr_of_reads' rd h2 (PyData.noDict_hsm h3) hg (by omega) (fun _ _ e => e) (fun h' u tk hk => fin h' u tk hk) fits
  | tup _ _ =>
    cases rx
    obtain ⟨as, rd⟩ := rds
    exact repr_of_reads' rd h2 (PyData.noDict_hsm h3) hg (by omega) (fun _ _ e => e) (fun h' u tk hk => fin h' u tk hk) fits
def spSameV (K : PySem.W.Frag) : Sp := fun vs H Q _ => ∃ (a b : V) (d : PyData), vs = [a, b] ∧ Dp K H a d ∧ Dp K H b d ∧ okR d = true ∧ wtR d ≤ 1000000 ∧ d.depth ≤ 60 ∧ Q (.bl true) H
section
variable {P : Program} {w : World} {K : PySem.W.Frag} {mg : Str → Option Value} {base : Heap} {f : Addr} {fd : FuncData}
theorem ok_same (F : Fun K "_law_same" "_law_same" s__law_same f fd) (mrepr : mg "repr" = none) : FnOkG P w K mg base 1 f fd ["_law_found", "_law_due"] (spSameV K) := by
  refine fnG F sc__law_same (fun vs H Q E h => ?_) (fun cdv A outer s H vs Q E gs hr h => ?_)
  · obtain ⟨a, b, d, rfl, _⟩ := h
    rfl
  obtain ⟨a, b, d, rfl, h1, h2, k1, k2, k3, q⟩ := h
  refine ⟨_, (pss_one (ps_ret (pe_cmpR op_eq (pe_callB (call_reprV gs hr.units) rfl mrepr (by decide +kernel) (pa_cons (pv 0) pa_nil)) (pe_callB (call_reprV gs hr.units) rfl mrepr (by decide +kernel) (pa_cons (pv 1) pa_nil)) (nomark _)))), ?_⟩
  refine ⟨_, rfl, a, d, rfl, h1, k1, k2, k3, _, rfl, b, d, rfl, h2, k1, k2, k3, rfl, ?_⟩
  rw [decide_eq_true rfl]
  exact q
end
/-! ### TURNS, turned, way_to -/
def tw (n : Nat) : List Nat := if n = 0 then [] else [n]
def Kd.turns : Kd → List Nat
  | .first => [0, 108, 114]
  | .between => [108, 0, 114]
  | .last => [108, 114, 0]
/-- where the table of turns stands -/
structure Turns (K : PySem.W.Frag) (w : World) (mg : Str → Option Value) (aT : Addr) : Prop where
  g : mg "TURNS" = some (.ref aT)
  d : ∀ k : Kd, ∃ b : Addr, KDct K w aT k.str (.ref b) ∧ ∀ H, SqT K H b (k.turns.map fun n => vt (tw n))
theorem turns_first : (Kd.first.turns.map fun n => vt (tw n)) = [.str "", .str "l", .str "r"] := by
  show [V.str (tx []), V.str (tx [108]), V.str (tx [114])] = _
  rw [← str_0, ← str_l, ← str_r]
theorem turns_between : (Kd.between.turns.map fun n => vt (tw n)) = [.str "l", .str "", .str "r"] := by
  show [V.str (tx [108]), V.str (tx []), V.str (tx [114])] = _
  rw [← str_0, ← str_l, ← str_r]
theorem turns_last : (Kd.last.turns.map fun n => vt (tw n)) = [.str "l", .str "r", .str ""] := by
  show [V.str (tx [108]), V.str (tx [114]), V.str (tx [])] = _
  rw [← str_0, ← str_l, ← str_r]
def sel (zs : List Nat) (L : List (List Nat × Nat)) : List (List Nat × Nat) := L.filter fun s => decide (s.2 ∈ zs)
def seg (k : Kd) (zs : List Nat) (l : B) (x : Nat) (r : B) (q : List Nat) (n : Nat) : List (List Nat × Nat) := if n = 0 then sel zs [(q, x)] else if n = 108 then sel zs (l.steps k (q ++ [108])) else sel zs (r.steps k (q ++ [114]))
def segN (zs : List Nat) (l : B) (x : Nat) (r : B) (n : Nat) : Nat := if n = 0 then (if x ∈ zs then 1 else 0) else if n = 108 then l.cnt zs else r.cnt zs
def sideB (u l r : B) (n : Nat) : B := if n = 0 then u else if n = 108 then l else r
theorem sel_app (zs : List Nat) (L M : List (List Nat × Nat)) : sel zs (L ++ M) = sel zs L ++ sel zs M := List.filter_append ..
theorem sel_node (k : Kd) (zs : List Nat) (l : B) (x : Nat) (r : B) (q : List Nat) : sel zs ((B.node l x r).steps k q) = k.turns.flatMap (seg k zs l x r q) := by
  cases k
  · show sel zs ([(q, x)] ++ l.steps .first (q ++ [108]) ++ r.steps .first (q ++ [114])) = sel zs [(q, x)] ++ (sel zs (l.steps .first (q ++ [108])) ++ (sel zs (r.steps .first (q ++ [114])) ++ []))
    rw [sel_app, sel_app, List.append_nil, List.append_assoc]
  · show sel zs (l.steps .between (q ++ [108]) ++ [(q, x)] ++ r.steps .between (q ++ [114])) = sel zs (l.steps .between (q ++ [108])) ++ (sel zs [(q, x)] ++ (sel zs (r.steps .between (q ++ [114])) ++ []))
    rw [sel_app, sel_app, List.append_nil, List.append_assoc]
  · show sel zs (l.steps .last (q ++ [108]) ++ r.steps .last (q ++ [114]) ++ [(q, x)]) = sel zs (l.steps .last (q ++ [108])) ++ (sel zs (r.steps .last (q ++ [114])) ++ (sel zs [(q, x)] ++ []))
    rw [sel_app, sel_app, List.append_nil, List.append_assoc]
theorem sel_one (zs : List Nat) (q : List Nat) (x : Nat) : sel zs [(q, x)] = if x ∈ zs then [(q, x)] else [] := by
  unfold sel
  by_cases h : x ∈ zs
  · rw [if_pos h, List.filter_cons, if_pos (decide_eq_true h)]; rfl
  · rw [if_neg h, List.filter_cons, if_neg (by simpa using h)]; rfl
theorem sel_len (k : Kd) (zs : List Nat) (t : B) : ∀ q : List Nat, (sel zs (t.steps k q)).length = t.cnt zs := by
  induction t with
  | nil => intro q; rfl
  | node l x r h1 h2 =>
    intro q
    have a := h1 (q ++ [108])
    have b := h2 (q ++ [114])
    rw [sel_node]
    show _ = l.cnt zs + r.cnt zs + if x ∈ zs then 1 else 0
    cases k
    · show (sel zs [(q, x)] ++ (sel zs (l.steps .first (q ++ [108])) ++ (sel zs (r.steps .first (q ++ [114])) ++ []))).length = _
      rw [List.length_append, List.length_append, List.length_append, a, b, sel_one, List.length_nil]
      split <;> simp only [List.length_cons, List.length_nil] <;> omega
    · show (sel zs (l.steps .between (q ++ [108])) ++ (sel zs [(q, x)] ++ (sel zs (r.steps .between (q ++ [114])) ++ []))).length = _
      rw [List.length_append, List.length_append, List.length_append, a, b, sel_one, List.length_nil]
      split <;> simp only [List.length_cons, List.length_nil] <;> omega
    · show (sel zs (l.steps .last (q ++ [108])) ++ (sel zs (r.steps .last (q ++ [114])) ++ (sel zs [(q, x)] ++ []))).length = _
      rw [List.length_append, List.length_append, List.length_append, a, b, sel_one, List.length_nil]
      split <;> simp only [List.length_cons, List.length_nil] <;> omega
theorem seg_len (k : Kd) (zs : List Nat) (l : B) (x : Nat) (r : B) (q : List Nat) (n : Nat) : (seg k zs l x r q n).length = segN zs l x r n := by
  unfold seg segN
  by_cases h0 : n = 0
  · rw [if_pos h0, if_pos h0, sel_one]; split <;> rfl
  · rw [if_neg h0, if_neg h0]
    by_cases h1 : n = 108
    · rw [if_pos h1, if_pos h1, sel_len]
    · rw [if_neg h1, if_neg h1, sel_len]
def isT (n : Nat) : Prop := n = 0 ∨ n = 108 ∨ n = 114
theorem turns_isT (k : Kd) : ∀ n ∈ k.turns, isT n := by
  intro n hn
  cases k <;> simp only [Kd.turns, List.mem_cons, List.mem_nil_iff, or_false] at hn <;> unfold isT <;> omega
theorem tw_len (n : Nat) : (tw n).length ≤ 1 := by unfold tw; split <;> simp
theorem tw_0 : tw 0 = [] := rfl
theorem tw_ne {n : Nat} (h : n ≠ 0) : tw n = [n] := if_neg h
theorem str_l' : Str.ofString "l" = tx [108] := by decide +kernel
def spTurned : Sp := fun vs H Q _ => ∃ (sp cp : Addr) (ss : List V) (ds : List B) (zs : List Nat) (at0 n x : Nat) (l r : B), vs = [.ref sp, .ref cp, vn at0, vt (tw n)] ∧ H sp = some (.lst ss) ∧ SpAt H ss ds ∧ H cp = some (.lst (ds.map fun d => vn (d.cnt zs))) ∧ ds[at0]? = some (.node l x r) ∧ isT n ∧
  ∀ (p : Addr) (i : Nat) (H' : Hp), Same H H' → H' p = some (.tup [vn i, vn (segN zs l x r n)]) → ds[i]? = some (sideB (.node l x r) l r n) → (n ≠ 0 → i < at0) → Q (.ref p) H'
theorem SpAt.node {H : Hp} {ss : List V} {ds : List B} (h : SpAt H ss ds) {k x : Nat} {l r : B} (e : ds[k]? = some (.node l x r)) : ∃ (a : Addr) (i j : Nat), ss[k]? = some (.ref a) ∧ H a = some (.tup [.int (i : Int), .str (ch x), .int (j : Int)]) ∧ i < k ∧ j < k ∧ ds[i]? = some l ∧ ds[j]? = some r := by
  have hk := (List.getElem?_eq_some_iff.mp e).1
  have k0 : 0 < k := by
    rcases Nat.eq_zero_or_pos k with z | z
    · subst z
      rw [h.pos] at e
      cases e
    · exact z
  obtain ⟨a, i, j, c, l', r', h1, h2, h3, h4, h5, h6, h7⟩ := h.each k k0 hk
  rw [e] at h7
  cases h7
  exact ⟨a, i, j, h1, h2, h3, h4, h5, h6⟩
section
variable {P : Program} {w : World} {K : PySem.W.Frag} {mg : Str → Option Value} {base : Heap} {f : Addr} {fd : FuncData}
theorem ok_turned {k : Nat} (F : Fun K "turned" "turned" s_turned f fd) : FnOk P w K mg base CX0 (k + 1) f fd ["spots", "counts", "at", "turn"] spTurned := by
  refine F.ok sc_turned (fun vs H Q E h => ?_) (fun cdv A outer s H vs Q E hr h => ?_)
  · obtain ⟨sp, cp, ss, ds, zs, at0, n, x, l, r, rfl, _⟩ := h
    rfl
  obtain ⟨sp, cp, ss, ds, zs, at0, n, x, l, r, rfl, es, sa, ec, e0, ht, q⟩ := h
  refine ⟨_, (pss_cons (ps_asg (pe_ix ix_list (pv 0) (pv 2) (fun _ _ => rfl)) (pg_tup rfl (pgs_cons (pg_name (i := 4) sc_turned.nd rfl (.inl rfl)) (pgs_cons (pg_name (i := 5) sc_turned.nd rfl (.inl rfl)) (pgs_cons (pg_name (i := 6) sc_turned.nd rfl (.inl rfl)) pgs_nil)))))
    (pss_cons (ps_if (pt_cmpR op_eq (pv 3) pe_str (nomark _))
      (pss_one (ps_ret (pe_tup (pa_cons (pv 2) (pa_cons (pe_op op_sub (pe_op op_sub (pe_ix ix_list (pv 1) (pv 2) (fun _ _ => rfl)) (pe_ix ix_list (pv 1) (pv 4) (fun _ _ => rfl))) (pe_ix ix_list (pv 1) (pv 6) (fun _ _ => rfl))) pa_nil))))) pss_nil)
    (pss_cons (ps_set (i := 7) sc_turned.nd rfl (.inl rfl) (pe_ifExp (pt_cmpR op_eq (pv 3) pe_str (nomark _)) (pv 4) (pv 6)))
    (pss_one (ps_ret (pe_tup (pa_cons (pv 7) (pa_cons (pe_ix ix_list (pv 1) (pv 7) (fun _ _ => rfl)) pa_nil)))))))), ?_⟩
  obtain ⟨a, i, j, h1, h2, hi, hj, el, er⟩ := sa.node e0
  have get : ∀ (m : Nat) (d : B), ds[m]? = some d → (ds.map fun d => vn (d.cnt zs))[m]? = some (vn (d.cnt zs)) := fun m d hd => by rw [List.getElem?_map, hd]; rfl
  refine ⟨_, rfl, _, rfl, sp, _, _, _, rfl, rfl, SqL.of es, atI_nat h1, a, _, rfl, SqT.of h2, rfl, _, _, rfl, _, _, rfl, _, _, rfl, rfl, ?_⟩
  refine ⟨_, rfl, rfl, _, rfl, ?_⟩
  by_cases n0 : n = 0
  · subst n0
    refine iteS (by rw [str_0]; rfl) ?_
    refine ⟨_, rfl, _, rfl, _, rfl, cp, _, _, _, rfl, rfl, SqL.of ec, atI_nat (get _ _ e0), _, rfl, _, rfl, cp, _, _, _, rfl, rfl, SqL.of ec, atI_nat (get _ _ el), _, _, rfl, rfl, _, rfl, _, rfl, cp, _, _, _, rfl, rfl, SqL.of ec, atI_nat (get _ _ er), _, _, rfl, rfl, (by show 2 ≤ sizeLine; decide), fun p np => ?_⟩
    have e : ((B.node l x r).cnt zs : Int) - (l.cnt zs : Int) - (r.cnt zs : Int) = ((segN zs l x r 0 : Nat) : Int) := by
      show ((l.cnt zs + r.cnt zs + (if x ∈ zs then 1 else 0) : Nat) : Int) - _ - _ = ((if x ∈ zs then 1 else 0 : Nat) : Int)
      split <;> omega
    refine q p at0 _ (same_new np _) ?_ e0 (fun z => absurd rfl z)
    rw [upd_same]
    exact congrArg (fun z : Int => some (HO.tup [vn at0, V.int z])) e
  · refine iteR (by rw [str_0, tw_ne n0]; exact fun z => by cases tx_inj z) ?_
    refine ⟨_, rfl, rfl, _, rfl, ?_⟩
    by_cases n1 : n = 108
    · subst n1
      refine iteS (by rw [str_l']; rfl) ?_
      refine ⟨_, rfl, _, rfl, _, rfl, _, rfl, cp, _, _, _, rfl, rfl, SqL.of ec, atI_nat (get _ _ el), (by show 2 ≤ sizeLine; decide), fun p np => ?_⟩
      exact q p i _ (same_new np _) upd_same el (fun _ => hi)
    · have n2 : n = 114 := by unfold isT at ht; omega
      subst n2
      refine iteR (by rw [str_l']; exact fun z => by cases tx_inj z) ?_
      refine ⟨_, rfl, _, rfl, _, rfl, _, rfl, cp, _, _, _, rfl, rfl, SqL.of ec, atI_nat (get _ _ er), (by show 2 ≤ sizeLine; decide), fun p np => ?_⟩
      exact q p j _ (same_new np _) upd_same er (fun _ => hj)
/-! the path of the node with so many counted ones before it -/
def spWay (K : PySem.W.Frag) : Sp := fun vs H Q _ => ∃ (sp cp : Addr) (ss : List V) (ds : List B) (zs : List Nat) (k : Kd) (n : Nat) (X : B) (W : List Nat) (c : Nat), vs = [.ref sp, .ref cp, .str k.str, vn n] ∧ H sp = some (.lst ss) ∧ SpAt H ss ds ∧ ds.length ≤ 300 ∧ H cp = some (.lst (ds.map fun d => vn (d.cnt zs))) ∧ ds[ds.length - 1]? = some X ∧ (sel zs (X.steps k []))[n]? = some (W, c) ∧
  ∀ H', Same H H' → W.length ≤ 300 → Q (vt W) H'
def atOf : L2.St → Nat
  | [_, _, _, _, _, _, some (.int i), _, _, _] => i.toNat
  | _ => 0
theorem ok_way {aT : Addr} (F : Fun K "way_to" "way_to" s_way_to f fd) (M : Mgs mg) (T : Turns K w mg aT) (Dturned : Df P w K mg base 1 "turned" ["spots", "counts", "at", "turn"] spTurned) : FnOk P w K mg base CX0 2 f fd ["spots", "counts", "kind", "index"] (spWay K) := by
  have mT := T.g
  refine F.ok sc_way_to (fun vs H Q E h => ?_) (fun cdv A outer s H vs Q E hr h => ?_)
  · obtain ⟨sp, cp, ss, ds, zs, k, n, X, W, c, rfl, _⟩ := h
    rfl
  obtain ⟨sp, cp, ss, ds, zs, k, n, X, W, c, rfl, es, sa, dl, ec, eX, hW, q⟩ := h
  refine ⟨_, (pss_cons (ps_set (i := 4) sc_way_to.nd rfl (.inl rfl) pe_str)
    (pss_cons (ps_set (i := 5) sc_way_to.nd rfl (.inl rfl) (pv 3))
    (pss_cons (ps_set (i := 6) sc_way_to.nd rfl (.inl rfl) (pe_op op_sub (pe_callB call_len_seq rfl M.len PySem.boot_len (pa_cons (pv 0) pa_nil)) pe_int))
    (pss_one (ps_while PassesOwn.never (pt_val pe_bl)
      (pss_cons (ps_for PassesOwn.never rfl (pi_tup (pe_ix ix_kdict (pe_glob (v := .ref _) rfl mT rfl) (pv 2) (fun _ _ => rfl))) (pg_name (i := 7) sc_way_to.nd rfl (.inl rfl))
      (pss_cons (ps_asg (pe_call Dturned.ok (hr.mono (by omega)) rfl Dturned.g Dturned.kp Dturned.b .nil pass0 (pa_cons (pv 0) (pa_cons (pv 1) (pa_cons (pv 6) (pa_cons (pv 7) pa_nil))))) (pg_tup rfl (pgs_cons (pg_name (i := 8) sc_way_to.nd rfl (.inl rfl)) (pgs_cons (pg_name (i := 9) sc_way_to.nd rfl (.inl rfl)) pgs_nil))))
    (pss_cons (ps_if (pt_cmpR op_lt (pv 5) (pv 9) (nomark _))
      (pss_one ps_break) pss_nil)
    (pss_one (ps_aug (i := 5) sc_way_to.nd rfl (.inl rfl) (pv 9) ip_sub)))))
    (pss_cons (ps_if (pt_cmpR op_eq (pv 7) pe_str (nomark _))
      (pss_one (ps_ret (pv 4))) pss_nil)
    (pss_cons (ps_aug (i := 4) sc_way_to.nd rfl (.inl rfl) (pv 7) (show PIp _ .Add _ from iop_add_str))
    (pss_one (ps_set (i := 6) sc_way_to.nd rfl (.inl rfl) (pv 8))))))))))), ?_⟩
  have sl := sa.len
  have dx := (List.getElem?_eq_some_iff.mp eX).1
  refine ⟨_, rfl, ?_⟩
  refine ⟨_, rfl, sp, ss, rfl, .inl (SqL.of es), _, _, rfl, rfl, ?_⟩
  have ei : ((ss.length : Nat) : Int) - 1 = ((ds.length - 1 : Nat) : Int) := by omega
  have e1 : vn (ds.length - 1) = V.int (((ss.length : Nat) : Int) - 1) := congrArg V.int ei.symm
  have e2 : vt [] = V.str (Str.ofString "") := by rw [str_0]
  obtain ⟨bT, kd, sq⟩ := T.d k
  refine while_by (fun σ H' => ∃ (way : List Nat) (rest at0 : Nat) (u : B) (o7 o8 o9 : Option V), σ = [some (.ref sp), some (.ref cp), some (.str k.str), some (vn n), some (vt way), some (vn rest), some (vn at0), o7, o8, o9] ∧ Same H H' ∧ ds[at0]? = some u ∧ (sel zs (u.steps k way))[rest]? = some (W, c) ∧ way.length + at0 ≤ 300)
    (fun σ H' => atOf σ) ⟨[], n, ds.length - 1, X, none, none, none, by rw [e1, e2]; rfl, Same.refl H, eX, hW, by simp only [List.length_nil]; omega⟩ (fun σ H1 hp => ?_) ?_
  · obtain ⟨way, rest, at0, u, o7, o8, o9, rfl, s1, eu, hr0, wl⟩ := hp
    refine ⟨_, rfl, iteT ?_⟩
    obtain ⟨l, x, r, rfl⟩ : ∃ l x r, u = .node l x r := by
      cases u with
      | nil => exact absurd hr0 (by simp [B.steps, sel])
      | node l x r => exact ⟨l, x, r, rfl⟩
    rw [sel_node] at hr0
    refine ⟨_, rfl, aT, k.str, _, rfl, rfl, kd, bT, rfl, ⟨_, sq H1⟩, ?_⟩
    refine for_tup (K := K) (a := bT) (xs := k.turns.map fun n => vt (tw n)) (fun j σ H' => ∃ (rest : Nat) (o7 o8 o9 : Option V), σ = [some (.ref sp), some (.ref cp), some (.str k.str), some (vn n), some (vt way), some (vn rest), some (vn at0), o7, o8, o9] ∧ Same H H' ∧ ((k.turns.drop j).flatMap (seg k zs l x r way))[rest]? = some (W, c))
      ⟨rest, o7, o8, o9, rfl, s1, hr0⟩ (fun _ _ H' _ _ => sq H') (fun j v σ H2 hv hp => ?_) (fun σ H2 hp => ?_)
    · obtain ⟨rest, o7, o8, o9, rfl, s2, hr1⟩ := hp
      rw [List.getElem?_map] at hv
      obtain ⟨m, hm, rfl⟩ := Option.map_eq_some_iff.mp hv
      have im := turns_isT k m (List.mem_of_getElem? hm)
      refine ⟨_, rfl, _, rfl, _, rfl, _, rfl, sp, cp, ss, ds, zs, at0, m, x, l, r, rfl, s2 _ _ es, sa.keep (Tw.Same.keepT s2), s2 _ _ ec, eu, im, fun p i H3 s3 ep ei hlt => ?_⟩
      refine ⟨p, _, rfl, SqT.of ep, rfl, _, _, rfl, _, _, rfl, rfl, ?_⟩
      refine ⟨_, rfl, _, rfl, _, _, rfl, rfl, _, rfl, ?_⟩
      have hj := (List.getElem?_eq_some_iff.mp hm).1
      rw [List.drop_eq_getElem_cons hj, (List.getElem?_eq_some_iff.mp hm).2, List.flatMap_cons] at hr1
      by_cases hc : rest < segN zs l x r m
      · rw [decide_eq_true (by omega : (rest : Int) < (segN zs l x r m : Int))]
        refine iteT ?_
        rw [List.getElem?_append_left (by rw [seg_len]; exact hc)] at hr1
        -- behind the loop
        refine ⟨_, rfl, rfl, _, rfl, ?_⟩
        by_cases m0 : m = 0
        · subst m0
          refine iteS (by rw [str_0]; rfl) ?_
          have hr2 : (sel zs [(way, x)])[rest]? = some (W, c) := hr1
          rw [sel_one] at hr2
          have e : W = way := by
            split at hr2
            · cases rest with
              | zero => cases hr2; rfl
              | succ r => cases hr2
            · cases hr2
          subst e
          exact ⟨_, rfl, q H3 (s2.trans s3) (by omega)⟩
        · refine iteR (by rw [str_0, tw_ne m0]; exact fun z => by cases tx_inj z) ?_
          have hlt' := hlt m0
          refine ⟨_, rfl, _, rfl, _, _, rfl, rfl, small (by rw [tx_len, tx_len]; have := tw_len m; omega), ?_⟩
          rw [tx_app, tw_ne m0]
          refine ⟨_, rfl, ⟨way ++ [m], rest, i, sideB (.node l x r) l r m, _, _, _, rfl, s2.trans s3, ei, ?_, by rw [List.length_append, List.length_cons, List.length_nil]; omega⟩, ?_⟩
          · unfold seg at hr1
            unfold sideB
            rw [if_neg m0] at hr1 ⊢
            by_cases m1 : m = 108
            · subst m1
              rw [if_pos rfl] at hr1 ⊢
              exact hr1
            · have m2 : m = 114 := by unfold isT at im; omega
              subst m2
              rw [if_neg (by decide)] at hr1 ⊢
              exact hr1
          · show ((i : Int)).toNat < ((at0 : Int)).toNat
            omega
      · rw [decide_eq_false (by omega : ¬ (rest : Int) < (segN zs l x r m : Int))]
        refine iteF ?_
        rw [List.getElem?_append_right (by rw [seg_len]; omega), seg_len] at hr1
        refine ⟨_, rfl, _, rfl, _, _, rfl, rfl, ?_⟩
        have e : (rest : Int) - (segN zs l x r m : Int) = ((rest - segN zs l x r m : Nat) : Int) := by omega
        have e' : vn (rest - segN zs l x r m) = V.int ((rest : Int) - (segN zs l x r m : Int)) := congrArg V.int e.symm
        exact ⟨rest - segN zs l x r m, _, _, _, by rw [e']; rfl, s2.trans s3, hr1⟩
    · obtain ⟨rest, o7, o8, o9, rfl, s2, hr1⟩ := hp
      rw [List.length_map, List.drop_eq_nil_of_le (Nat.le_refl _)] at hr1
      cases hr1
  · intro σ H Q Q' h1 h2
    obtain ⟨b, e, h3⟩ := h2
    exact ⟨b, e, h1 _ _ h3⟩
end
/-! ### is_index; label_on, way_at, label_in -/
section
variable {P : Program} {w : World} {K : PySem.W.Frag} {mg : Str → Option Value} {base : Heap} {f : Addr} {fd : FuncData}
def spWhole : Sp := fun vs H Q _ => ∃ i : Int, vs = [.int i] ∧ Q (.bl true) H
theorem ok_whole {k : Nat} (F : Fun K "is_whole_number" "is_whole_number" s_is_whole_number f fd) (M : Mgs mg) : FnOk P w K mg base CX0 (k + 1) f fd ["value"] spWhole := by
  refine F.ok sc_is_whole_number (fun vs H Q E h => ?_) (fun cdv A outer s H vs Q E hr h => ?_)
  · obtain ⟨i, rfl, _⟩ := h
    rfl
  obtain ⟨i, rfl, q⟩ := h
  refine ⟨_, (pss_one (ps_ret (pe_and (pe_callB call_isi rfl M.isinstance (by decide +kernel) (pa_cons (pv 0) (pa_cons (pe_bltn (v := .ty "int") rfl M.int (by decide +kernel) rfl) pa_nil))) (pe_one (pe_not (pe_callB call_isi rfl M.isinstance (by decide +kernel) (pa_cons (pv 0) (pa_cons (pe_bltn (v := .ty "bool") rfl M.bool (by decide +kernel) rfl) pa_nil)))))))), ?_⟩
  refine ⟨_, rfl, _, _, _, _, true, rfl, .ty _, .base (.int i), kit_ty (by decide +kernel), _, rfl, iteT ?_⟩
  exact ⟨_, rfl, _, _, _, _, false, rfl, .ty _, .base (.int i), kit_ty (by decide +kernel), _, rfl, q⟩
def spIndex : Sp := fun vs H Q _ => ∃ i n : Int, vs = [.int i, .int n] ∧ Q (.bl (decide (0 ≤ i) && decide (i < n))) H
theorem ok_index {k : Nat} (F : Fun K "is_index" "is_index" s_is_index f fd) (Dis_whole_number : Df P w K mg base (k + 1) "is_whole_number" ["value"] spWhole) : FnOk P w K mg base CX0 (k + 2) f fd ["value", "many"] spIndex := by
  refine F.ok sc_is_index (fun vs H Q E h => ?_) (fun cdv A outer s H vs Q E hr h => ?_)
  · obtain ⟨i, n, rfl, _⟩ := h
    rfl
  obtain ⟨i, n, rfl, q⟩ := h
  refine ⟨_, (pss_one (ps_ret (pe_and (pe_call Dis_whole_number.ok (hr.mono (by omega)) rfl Dis_whole_number.g Dis_whole_number.kp Dis_whole_number.b .nil pass0 (pa_cons (pv 0) pa_nil)) (pe_one (pe_chain op_le op_lt pe_int (pv 0) (pv 1)))))), ?_⟩
  refine ⟨_, rfl, i, rfl, _, rfl, iteT ?_⟩
  refine ⟨_, rfl, _, _, rfl, rfl, _, rfl, ?_⟩
  by_cases h0 : (0 : Int) ≤ i
  · rw [decide_eq_true h0] at q ⊢
    exact iteT ⟨_, rfl, _, _, rfl, rfl, q⟩
  · rw [decide_eq_false h0] at q ⊢
    exact iteF q
end
theorem steps_at (k : Kd) (t : B) : ∀ (q p : List Nat) (c : Nat), (p, c) ∈ t.steps k q → ∃ w l r, p = q ++ w ∧ t.at w = some (.node l c r) := by
  induction t with
  | nil => intro q p c h; cases h
  | node l x r h1 h2 =>
    intro q p c h
    have h' : (p, c) = (q, x) ∨ (p, c) ∈ l.steps k (q ++ [108]) ∨ (p, c) ∈ r.steps k (q ++ [114]) := by
      cases k <;> simp only [B.steps, List.mem_append, List.mem_singleton] at h
      · rcases h with (h | h) | h
        · exact .inl h
        · exact .inr (.inl h)
        · exact .inr (.inr h)
      · rcases h with (h | h) | h
        · exact .inr (.inl h)
        · exact .inl h
        · exact .inr (.inr h)
      · rcases h with (h | h) | h
        · exact .inr (.inl h)
        · exact .inr (.inr h)
        · exact .inl h
    rcases h' with h | h | h
    · cases h
      exact ⟨[], l, r, by rw [List.append_nil], rfl⟩
    · obtain ⟨w, l', r', e1, e2⟩ := h1 _ _ _ h
      refine ⟨108 :: w, l', r', by rw [e1, List.append_assoc]; rfl, ?_⟩
      show (if (108 : Nat) = 108 then l.at w else _) = _
      rw [if_pos rfl]
      exact e2
    · obtain ⟨w, l', r', e1, e2⟩ := h2 _ _ _ h
      refine ⟨114 :: w, l', r', by rw [e1, List.append_assoc]; rfl, ?_⟩
      show (if (114 : Nat) = 108 then l.at w else if (114 : Nat) = 114 then r.at w else none) = _
      rw [if_neg (by decide), if_pos rfl]
      exact e2
theorem at_cons {u : B} {d : Nat} {w : List Nat} {v : B} (h : u.at (d :: w) = some v) : ∃ l x r, u = .node l x r ∧ ((d = 108 ∧ l.at w = some v) ∨ (d = 114 ∧ r.at w = some v)) := by
  cases u with
  | nil => cases h
  | node l x r =>
    refine ⟨l, x, r, rfl, ?_⟩
    have h' : (if d = 108 then l.at w else if d = 114 then r.at w else none) = some v := h
    by_cases d1 : d = 108
    · rw [if_pos d1] at h'
      exact .inl ⟨d1, h'⟩
    · rw [if_neg d1] at h'
      by_cases d2 : d = 114
      · rw [if_pos d2] at h'
        exact .inr ⟨d2, h'⟩
      · rw [if_neg d2] at h'
        cases h'
def alph : List Nat := (Str.ofString "abcdefghijklmnopqrstuvwxyz").cps.toList
theorem alph_mem {c : Nat} (h : 97 ≤ c ∧ c ≤ 122) : c ∈ alph := by
  have e2 : alph = (List.range 26).map (· + 97) := by decide +kernel
  rw [e2]
  exact List.mem_map.mpr ⟨c - 97, List.mem_range.mpr (by omega), by omega⟩
theorem sel_all {zs : List Nat} {k : Kd} {X : B} {q : List Nat} (h : ∀ c ∈ X.wk k, c ∈ zs) : sel zs (X.steps k q) = X.steps k q := by
  unfold sel
  rw [List.filter_eq_self]
  intro s hs
  refine decide_eq_true (h _ ?_)
  rw [← X.steps_wk k q]
  exact List.mem_map.mpr ⟨s, hs, rfl⟩
theorem wk_mem (k : Kd) (X : B) (c : Nat) : c ∈ X.wk k ↔ c ∈ X.pre := by
  cases k
  · exact Iff.rfl
  · exact X.mid_mem c
  · show c ∈ X.post ↔ c ∈ X.pre
    induction X with
    | nil => exact Iff.rfl
    | node l x r h1 h2 =>
      show c ∈ l.post ++ r.post ++ [x] ↔ c ∈ x :: (l.pre ++ r.pre)
      simp only [List.mem_append, List.mem_cons, List.mem_nil_iff, or_false, h1, h2]
      constructor
      · rintro ((h | h) | h)
        · exact .inr (.inl h)
        · exact .inr (.inr h)
        · exact .inl h
      · rintro (h | h | h)
        · exact .inr h
        · exact .inl (.inl h)
        · exact .inl (.inr h)
theorem steps_all {k : Kd} {X : B} (h : ∀ c ∈ X.pre, 97 ≤ c ∧ c ≤ 122) : sel alph (X.steps k []) = X.steps k [] := sel_all fun c hc => alph_mem (h c ((wk_mem k X c).mp hc))
theorem cnt_alph {X : B} (h : ∀ c ∈ X.pre, 97 ≤ c ∧ c ≤ 122) : X.cnt alph = X.size := cnt_all fun c hc => alph_mem (h c hc)
/-! ### way_at -/
def spWayAt (K : PySem.W.Frag) : Sp := fun vs H Q _ => ∃ (sp cp : Addr) (ss : List V) (ds : List B) (zs : List Nat) (k : Kd) (n : Nat) (X : B) (W : List Nat) (c : Nat), vs = [.ref sp, .ref cp, .str k.str, vn n] ∧ H sp = some (.lst ss) ∧ SpAt H ss ds ∧ ds.length ≤ 300 ∧ H cp = some (.lst (ds.map fun d => vn (d.cnt zs))) ∧ ds[ds.length - 1]? = some X ∧ n < X.cnt zs ∧ (sel zs (X.steps k []))[n]? = some (W, c) ∧
  ∀ H', Same H H' → W.length ≤ 300 → Q (vt W) H'
section
variable {P : Program} {w : World} {K : PySem.W.Frag} {mg : Str → Option Value} {base : Heap} {f : Addr} {fd : FuncData}
theorem ok_wayAt (F : Fun K "way_at" "way_at" s_way_at f fd) (Dis_index : Df P w K mg base 2 "is_index" ["value", "many"] spIndex) (Dway_to : Df P w K mg base 2 "way_to" ["spots", "counts", "kind", "index"] (spWay K)) : FnOk P w K mg base CX0 3 f fd ["spots", "sizes", "kind", "place"] (spWayAt K) := by
  refine F.ok sc_way_at (fun vs H Q E h => ?_) (fun cdv A outer s H vs Q E hr h => ?_)
  · obtain ⟨sp, cp, ss, ds, zs, k, n, X, W, c, rfl, _⟩ := h
    rfl
  obtain ⟨sp, cp, ss, ds, zs, k, n, X, W, c, rfl, es, sa, dl, ec, eX, hn, hW, q⟩ := h
  refine ⟨_, (pss_cons (ps_if (pt_not (pt_val (pe_call Dis_index.ok (hr.mono (by omega)) rfl Dis_index.g Dis_index.kp Dis_index.b .nil pass0 (pa_cons (pv 3) (pa_cons (pe_ix ix_list (pv 1) (pe_un un_neg pe_int) (fun _ _ => rfl)) pa_nil)))))
      (pss_one ps_never) pss_nil)
    (pss_one (ps_ret (pe_call Dway_to.ok (hr.mono (by omega)) rfl Dway_to.g Dway_to.kp Dway_to.b .nil pass0 (pa_cons (pv 0) (pa_cons (pv 1) (pa_cons (pv 2) (pa_cons (pv 3) pa_nil)))))))), ?_⟩
  refine ⟨_, rfl, _, rfl, _, rfl, cp, _, _, _, rfl, rfl, SqL.of ec, at_last (v := vn (X.cnt zs)) (by rw [List.length_map, List.getElem?_map, eX]; rfl), ?_⟩
  refine ⟨_, _, rfl, ?_⟩
  rw [decide_eq_true (by omega : (0 : Int) ≤ (n : Int)), decide_eq_true (by omega : (n : Int) < (X.cnt zs : Int))]
  refine ⟨_, rfl, iteF ?_⟩
  exact ⟨_, rfl, _, rfl, _, rfl, _, rfl, sp, cp, ss, ds, zs, k, n, X, W, c, rfl, es, sa, dl, ec, eX, hW, q⟩
end
/-! ### label_on, label_in -/
def spLabOn : Sp := fun vs H Q _ => ∃ (sp : Addr) (ss : List V) (ds : List B) (X : B) (W : List Nat) (c : Nat) (l r : B), vs = [.ref sp, vt W] ∧ H sp = some (.lst ss) ∧ SpAt H ss ds ∧ ds.length ≤ 300 ∧ ds[ds.length - 1]? = some X ∧ X.at W = some (.node l c r) ∧ Q (.str (ch c)) H
section
variable {P : Program} {w : World} {K : PySem.W.Frag} {mg : Str → Option Value} {base : Heap} {f : Addr} {fd : FuncData}
theorem ok_labOn {k : Nat} (F : Fun K "label_on" "label_on" s_label_on f fd) (M : Mgs mg) : FnOk P w K mg base CX0 (k + 1) f fd ["spots", "way"] spLabOn := by
  refine F.ok sc_label_on (fun vs H Q E h => ?_) (fun cdv A outer s H vs Q E hr h => ?_)
  · obtain ⟨sp, ss, ds, X, W, c, l, r, rfl, _⟩ := h
    rfl
  obtain ⟨sp, ss, ds, X, W, c, l, r, rfl, es, sa, dl, eX, hW, q⟩ := h
  refine ⟨_, (pss_cons (ps_set (i := 2) sc_label_on.nd rfl (.inl rfl) (pe_op op_sub (pe_callB call_len_seq rfl M.len PySem.boot_len (pa_cons (pv 0) pa_nil)) pe_int))
    (pss_cons (ps_for PassesOwn.never rfl (pi_str (pv 1)) (pg_name (i := 3) sc_label_on.nd rfl (.inl rfl))
      (pss_cons (ps_asg (pe_ix ix_list (pv 0) (pv 2) (fun _ _ => rfl)) (pg_tup rfl (pgs_cons (pg_name (i := 4) sc_label_on.nd rfl (.inl rfl)) (pgs_cons (pg_name (i := 5) sc_label_on.nd rfl (.inl rfl)) (pgs_cons (pg_name (i := 6) sc_label_on.nd rfl (.inl rfl)) pgs_nil)))))
    (pss_one (ps_set (i := 2) sc_label_on.nd rfl (.inl rfl) (pe_ifExp (pt_cmpR op_eq (pv 3) pe_str (nomark _)) (pv 4) (pv 6))))))
    (pss_one (ps_ret (pe_ix ix_tup (pe_ix ix_list (pv 0) (pv 2) (fun _ _ => rfl)) pe_int (fun _ _ => rfl)))))), ?_⟩
  have sl := sa.len
  have dx := (List.getElem?_eq_some_iff.mp eX).1
  refine ⟨_, rfl, sp, ss, rfl, .inl (SqL.of es), _, _, rfl, rfl, ?_⟩
  have ei : ((ss.length : Nat) : Int) - 1 = ((ds.length - 1 : Nat) : Int) := by omega
  have e1 : vn (ds.length - 1) = V.int (((ss.length : Nat) : Int) - 1) := congrArg V.int ei.symm
  refine ⟨_, rfl, _, rfl, ?_⟩
  refine for_text (x := tx W) (fun j σ H' => H' = H ∧ ∃ (at0 : Nat) (u : B) (o3 o4 o5 o6 : Option V), σ = [some (.ref sp), some (vt W), some (vn at0), o3, o4, o5, o6] ∧ ds[at0]? = some u ∧ u.at (W.drop j) = some (.node l c r))
    ⟨rfl, ds.length - 1, X, none, none, none, none, by rw [e1]; rfl, eX, hW⟩ (fun j d σ H1 hd hp => ?_) (fun σ H1 hp => ?_)
  · obtain ⟨rfl, at0, u, o3, o4, o5, o6, rfl, eu, hu⟩ := hp
    have hd' : W[j]? = some d := hd
    have hj := (List.getElem?_eq_some_iff.mp hd').1
    rw [List.drop_eq_getElem_cons hj, (List.getElem?_eq_some_iff.mp hd').2] at hu
    obtain ⟨l', x', r', rfl, hs⟩ := at_cons hu
    obtain ⟨a, i, i', h1, h2, hi, hi', el, er⟩ := sa.node eu
    refine ⟨_, rfl, _, rfl, sp, _, _, _, rfl, rfl, SqL.of es, atI_nat h1, a, _, rfl, SqT.of h2, rfl, _, _, rfl, _, _, rfl, _, _, rfl, rfl, ?_⟩
    refine ⟨_, rfl, rfl, _, rfl, ?_⟩
    rcases hs with ⟨rfl, hs⟩ | ⟨rfl, hs⟩
    · refine iteS (by rw [str_l']; rfl) ?_
      exact ⟨_, rfl, rfl, i, l', _, _, _, _, rfl, el, hs⟩
    · refine iteR (by rw [str_l']; exact fun z => by cases tx_inj (a := [114]) z) ?_
      exact ⟨_, rfl, rfl, i', r', _, _, _, _, rfl, er, hs⟩
  · obtain ⟨rfl, at0, u, o3, o4, o5, o6, rfl, eu, hu⟩ := hp
    rw [tx_cps, List.drop_eq_nil_of_le (Nat.le_refl _), B.at_nil] at hu
    cases hu
    obtain ⟨a, i, i', h1, h2, hi, hi', el, er⟩ := sa.node eu
    exact ⟨_, rfl, _, rfl, sp, _, _, _, rfl, rfl, SqL.of es, atI_nat h1, a, _, 1, _, rfl, rfl, SqT.of h2, atI_nat (j := 1) rfl, q⟩
/-- what stands at a place of a walk -/
def spLabIn : Sp := fun vs H Q _ => ∃ (p : Addr) (us : List V) (es : List En) (X : B) (k : Kd) (n c : Nat), vs = [.ref p, .str k.str, vn n] ∧ H p = some (.tup us) ∧ EnAt H us es ∧ GoodN 12 es ∧ 1 ≤ es.length ∧ es.length ≤ 20 ∧ (fulls es)[es.length - 1]? = some X ∧ (X.wk k)[n]? = some c ∧
  ∀ H', Same H H' → Q (.str (ch c)) H'
theorem ok_labIn {tL : Tok} (F : Fun K "label_in" "label_in" s_label_in f fd) (mLET : mg "LETTERS" = some (.str "abcdefghijklmnopqrstuvwxyz" tL)) (Dspots_of : Df P w K mg base 31 "spots_of" ["nest"] (spSpots K)) (Dcounts_in : Df P w K mg base 1 "counts_in" ["spots", "letters"] spCounts)
    (Dlabel_on : Df P w K mg base 1 "label_on" ["spots", "way"] spLabOn) (Dway_at : Df P w K mg base 3 "way_at" ["spots", "sizes", "kind", "place"] (spWayAt K)) : FnOk P w K mg base CX0 32 f fd ["nest", "kind", "place"] spLabIn := by
  refine F.ok sc_label_in (fun vs H Q E h => ?_) (fun cdv A outer s H vs Q E hr h => ?_)
  · obtain ⟨p, us, es, X, k, n, c, rfl, _⟩ := h
    rfl
  obtain ⟨p, us, es, X, k, n, c, rfl, ep, en, gn, e1, e20, eX, hc, q⟩ := h
  obtain ⟨xsz, xlt⟩ := full_size gn e20 eX
  refine ⟨_, (pss_cons (ps_set (i := 3) sc_label_in.nd rfl (.inl rfl) (pe_call Dspots_of.ok (hr.mono (by omega)) rfl Dspots_of.g Dspots_of.kp Dspots_of.b .nil pass0 (pa_cons (pv 0) pa_nil)))
    (pss_cons (ps_set (i := 4) sc_label_in.nd rfl (.inl rfl) (pe_call Dcounts_in.ok (hr.mono (by omega)) rfl Dcounts_in.g Dcounts_in.kp Dcounts_in.b .nil pass0 (pa_cons (pv 3) (pa_cons (pe_glob (v := .str _) rfl mLET ⟨_, rfl⟩) pa_nil))))
    (pss_one (ps_ret (pe_call Dlabel_on.ok (hr.mono (by omega)) rfl Dlabel_on.g Dlabel_on.kp Dlabel_on.b .nil pass0 (pa_cons (pv 3) (pa_cons (pe_call Dway_at.ok (hr.mono (by omega)) rfl Dway_at.g Dway_at.kp Dway_at.b .nil pass0 (pa_cons (pv 3) (pa_cons (pv 4) (pa_cons (pv 1) (pa_cons (pv 2) pa_nil))))) pa_nil))))))), ?_⟩
  refine ⟨_, rfl, p, us, es, rfl, ep, en, gn, e1, e20, fun sp ss ds H1 s1 nsp es1 sa dl last => ?_⟩
  refine ⟨_, rfl, sp, ss, ds, alph, rfl, es1, sa, dl, fun p2 H2 s2 e2 => ?_⟩
  have hd : ds[ds.length - 1]? = some X := last.trans eX
  rw [← X.steps_wk k [], List.getElem?_map] at hc
  obtain ⟨⟨W, c'⟩, hW, hc'⟩ := Option.map_eq_some_iff.mp hc
  have hc2 : c' = c := hc'
  subst hc2
  have hn : n < X.size := by
    have := (List.getElem?_eq_some_iff.mp hW).1
    rw [X.steps_len] at this
    exact this
  have sa2 := sa.keep (Tw.Same.keepT s2)
  refine ⟨_, rfl, _, rfl, _, rfl, _, rfl, _, rfl, sp, p2, ss, ds, alph, k, n, X, W, c', rfl, s2 _ _ es1, sa2, dl, e2, hd, by rw [cnt_alph xlt]; exact hn, by rw [steps_all xlt]; exact hW, fun H3 s3 wl => ?_⟩
  obtain ⟨w', l', r', e3, e4⟩ := steps_at k X [] W c' (List.mem_of_getElem? hW)
  rw [List.nil_append] at e3
  subst e3
  exact ⟨sp, ss, ds, X, W, c', l', r', rfl, s3 _ _ (s2 _ _ es1), sa2.keep (Tw.Same.keepT s3), dl, hd, e4, q H3 (s1.trans (s2.trans s3))⟩
end
/-! ### place_on, other_place -/
theorem at_signs : ∀ (t : B) (W : List Nat) {v : B}, t.at W = some v → ∀ d ∈ W, d = 108 ∨ d = 114
  | _, [], _, _, d, hd => by cases hd
  | t, e :: W, v, h, d, hd => by
    obtain ⟨l, x, r, rfl, hs⟩ := at_cons h
    rcases List.mem_cons.mp hd with rfl | hd
    · rcases hs with ⟨z, _⟩ | ⟨z, _⟩
      · exact .inl z
      · exact .inr z
    · rcases hs with ⟨_, z⟩ | ⟨_, z⟩
      · exact at_signs l W z d hd
      · exact at_signs r W z d hd
def stepsOf (W : List Nat) : List Nat := W ++ [0]
theorem turn_mem (k : Kd) {n : Nat} (h : isT n) : n ∈ k.turns := by
  unfold isT at h
  cases k <;> simp only [Kd.turns, List.mem_cons, List.mem_nil_iff, or_false] <;> omega
theorem tw_eq {a b : Nat} (h : tw a = tw b) : a = b := by
  unfold tw at h
  by_cases a0 : a = 0
  · by_cases b0 : b = 0
    · omega
    · rw [if_pos a0, if_neg b0] at h; cases h
  · by_cases b0 : b = 0
    · rw [if_neg a0, if_pos b0] at h; cases h
    · rw [if_neg a0, if_neg b0] at h
      exact (List.cons.inj h).1
def spPlaceOn : Sp := fun vs H Q _ => ∃ (sp cp : Addr) (ss : List V) (ds : List B) (zs : List Nat) (k : Kd) (X : B) (W : List Nat) (c : Nat) (l r : B), vs = [.ref sp, .ref cp, .str k.str, vt W] ∧ H sp = some (.lst ss) ∧ SpAt H ss ds ∧ ds.length ≤ 300 ∧ H cp = some (.lst (ds.map fun d => vn (d.cnt zs))) ∧ ds[ds.length - 1]? = some X ∧ X.at W = some (.node l c r) ∧ c ∈ zs ∧ W.length ≤ 300 ∧
  ∀ (m : Nat) (H' : Hp), Same H H' → (sel zs (X.steps k []))[m]? = some (W, c) → Q (vn m) H'
theorem seg_side {k : Kd} {zs : List Nat} {l r : B} {x : Nat} {q : List Nat} {n : Nat} (h0 : n ≠ 0) (h : isT n) : seg k zs l x r q n = sel zs ((sideB (.node l x r) l r n).steps k (q ++ [n])) := by
  unfold seg sideB
  rw [if_neg h0, if_neg h0]
  by_cases h1 : n = 108
  · rw [if_pos h1, if_pos h1, h1]
  · have h2 : n = 114 := by unfold isT at h; omega
    rw [if_neg h1, if_neg h1, h2]
section
variable {P : Program} {w : World} {K : PySem.W.Frag} {mg : Str → Option Value} {base : Heap} {f : Addr} {fd : FuncData}
theorem ok_placeOn {aT : Addr} (F : Fun K "place_on" "place_on" s_place_on f fd) (M : Mgs mg) (T : Turns K w mg aT) (Dturned : Df P w K mg base 1 "turned" ["spots", "counts", "at", "turn"] spTurned) : FnOk P w K mg base CX0 2 f fd ["spots", "sizes", "kind", "way"] spPlaceOn := by
  have mT := T.g
  refine F.ok sc_place_on (fun vs H Q E h => ?_) (fun cdv A outer s H vs Q E hr h => ?_)
  · obtain ⟨sp, cp, ss, ds, zs, k, X, W, c, l, r, rfl, _⟩ := h
    rfl
  obtain ⟨sp, cp, ss, ds, zs, k, X, W, c, lX, rX, rfl, es, sa, dl, ec, eX, hW, hc, wl, q⟩ := h
  refine ⟨_, (pss_cons (ps_set (i := 4) sc_place_on.nd rfl (.inl rfl) pe_int)
    (pss_cons (ps_set (i := 5) sc_place_on.nd rfl (.inl rfl) (pe_op op_sub (pe_callB call_len_seq rfl M.len PySem.boot_len (pa_cons (pv 0) pa_nil)) pe_int))
    (pss_cons (ps_for PassesOwn.never rfl (pi_list (pe_lst (pa_starS rfl (pv 3) (pa_cons pe_str pa_nil)))) (pg_name (i := 6) sc_place_on.nd rfl (.inl rfl))
      (pss_cons (ps_for PassesOwn.never rfl (pi_tup (pe_ix ix_kdict (pe_glob (v := .ref _) rfl mT rfl) (pv 2) (fun _ _ => rfl))) (pg_name (i := 7) sc_place_on.nd rfl (.inl rfl))
      (pss_cons (ps_asg (pe_call Dturned.ok (hr.mono (by omega)) rfl Dturned.g Dturned.kp Dturned.b .nil pass0 (pa_cons (pv 0) (pa_cons (pv 1) (pa_cons (pv 5) (pa_cons (pv 7) pa_nil))))) (pg_tup rfl (pgs_cons (pg_name (i := 8) sc_place_on.nd rfl (.inl rfl)) (pgs_cons (pg_name (i := 9) sc_place_on.nd rfl (.inl rfl)) pgs_nil))))
    (pss_cons (ps_if (pt_cmpR op_eq (pv 7) (pv 6) (nomark _))
      (pss_one ps_break) pss_nil)
    (pss_one (ps_aug (i := 4) sc_place_on.nd rfl (.inl rfl) (pv 9) ip_add)))))
    (pss_one (ps_set (i := 5) sc_place_on.nd rfl (.inl rfl) (pv 8)))))
    (pss_one (ps_ret (pv 4)))))), ?_⟩
  have sl := sa.len
  have dx := (List.getElem?_eq_some_iff.mp eX).1
  refine ⟨_, rfl, sp, ss, rfl, .inl (SqL.of es), _, _, rfl, rfl, ?_⟩
  have ei : ((ss.length : Nat) : Int) - 1 = ((ds.length - 1 : Nat) : Int) := by omega
  have e1 : vn (ds.length - 1) = V.int (((ss.length : Nat) : Int) - 1) := congrArg V.int ei.symm
  obtain ⟨bT, kd, sq⟩ := T.d k
  refine ⟨_, rfl, _, rfl, (by rw [tx_size]; omega), ?_, fun pl npl => ?_⟩
  · rw [List.length_append, List.length_map, tx_cps]
    exact small (by show W.length + 1 ≤ 1000; omega)
  have eL : ((tx W).cps.toList.map fun c => V.str ⟨#[c]⟩) ++ [V.str (Str.ofString "")] = (stepsOf W).map fun n => vt (tw n) := by
    unfold stepsOf
    rw [List.map_append, tx_cps, str_0]
    have h0 : ∀ d ∈ W, d ≠ 0 := fun d hd z => by
      have := at_signs X W hW d hd
      omega
    have e2 : (W.map fun c => V.str ⟨#[c]⟩) = W.map fun n => vt (tw n) := by
      refine List.map_congr_left fun d hd => ?_
      show V.str (ch d) = V.str (tx (tw d))
      rw [tw_ne (h0 d hd), tx_one]
    rw [e2]
    rfl
  rw [eL] at *
  have k1 := same_new npl (.lst ((stepsOf W).map fun n => vt (tw n)))
  have epl := upd_same (H := H) (a := pl) (o := .lst ((stepsOf W).map fun n => vt (tw n)))
  generalize upd H pl (.lst ((stepsOf W).map fun n => vt (tw n))) = H1 at k1 epl ⊢
  have sW : (stepsOf W).length = W.length + 1 := by unfold stepsOf; rw [List.length_append]; rfl
  refine ⟨pl, rfl, ⟨_, SqL.of epl⟩, ?_⟩
  refine for_list (K := K) (a := pl) (xs := (stepsOf W).map fun n => vt (tw n)) (fun j σ H' => Same H1 H' ∧ ∃ (place at0 : Nat) (o6 o7 o8 o9 : Option V), σ = [some (.ref sp), some (.ref cp), some (.str k.str), some (vt W), some (vn place), some (vn at0), o6, o7, o8, o9] ∧
      ((j ≤ W.length ∧ ∃ u, ds[at0]? = some u ∧ u.at (W.drop j) = some (.node lX c rX) ∧ ∀ m, (sel zs (u.steps k (W.take j)))[m]? = some (W, c) → (sel zs (X.steps k []))[place + m]? = some (W, c)) ∨ (j = W.length + 1 ∧ (sel zs (X.steps k []))[place]? = some (W, c))))
    ⟨Same.refl _, 0, ds.length - 1, none, none, none, none, by rw [e1]; rfl, .inl ⟨Nat.zero_le _, X, eX, hW, fun m hm => by rw [Nat.zero_add]; exact hm⟩⟩ (fun j σ H' _ hp => SqL.of (hp.1 _ _ epl)) (fun j v σ H2 hv hp => ?_) (fun σ H2 hp => ?_)
  · obtain ⟨s2, place, at0, o6, o7, o8, o9, rfl, hp⟩ := hp
    rw [List.getElem?_map] at hv
    obtain ⟨d, hd, rfl⟩ := Option.map_eq_some_iff.mp hv
    have hj := (List.getElem?_eq_some_iff.mp hd).1
    rw [sW] at hj
    obtain ⟨hjW, u, eu, hu, hpl⟩ := hp.resolve_right fun z => absurd z.1 (by omega)
    have s02 := k1.trans s2
    -- what is to be found here
    obtain ⟨l, x, r, rfl, hdT, hend⟩ : ∃ l x r, u = .node l x r ∧ isT d ∧ ((d = 0 ∧ j = W.length ∧ x = c) ∨ (d ≠ 0 ∧ j < W.length ∧ W[j]? = some d ∧ (sideB (.node l x r) l r d).at (W.drop (j + 1)) = some (.node lX c rX))) := by
      by_cases hlt : j < W.length
      · have hd' : W[j]? = some d := by
          unfold stepsOf at hd
          rw [List.getElem?_append_left hlt] at hd
          exact hd
        rw [List.drop_eq_getElem_cons hlt, (List.getElem?_eq_some_iff.mp hd').2] at hu
        obtain ⟨l, x, r, rfl, hs⟩ := at_cons hu
        rcases hs with ⟨rfl, hs⟩ | ⟨rfl, hs⟩
        · exact ⟨l, x, r, rfl, .inr (.inl rfl), .inr ⟨by decide, hlt, hd', hs⟩⟩
        · exact ⟨l, x, r, rfl, .inr (.inr rfl), .inr ⟨by decide, hlt, hd', hs⟩⟩
      · have hjl : j = W.length := by omega
        subst hjl
        unfold stepsOf at hd
        rw [List.getElem?_append_right (Nat.le_refl _), Nat.sub_self] at hd
        cases hd
        rw [List.drop_eq_nil_of_le (Nat.le_refl _), B.at_nil] at hu
        cases hu
        exact ⟨lX, c, rX, rfl, .inl rfl, .inl ⟨rfl, rfl, rfl⟩⟩
    rw [sel_node] at hpl
    refine ⟨_, rfl, aT, k.str, _, rfl, rfl, kd, bT, rfl, ⟨_, sq H2⟩, ?_⟩
    refine for_tup (K := K) (a := bT) (xs := k.turns.map fun n => vt (tw n)) (fun t σ H' => Same H1 H' ∧ ∃ (place : Nat) (o7 o8 o9 : Option V), σ = [some (.ref sp), some (.ref cp), some (.str k.str), some (vt W), some (vn place), some (vn at0), some (vt (tw d)), o7, o8, o9] ∧ d ∈ k.turns.drop t ∧
        ∀ m, ((k.turns.drop t).flatMap (seg k zs l x r (W.take j)))[m]? = some (W, c) → (sel zs (X.steps k []))[place + m]? = some (W, c))
      ⟨s2, place, o7, o8, o9, rfl, turn_mem k hdT, hpl⟩ (fun _ _ H' _ _ => sq H') (fun t v σ H3 hv hp => ?_) (fun σ H3 hp => ?_)
    · obtain ⟨s3, place, o7, o8, o9, rfl, hdt, hp3⟩ := hp
      rw [List.getElem?_map] at hv
      obtain ⟨n, hn, rfl⟩ := Option.map_eq_some_iff.mp hv
      have hnT := turns_isT k n (List.mem_of_getElem? hn)
      have ht := (List.getElem?_eq_some_iff.mp hn).1
      rw [List.drop_eq_getElem_cons ht, (List.getElem?_eq_some_iff.mp hn).2] at hdt hp3
      rw [List.flatMap_cons] at hp3
      have s03 := k1.trans s3
      refine ⟨_, rfl, _, rfl, _, rfl, _, rfl, sp, cp, ss, ds, zs, at0, n, x, l, r, rfl, s03 _ _ es, sa.keep (Tw.Same.keepT s03), s03 _ _ ec, eu, hnT, fun p i H4 s4 ep ei hlt => ?_⟩
      refine ⟨p, _, rfl, SqT.of ep, rfl, _, _, rfl, _, _, rfl, rfl, ?_⟩
      refine ⟨_, rfl, _, rfl, rfl, _, rfl, ?_⟩
      by_cases hnd : n = d
      · subst hnd
        refine iteS rfl ?_
        refine ⟨_, rfl, ?_⟩
        refine ⟨s3.trans s4, place, i, _, _, _, _, rfl, ?_⟩
        rcases hend with ⟨rfl, rfl, rfl⟩ | ⟨d0, hlt', hWd, hat⟩
        · refine .inr ⟨rfl, ?_⟩
          have := hp3 0 (by
            rw [List.getElem?_append_left]
            · show (sel zs [(W.take W.length, x)])[0]? = some (W, x)
              rw [sel_one, if_pos hc, List.take_length]
              rfl
            · rw [seg_len]
              show 0 < (if x ∈ zs then 1 else 0)
              rw [if_pos hc]
              decide)
          exact this
        · refine .inl ⟨hlt', _, ei, hat, fun m hm => hp3 m ?_⟩
          rw [take_next hWd, ← seg_side d0 hnT] at hm
          rw [List.getElem?_append_left (List.getElem?_eq_some_iff.mp hm).1]
          exact hm
      · refine iteR (fun z => hnd (tw_eq (tx_inj z))) ?_
        refine ⟨_, rfl, _, rfl, _, _, rfl, rfl, ?_⟩
        have e' : vn (place + segN zs l x r n) = V.int ((place : Int) + (segN zs l x r n : Int)) := congrArg V.int (by omega)
        refine ⟨s3.trans s4, place + segN zs l x r n, _, _, _, by rw [e']; rfl, ?_, fun m hm => ?_⟩
        · rcases List.mem_cons.mp hdt with z | z
          · exact absurd z.symm hnd
          · exact z
        · have := hp3 (segN zs l x r n + m) (by
            rw [List.getElem?_append_right (by rw [seg_len]; omega), seg_len, Nat.add_sub_cancel_left]
            exact hm)
          rw [Nat.add_assoc]
          exact this
    · obtain ⟨s3, place, o7, o8, o9, rfl, hdt, _⟩ := hp
      rw [List.length_map, List.drop_eq_nil_of_le (Nat.le_refl _)] at hdt
      cases hdt
  · obtain ⟨s2, place, at0, o6, o7, o8, o9, rfl, hp⟩ := hp
    rw [List.length_map, sW] at hp
    rcases hp with ⟨z, _⟩ | ⟨_, h⟩
    · exact absurd z (by omega)
    · exact ⟨_, rfl, q place H2 (k1.trans s2) h⟩
end
/-! ### other_place -/
section
variable {P : Program} {w : World} {K : PySem.W.Frag} {mg : Str → Option Value} {base : Heap} {f : Addr} {fd : FuncData}
def spOther : Sp := fun vs H Q _ => ∃ (p : Addr) (us : List V) (es : List En) (X : B) (k k2 : Kd) (n : Nat) (W : List Nat) (c : Nat), vs = [.ref p, .str k.str, vn n, .str k2.str] ∧ H p = some (.tup us) ∧ EnAt H us es ∧ GoodN 12 es ∧ 1 ≤ es.length ∧ es.length ≤ 20 ∧ (fulls es)[es.length - 1]? = some X ∧ (X.steps k [])[n]? = some (W, c) ∧
  ∀ (m : Nat) (H' : Hp), Same H H' → (X.steps k2 [])[m]? = some (W, c) → Q (vn m) H'
theorem ok_other {tL : Tok} (F : Fun K "other_place" "other_place" s_other_place f fd) (mLET : mg "LETTERS" = some (.str "abcdefghijklmnopqrstuvwxyz" tL)) (Dspots_of : Df P w K mg base 31 "spots_of" ["nest"] (spSpots K)) (Dcounts_in : Df P w K mg base 1 "counts_in" ["spots", "letters"] spCounts)
    (Dplace_on : Df P w K mg base 2 "place_on" ["spots", "sizes", "kind", "way"] spPlaceOn) (Dway_at : Df P w K mg base 3 "way_at" ["spots", "sizes", "kind", "place"] (spWayAt K)) : FnOk P w K mg base CX0 32 f fd ["nest", "kind", "place", "other"] spOther := by
  refine F.ok sc_other_place (fun vs H Q E h => ?_) (fun cdv A outer s H vs Q E hr h => ?_)
  · obtain ⟨p, us, es, X, k, k2, n, W, c, rfl, _⟩ := h
    rfl
  obtain ⟨p, us, es, X, k, k2, n, W, c, rfl, ep, en, gn, e1, e20, eX, hW, q⟩ := h
  obtain ⟨xsz, xlt⟩ := full_size gn e20 eX
  refine ⟨_, (pss_cons (ps_set (i := 4) sc_other_place.nd rfl (.inl rfl) (pe_call Dspots_of.ok (hr.mono (by omega)) rfl Dspots_of.g Dspots_of.kp Dspots_of.b .nil pass0 (pa_cons (pv 0) pa_nil)))
    (pss_cons (ps_set (i := 5) sc_other_place.nd rfl (.inl rfl) (pe_call Dcounts_in.ok (hr.mono (by omega)) rfl Dcounts_in.g Dcounts_in.kp Dcounts_in.b .nil pass0 (pa_cons (pv 4) (pa_cons (pe_glob (v := .str _) rfl mLET ⟨_, rfl⟩) pa_nil))))
    (pss_one (ps_ret (pe_call Dplace_on.ok (hr.mono (by omega)) rfl Dplace_on.g Dplace_on.kp Dplace_on.b .nil pass0 (pa_cons (pv 4) (pa_cons (pv 5) (pa_cons (pv 3) (pa_cons (pe_call Dway_at.ok (hr.mono (by omega)) rfl Dway_at.g Dway_at.kp Dway_at.b .nil pass0 (pa_cons (pv 4) (pa_cons (pv 5) (pa_cons (pv 1) (pa_cons (pv 2) pa_nil))))) pa_nil))))))))), ?_⟩
  refine ⟨_, rfl, p, us, es, rfl, ep, en, gn, e1, e20, fun sp ss ds H1 s1 nsp es1 sa dl last => ?_⟩
  refine ⟨_, rfl, sp, ss, ds, alph, rfl, es1, sa, dl, fun p2 H2 s2 e2 => ?_⟩
  have hd : ds[ds.length - 1]? = some X := last.trans eX
  have hn : n < X.size := by
    have := (List.getElem?_eq_some_iff.mp hW).1
    rw [X.steps_len] at this
    exact this
  have sa2 := sa.keep (Tw.Same.keepT s2)
  refine ⟨_, rfl, _, rfl, _, rfl, _, rfl, _, rfl, _, rfl, _, rfl, sp, p2, ss, ds, alph, k, n, X, W, c, rfl, s2 _ _ es1, sa2, dl, e2, hd, by rw [cnt_alph xlt]; exact hn, by rw [steps_all xlt]; exact hW, fun H3 s3 wl => ?_⟩
  obtain ⟨w', l', r', e3, e4⟩ := steps_at k X [] W c (List.mem_of_getElem? hW)
  rw [List.nil_append] at e3
  subst e3
  have hc : c ∈ alph := alph_mem (xlt c ((wk_mem k X c).mp (by rw [← X.steps_wk k []]; exact List.mem_map.mpr ⟨(W, c), List.mem_of_getElem? hW, rfl⟩)))
  exact ⟨sp, p2, ss, ds, alph, k2, X, W, c, l', r', rfl, s3 _ _ (s2 _ _ es1), sa2.keep (Tw.Same.keepT s3), dl, s3 _ _ e2, hd, e4, hc, wl, fun m H4 s4 hm => q m H4 (s1.trans (s2.trans (s3.trans s4))) (by rw [steps_all xlt] at hm; exact hm)⟩
end
/-! ### walks of the same tree -/
theorem steps_perm (k : Kd) (t : B) : ∀ q : List Nat, (t.steps k q).Perm (t.steps .first q) := by
  induction t with
  | nil => intro q; exact .refl _
  | node l x r h1 h2 =>
    intro q
    have a := h1 (q ++ [108])
    have b := h2 (q ++ [114])
    cases k
    · exact .refl _
    · show (l.steps .between (q ++ [108]) ++ [(q, x)] ++ r.steps .between (q ++ [114])).Perm ([(q, x)] ++ l.steps .first (q ++ [108]) ++ r.steps .first (q ++ [114]))
      exact List.Perm.append ((List.perm_append_comm).trans (List.Perm.append (.refl _) a)) b
    · show (l.steps .last (q ++ [108]) ++ r.steps .last (q ++ [114]) ++ [(q, x)]).Perm ([(q, x)] ++ l.steps .first (q ++ [108]) ++ r.steps .first (q ++ [114]))
      refine (List.perm_append_comm).trans ?_
      rw [List.append_assoc]
      exact List.Perm.append (.refl _) (List.Perm.append a b)
def B.paths (k : Kd) (t : B) : List (List Nat) := (t.steps k []).map (·.1)
theorem paths_nodup (k : Kd) (t : B) : (t.paths k).Nodup := ((steps_perm k t []).map _).nodup_iff.mpr (steps_nodup t [])
theorem paths_len (k : Kd) (t : B) : (t.paths k).length = t.size := by unfold B.paths; rw [List.length_map, B.steps_len]
theorem nodup_get {α : Type} : ∀ {l : List α}, l.Nodup → ∀ {i j : Nat} {a : α}, l[i]? = some a → l[j]? = some a → i = j
  | [], _, _, _, _, h, _ => by simp at h
  | x :: l, nd, i, j, a, hi, hj => by
    rw [List.nodup_cons] at nd
    cases i with
    | zero =>
      cases j with
      | zero => rfl
      | succ j =>
        cases hi
        exact absurd (List.mem_of_getElem? (show l[j]? = some x from hj)) nd.1
    | succ i =>
      cases j with
      | zero =>
        cases hj
        exact absurd (List.mem_of_getElem? (show l[i]? = some x from hi)) nd.1
      | succ j => exact congrArg (· + 1) (nodup_get nd.2 hi hj)
theorem path_get {k : Kd} {t : B} {m : Nat} {W : List Nat} {c : Nat} (h : (t.steps k [])[m]? = some (W, c)) : (t.paths k)[m]? = some W := by
  unfold B.paths
  rw [List.getElem?_map, h]
  rfl
theorem steps_other {k : Kd} (k2 : Kd) {t : B} {n : Nat} {W : List Nat} {c : Nat} (h : (t.steps k [])[n]? = some (W, c)) : ∃ m : Nat, (t.steps k2 [])[m]? = some (W, c) := by
  have m1 := (steps_perm k t []).mem_iff.mp (List.mem_of_getElem? h)
  exact List.getElem?_of_mem ((steps_perm k2 t []).mem_iff.mpr m1)
/-- the places ms in the walk k2 of the nodes of the walk k -/
def Oth (X : B) (k k2 : Kd) (ms : List Nat) : Prop := ∀ (n m : Nat), ms[n]? = some m → ∃ W c, (X.steps k [])[n]? = some (W, c) ∧ (X.steps k2 [])[m]? = some (W, c)
theorem Oth.eq {X : B} {k k2 : Kd} {ms fs : List Nat} (h : Oth X k k2 ms) (g : Oth X k k2 fs) (hl : ms.length = fs.length) : ms = fs := by
  apply List.ext_getElem?
  intro n
  by_cases hn : n < ms.length
  · have e1 := List.getElem?_eq_getElem hn
    have e2 := List.getElem?_eq_getElem (show n < fs.length by omega)
    obtain ⟨W, c, a1, a2⟩ := h n _ e1
    obtain ⟨W', c', b1, b2⟩ := g n _ e2
    rw [a1] at b1
    cases b1
    rw [e1, e2, nodup_get (paths_nodup k2 X) (path_get a2) (path_get b2)]
  · rw [List.getElem?_eq_none (by omega), List.getElem?_eq_none (by omega)]
theorem Oth.snoc {X : B} {k k2 : Kd} {ms : List Nat} (h : Oth X k k2 ms) {m : Nat} {W : List Nat} {c : Nat} (h1 : (X.steps k [])[ms.length]? = some (W, c)) (h2 : (X.steps k2 [])[m]? = some (W, c)) : Oth X k k2 (ms ++ [m]) := by
  intro n m' hn
  rw [List.getElem?_append] at hn
  split at hn
  · exact h n m' hn
  · rename_i hlt
    have h0 : n = ms.length := by
      have := (List.getElem?_eq_some_iff.mp hn).1
      rw [List.length_cons, List.length_nil] at this
      omega
    subst h0
    rw [Nat.sub_self] at hn
    cases hn
    exact ⟨W, c, h1, h2⟩
theorem Oth.lt {X : B} {k k2 : Kd} {ms : List Nat} (h : Oth X k k2 ms) : ∀ m ∈ ms, m < X.size := fun m hm => by
  obtain ⟨n, hn⟩ := List.getElem?_of_mem hm
  obtain ⟨W, c, _, a2⟩ := h n m hn
  have := (List.getElem?_eq_some_iff.mp a2).1
  rw [B.steps_len] at this
  exact this
theorem eqV_vt (a b : List Nat) : eqV (vt a) (vt b) = decide (a = b) := by
  show (tx a == tx b) = _
  by_cases h : a = b
  · rw [decide_eq_true h, h]
    simp
  · rw [decide_eq_false h]
    simp only [beq_eq_false_iff_ne, ne_eq]
    exact fun z => h (tx_inj z)
theorem idx_at {X : B} {k2 : Kd} {m : Nat} {W : List Nat} {c : Nat} (h2 : (X.steps k2 [])[m]? = some (W, c)) : ((X.paths k2).map vt)[m]? = some (vt W) := by
  rw [List.getElem?_map, path_get h2]
  rfl
theorem idx_eq (W : List Nat) : eqV (vt W) (vt W) = true := by
  rw [eqV_vt]
  exact decide_eq_true rfl
theorem idx_no {X : B} {k2 : Kd} {m : Nat} {W : List Nat} {c : Nat} (h2 : (X.steps k2 [])[m]? = some (W, c)) : ∀ (m' : Nat) (z' : V), m' < m → ((X.paths k2).map vt)[m']? = some z' → eqV z' (vt W) = false := fun m' z' hlt hz => by
  rw [List.getElem?_map] at hz
  obtain ⟨W', hW', rfl⟩ := Option.map_eq_some_iff.mp hz
  rw [eqV_vt]
  refine decide_eq_false fun z => ?_
  subst z
  have := nodup_get (paths_nodup k2 X) hW' (path_get h2)
  omega
theorem full_pos {es : List En} (g : GoodN 12 es) (h1 : 1 ≤ es.length) {X : B} (e : (fulls es)[es.length - 1]? = some X) : 1 ≤ X.size := by
  have hk : es.length - 1 < es.length := by omega
  obtain ⟨t, ls, ee⟩ : ∃ t ls, es[es.length - 1]? = some (t, ls) := ⟨_, _, List.getElem?_eq_getElem hk⟩
  have f := full_get g ee
  rw [e] at f
  cases f
  rw [size_sub]
  have := (g _ _ ee).s1
  have h2 : 1 ≤ t.size := this
  omega
theorem off_texts {H : Hp} {D : Deck} {n : Nat} (d : DeckOk H D n) {b : Addr} {L : List (List Nat)} (e : H b = some (.lst (L.map vt))) (hL : 1 ≤ L.length) : Off D b := by
  obtain ⟨W, L', rfl⟩ : ∃ W L', L = W :: L' := by
    cases L with
    | nil => exact absurd hL (by simp)
    | cons W L' => exact ⟨W, L', rfl⟩
  obtain ⟨cells, rests, h1, h2, h3, _⟩ := d.ex
  have no : ∀ (ns : List Int), H b ≠ some (.lst (ns.map V.int)) := fun ns z => by
    rw [e] at z
    cases ns with
    | nil => cases z
    | cons i ns => cases z
  refine ⟨fun z => ?_, fun z => ?_, fun z => ?_⟩
  · rw [z, h1] at e
    cases e
  · rw [z] at no
    exact no _ h2
  · rw [z] at no
    exact no _ h3
/-! ### parts of entries -/
theorem at_app (p : List Nat) : ∀ (T : B) (w : List Nat) {u : B}, T.at p = some u → T.at (p ++ w) = u.at w := by
  induction p with
  | nil =>
    intro T w u h
    rw [B.at_nil] at h
    cases h
    rfl
  | cons c p ih =>
    intro T w u h
    cases T with
    | nil => cases h
    | node l x r =>
      change (if c = 108 then l.at p else if c = 114 then r.at p else none) = some u at h
      show (if c = 108 then l.at (p ++ w) else if c = 114 then r.at (p ++ w) else none) = u.at w
      by_cases c1 : c = 108
      · rw [if_pos c1] at h ⊢
        exact ih l w h
      · rw [if_neg c1] at h ⊢
        by_cases c2 : c = 114
        · rw [if_pos c2] at h ⊢
          exact ih r w h
        · rw [if_neg c2] at h
          cases h
theorem steps_first_word (t : B) {q : List Nat} {s : List Nat × Nat} (h : s ∈ t.steps .first q) : ∃ w, s.1 = q ++ w := by
  obtain ⟨w, e, _⟩ := (steps_mem t q s.1).mp (List.mem_map.mpr ⟨s, h, rfl⟩)
  exact ⟨w, e⟩
theorem below_all (t : B) (q : List Nat) : (t.steps .first q).filter (fun s => decide (s.1.take q.length = q)) = t.steps .first q := by
  rw [List.filter_eq_self]
  intro s hs
  obtain ⟨w, e⟩ := steps_first_word t hs
  rw [e, List.take_left]
  exact decide_eq_true rfl
theorem below_none (t : B) {q p : List Nat} {n : Nat} (h : ∀ w : List Nat, (q ++ w).take n ≠ p) : (t.steps .first q).filter (fun s => decide (s.1.take n = p)) = [] := by
  rw [List.filter_eq_nil_iff]
  intro s hs
  obtain ⟨w, e⟩ := steps_first_word t hs
  rw [e]
  simpa using h w
theorem take_app_ne {q w : List Nat} {c d : Nat} {p : List Nat} (hcd : c ≠ d) : ((q ++ [c]) ++ w).take (q ++ d :: p).length ≠ q ++ d :: p := fun z => by
  have h1 : (((q ++ [c]) ++ w).take (q ++ d :: p).length)[q.length]? = (q ++ d :: p)[q.length]? := by rw [z]
  rw [List.getElem?_take] at h1
  simp at h1
  exact hcd h1
theorem below_len (p : List Nat) : ∀ (T : B) (q : List Nat) {u : B}, T.at p = some u → ((T.steps .first q).filter (fun s => decide (s.1.take (q ++ p).length = q ++ p))).length = u.size := by
  induction p with
  | nil =>
    intro T q u h
    rw [B.at_nil] at h
    cases h
    rw [List.append_nil, below_all, B.steps_len]
  | cons c p ih =>
    intro T q u h
    cases T with
    | nil => cases h
    | node l x r =>
      change (if c = 108 then l.at p else if c = 114 then r.at p else none) = some u at h
      have root : ([(q, x)] : List (List Nat × Nat)).filter (fun s => decide (s.1.take (q ++ c :: p).length = q ++ c :: p)) = [] := by
        rw [List.filter_eq_nil_iff]
        intro s hs
        rw [List.mem_singleton.mp hs]
        simp only [decide_eq_true_eq]
        intro z
        have := congrArg List.length z
        rw [List.length_take, List.length_append, List.length_cons] at this
        omega
      show (([(q, x)] ++ l.steps .first (q ++ [108]) ++ r.steps .first (q ++ [114])).filter _).length = u.size
      rw [List.filter_append, List.filter_append, root, List.nil_append, List.length_append]
      by_cases c1 : c = 108
      · subst c1
        rw [if_pos rfl] at h
        have e := ih l (q ++ [108]) h
        rw [List.append_assoc] at e
        rw [below_none r fun w => take_app_ne (by decide)]
        exact e
      · rw [if_neg c1] at h
        by_cases c2 : c = 114
        · subst c2
          rw [if_pos rfl] at h
          have e := ih r (q ++ [114]) h
          rw [List.append_assoc] at e
          rw [below_none l fun w => take_app_ne (by decide), List.length_nil, Nat.zero_add]
          exact e
        · rw [if_neg c2] at h
          cases h
/-- the part at a path, with what hangs there -/
def partF (F : List B) (ls : List Lk) (u : B) (q : List Nat) : B := u.sub fun w => hungL F ls (q ++ w)
theorem hung_filter {F : List B} {ls : List Lk} {q : List Nat} {P : Lk → Bool} (h : ∀ l, l.1 = q → P l = true) : hungL F (ls.filter P) q = hungL F ls q := by
  unfold hungL
  rw [List.find?_filter]
  have : (fun a : Lk => decide (P a = true ∧ decide (a.1 = q) = true)) = fun a => decide (a.1 = q) := by
    funext a
    by_cases e : a.1 = q
    · simp [e, h a e]
    · simp [e]
  rw [this]
theorem part_links {F : List B} {T : B} {ls : List Lk} (nd : (ls.map (·.1)).Nodup) (op : ∀ l ∈ ls, l.1 ∈ T.op) {p : List Nat} {u : B} (hu : T.at p = some u) :
    ((ls.filter fun l => decide (l.1.take p.length = p)).map fun l => (F.getD l.2 .nil).size).sum = (u.op.map fun w => (hungL F ls (p ++ w)).size).sum := by
  have nd2 : ((ls.filter fun l => decide (l.1.take p.length = p)).map (·.1)).Nodup := nd.sublist (List.filter_sublist.map _)
  have ndO : (u.op.map (p ++ ·)).Nodup := List.Pairwise.map _ (fun _ _ ne e => ne (List.append_cancel_left e)) u.op_nodup
  have key := sum_links (fun b => b.size) rfl F (ls.filter fun l => decide (l.1.take p.length = p)) (u.op.map (p ++ ·)) ndO nd2 fun l hl => by
    obtain ⟨h1, h2⟩ := List.mem_filter.mp hl
    have h3 := of_decide_eq_true h2
    have e : l.1 = p ++ l.1.drop p.length := by
      conv => lhs; rw [← List.take_append_drop p.length l.1]
      rw [h3]
    refine List.mem_map.mpr ⟨l.1.drop p.length, ?_, e.symm⟩
    rw [B.op_at, ← at_app p T _ hu, ← e, ← B.op_at]
    exact op l h1
  rw [← key, List.map_map]
  refine congrArg List.sum (List.map_congr_left fun w _ => ?_)
  show (hungL F _ (p ++ w)).size = _
  rw [hung_filter]
  intro l e
  rw [e, List.take_left]
  exact decide_eq_true rfl
theorem part_size {F : List B} {T : B} {ls : List Lk} (nd : (ls.map (·.1)).Nodup) (op : ∀ l ∈ ls, l.1 ∈ T.op) {p : List Nat} {u : B} (hu : T.at p = some u) :
    ((T.steps .first []).filter fun s => decide (s.1.take p.length = p)).length + ((ls.filter fun l => decide (l.1.take p.length = p)).map fun l => (F.getD l.2 .nil).size).sum = (partF F ls u p).size := by
  unfold partF
  rw [size_sub, part_links nd op hu]
  have := below_len p T [] hu
  rw [List.nil_append] at this
  rw [this]
/-! the walks of a node and its two parts -/
def gapL : Kd → Nat
  | .first => 1
  | .between => 0
  | .last => 0
def gapR (a : Nat) : Kd → Nat
  | .first => 1 + a
  | .between => 1 + a
  | .last => a
def gapT (a b : Nat) : Kd → Nat
  | .first => 0
  | .between => a
  | .last => a + b
theorem gap_len (k : Kd) (t : B) (q : List Nat) : (t.steps k q).length = t.size := t.steps_len k q
theorem app_r {α : Type} (A : List α) {C : List α} {m : Nat} {y : α} (h : C[m]? = some y) : (A ++ C)[A.length + m]? = some y := by
  rw [List.getElem?_append_right (by omega), Nat.add_sub_cancel_left]
  exact h
theorem app_l {α : Type} {A : List α} (C : List α) {m : Nat} {y : α} (h : A[m]? = some y) : (A ++ C)[m]? = some y := by
  rw [List.getElem?_append_left (List.getElem?_eq_some_iff.mp h).1]
  exact h
theorem walk_left (k : Kd) (l : B) (x : Nat) (r : B) (q : List Nat) {m : Nat} {y : List Nat × Nat} (h : (l.steps k (q ++ [108]))[m]? = some y) : ((B.node l x r).steps k q)[gapL k + m]? = some y := by
  cases k
  · show ([(q, x)] ++ l.steps .first (q ++ [108]) ++ r.steps .first (q ++ [114]))[1 + m]? = _
    exact app_l _ (app_r [(q, x)] h)
  · show (l.steps .between (q ++ [108]) ++ [(q, x)] ++ r.steps .between (q ++ [114]))[0 + m]? = _
    rw [Nat.zero_add]
    exact app_l _ (app_l _ h)
  · show (l.steps .last (q ++ [108]) ++ r.steps .last (q ++ [114]) ++ [(q, x)])[0 + m]? = _
    rw [Nat.zero_add]
    exact app_l _ (app_l _ h)
theorem walk_right (k : Kd) (l : B) (x : Nat) (r : B) (q : List Nat) {m : Nat} {y : List Nat × Nat} (h : (r.steps k (q ++ [114]))[m]? = some y) : ((B.node l x r).steps k q)[gapR l.size k + m]? = some y := by
  cases k
  · have e := app_r ([(q, x)] ++ l.steps .first (q ++ [108])) h
    rw [List.length_append, B.steps_len] at e
    exact e
  · have e := app_r (l.steps .between (q ++ [108]) ++ [(q, x)]) h
    rw [List.length_append, B.steps_len] at e
    show (l.steps .between (q ++ [108]) ++ [(q, x)] ++ r.steps .between (q ++ [114]))[1 + l.size + m]? = _
    rw [Nat.add_comm 1]
    exact e
  · have e := app_r (l.steps .last (q ++ [108])) h
    rw [B.steps_len] at e
    exact app_l _ e
theorem walk_root (k : Kd) (l : B) (x : Nat) (r : B) (q : List Nat) : ((B.node l x r).steps k q)[gapT l.size r.size k]? = some (q, x) := by
  cases k
  · rfl
  · have e := app_r (l.steps .between (q ++ [108])) (C := [(q, x)]) (m := 0) (y := (q, x)) rfl
    rw [B.steps_len] at e
    exact app_l _ e
  · have e := app_r (l.steps .last (q ++ [108]) ++ r.steps .last (q ++ [114])) (C := [(q, x)]) (m := 0) (y := (q, x)) rfl
    rw [List.length_append, B.steps_len, B.steps_len] at e
    exact e
theorem walk_split (k : Kd) (l : B) (x : Nat) (r : B) (q : List Nat) {n : Nat} {y : List Nat × Nat} (h : ((B.node l x r).steps k q)[n]? = some y) :
    (n = gapT l.size r.size k ∧ y = (q, x)) ∨ (∃ m, n = gapL k + m ∧ m < l.size ∧ (l.steps k (q ++ [108]))[m]? = some y) ∨ (∃ m, n = gapR l.size k + m ∧ m < r.size ∧ (r.steps k (q ++ [114]))[m]? = some y) := by
  have hn := (List.getElem?_eq_some_iff.mp h).1
  rw [B.steps_len] at hn
  have hn : n < l.size + 1 + r.size := hn
  have go : n = gapT l.size r.size k ∨ (∃ m, n = gapL k + m ∧ m < l.size) ∨ (∃ m, n = gapR l.size k + m ∧ m < r.size) := by
    cases k
    · show n = 0 ∨ (∃ m, n = 1 + m ∧ m < l.size) ∨ (∃ m, n = 1 + l.size + m ∧ m < r.size)
      by_cases h0 : n = 0
      · exact .inl h0
      · by_cases h1 : n - 1 < l.size
        · exact .inr (.inl ⟨n - 1, by omega, h1⟩)
        · exact .inr (.inr ⟨n - 1 - l.size, by omega, by omega⟩)
    · show n = l.size ∨ (∃ m, n = 0 + m ∧ m < l.size) ∨ (∃ m, n = 1 + l.size + m ∧ m < r.size)
      by_cases h0 : n = l.size
      · exact .inl h0
      · by_cases h1 : n < l.size
        · exact .inr (.inl ⟨n, by omega, h1⟩)
        · exact .inr (.inr ⟨n - 1 - l.size, by omega, by omega⟩)
    · show n = l.size + r.size ∨ (∃ m, n = 0 + m ∧ m < l.size) ∨ (∃ m, n = l.size + m ∧ m < r.size)
      by_cases h0 : n = l.size + r.size
      · exact .inl h0
      · by_cases h1 : n < l.size
        · exact .inr (.inl ⟨n, by omega, h1⟩)
        · exact .inr (.inr ⟨n - l.size, by omega, by omega⟩)
  rcases go with e | ⟨m, e, hm⟩ | ⟨m, e, hm⟩
  · refine .inl ⟨e, ?_⟩
    rw [e, walk_root] at h
    exact (Option.some.inj h).symm
  · obtain ⟨z, g⟩ : ∃ z, (l.steps k (q ++ [108]))[m]? = some z := ⟨_, List.getElem?_eq_getElem (by rw [B.steps_len]; exact hm)⟩
    have := walk_left k l x r q g
    rw [← e, h] at this
    exact .inr (.inl ⟨m, e, hm, by rw [g, ← this]⟩)
  · obtain ⟨z, g⟩ : ∃ z, (r.steps k (q ++ [114]))[m]? = some z := ⟨_, List.getElem?_eq_getElem (by rw [B.steps_len]; exact hm)⟩
    have := walk_right k l x r q g
    rw [← e, h] at this
    exact .inr (.inr ⟨m, e, hm, by rw [g, ← this]⟩)
/-! ### _law_part -/
theorem EnAt.of {H : Hp} {vs : List V} {es : List En} (h : EnAt H vs es) {k : Nat} {t : B} {ls : List Lk} (e : es[k]? = some (t, ls)) : ∃ (a la : Addr) (tv : V) (us : List V), vs[k]? = some (.ref a) ∧ H a = some (.tup [tv, .ref la]) ∧ BAt H tv t ∧ H la = some (.tup us) ∧ LkAt H us ls := by
  have hk := (List.getElem?_eq_some_iff.mp e).1
  have hv : vs[k]? = some (vs[k]'(by rw [h.len]; exact hk)) := List.getElem?_eq_getElem _
  obtain ⟨a, la, tv, us, t', ls', e1, e2, e3, e4, e5, e6⟩ := h.get hv
  rw [e] at e2
  cases e2
  exact ⟨a, la, tv, us, by rw [hv, e1], e3, e4, e5, e6⟩
theorem filt_pos {α : Type} {p : α → Bool} {a : α} (h : p a = true) : [a].filter p = [a] := by simp [h]
theorem filt_neg {α : Type} {p : α → Bool} {a : α} (h : p a = false) : [a].filter p = [] := by simp [h]
def spPart : Sp := fun vs H Q _ => ∃ (p sz : Addr) (us : List V) (es : List En) (k : Nat) (T u : B) (ls : List Lk) (q : List Nat), vs = [.ref p, .ref sz, vn k, vt q] ∧ H p = some (.tup us) ∧ EnAt H us es ∧ GoodN 12 es ∧ es.length ≤ 20 ∧ es[k]? = some (T, ls) ∧ H sz = some (.lst ((fulls es).map fun X => vn X.size)) ∧ T.at q = some u ∧ q.length ≤ 100 ∧
  ∀ H', Same H H' → Q (vn (partF (fulls es) ls u q).size) H'
section
variable {P : Program} {w : World} {K : PySem.W.Frag} {mg : Str → Option Value} {base : Heap} {f : Addr} {fd : FuncData}
theorem ok_part (F : Fun K "_law_part" "_law_part" s__law_part f fd) (M : Mgs mg) (msum : mg "sum" = none) (D_law_nodes : Df P w K mg base 40 "_law_nodes" ["_law_tree_here", "_law_path"] (spNodes 40)) : FnOk P w K mg base CX0 41 f fd ["_law_nest_here", "_law_sizes_here", "_law_seat", "_law_path"] spPart := by
  refine F.ok sc__law_part (fun vs H Q E h => ?_) (fun cdv A outer s H vs Q E hr h => ?_)
  · obtain ⟨p, sz, us, es, k, T, u, ls, q, rfl, _⟩ := h
    rfl
  obtain ⟨p, sz, us, es, k, T, u, ls, pq, rfl, ep, en, gn, e20, ek, esz, hu, ql, q⟩ := h
  obtain ⟨a, la, tv, ls', huk, ea, at0, ela, lk⟩ := en.of ek
  have ge := gn k _ ek
  have ll := lk.len
  have lsl := links_len ge (Nat.le_refl _)
  have t12 : T.size ≤ 12 := ge.s2
  have lz : (tx pq).length ≤ sizeLine := small (by rw [tx_len]; omega)
  have fl := fulls_len es
  have hk := (List.getElem?_eq_some_iff.mp ek).1
  refine ⟨_, (pss_cons (ps_set (i := 6) sc__law_part.nd rfl (.inl rfl) (pe_callB call_len_seq rfl M.len PySem.boot_len (pa_cons (pe_lc (own := [("_law_own", 4), ("_law_label", 5)]) (g := gTup K 2 (gCons (gName 4) (gCons (gName 5) gNil))) rfl sc__law_part.nd (pi_list (pe_call D_law_nodes.ok (hr.mono (by omega)) rfl D_law_nodes.g D_law_nodes.kp D_law_nodes.b .nil pass0 (pa_cons (pe_ix ix_tup (pe_ix ix_tup (pv 0) (pv 2) (fun _ _ => rfl)) pe_int (fun _ _ => rfl)) (pa_cons pe_str pa_nil)))) (blkOk_by (N := ["_law_nest_here", "_law_sizes_here", "_law_seat", "_law_path", "_law_own", "_law_label", "_law_found", "_law_index"]) (sc := defScope s__law_part) (by decide +kernel)) (fun _ _ _ _ _ => (pg_tup rfl (pgs_cons (pg_name (i := 4) sc__law_part.nd rfl (.inl rfl)) (pgs_cons (pg_name (i := 5) sc__law_part.nd rfl (.inl rfl)) pgs_nil)))) (fun _ _ _ _ _ => pts_one (pt_cmpR op_eq (pe_slice sl_str (pv 4) po_none (po_some (pe_callB call_len_str rfl M.len PySem.boot_len (pa_cons (pv 3) pa_nil)))) (pv 3) (nomark _))) (fun _ _ _ _ _ => pe_int)) pa_nil)))
    (pss_one (ps_ret (pe_op op_add (pv 6) (pe_callB (cr_sum rfl) rfl msum (by decide +kernel) (pa_cons (pe_lc (own := [("_law_own", 4), ("_law_index", 7)]) (g := gTup K 2 (gCons (gName 4) (gCons (gName 7) gNil))) rfl sc__law_part.nd (pi_tup (pe_ix ix_tup (pe_ix ix_tup (pv 0) (pv 2) (fun _ _ => rfl)) pe_int (fun _ _ => rfl))) (blkOk_by (N := ["_law_nest_here", "_law_sizes_here", "_law_seat", "_law_path", "_law_own", "_law_label", "_law_found", "_law_index"]) (sc := defScope s__law_part) (by decide +kernel)) (fun _ _ _ _ _ => (pg_tup rfl (pgs_cons (pg_name (i := 4) sc__law_part.nd rfl (.inl rfl)) (pgs_cons (pg_name (i := 7) sc__law_part.nd rfl (.inl rfl)) pgs_nil)))) (fun _ _ _ _ _ => pts_one (pt_cmpR op_eq (pe_slice sl_str (pv 4) po_none (po_some (pe_callB call_len_str rfl M.len PySem.boot_len (pa_cons (pv 3) pa_nil)))) (pv 3) (nomark _))) (fun _ _ _ _ _ => (pe_ix (show IxR _ (rIxL K) from ix_list) (pv 1) (pv 7) (fun _ _ => rfl)))) pa_nil)))))), ?_⟩
  refine ⟨_, rfl, _, rfl, p, us, _, _, rfl, rfl, SqT.of ep, atI_nat huk, a, _, _, _, rfl, rfl, SqT.of ea, rfl, ?_⟩
  refine ⟨tv, T, [], by rw [str_0]; rfl, at0, by omega, by show T.size + 0 ≤ 500; omega, fun pn un H4 s4 en4 st4 => ?_⟩
  have ul := st4.len
  rw [B.steps_len] at ul
  refine ⟨pn, rfl, ⟨_, SqL.of en4⟩, fun D nD => ?_⟩
  have kD := same_new nD (.lst [])
  refine lc_list (K := K) (a := pn) (xs := un) (fun j H' => Same H4 H' ∧ ∃ ys : List V, H' D = some (.lst ys) ∧ ys.length = (((T.steps .first []).take j).filter fun s => decide (s.1.take pq.length = pq)).length) ⟨kD, [], upd_same, rfl⟩ (fun j H' _ hp => SqL.of (hp.1 _ _ en4)) (fun j x H5 hx hp => ?_) (fun H5 hp => ?_)
  · obtain ⟨s5, ys, eD, yl⟩ := hp
    obtain ⟨b, wd, c, rfl, ess, eb⟩ := st4.get hx
    have hj := (List.getElem?_eq_some_iff.mp ess).1
    rw [B.steps_len] at hj
    have wl := steps_words T [] wd (List.mem_map.mpr ⟨(wd, c), List.mem_of_getElem? ess, rfl⟩)
    rw [List.length_nil] at wl
    have yl2 : ys.length ≤ 12 := by
      have h1 := List.length_filter_le (fun s : List Nat × Nat => decide (s.1.take pq.length = pq)) ((T.steps .first []).take j)
      rw [List.length_take] at h1
      omega
    have wz : (tx wd).length ≤ sizeLine := small (by rw [tx_len]; omega)
    refine ⟨b, _, rfl, SqT.of (s5 _ _ eb), rfl, _, _, rfl, _, _, rfl, rfl, rfl, ?_⟩
    refine ⟨_, rfl, _, rfl, _, rfl, lz, _, rfl, _, rfl, wz, _, rfl, rfl, _, rfl, ?_⟩
    rw [tx_len, tx_to]
    have tk := take_next ess
    by_cases h0 : wd.take pq.length = pq
    · refine iteS (congrArg tx h0) ⟨_, eD, small1000 (by omega), fun b' o e => ?_, ys ++ [V.int 1], upd_same, ?_⟩
      · rw [upd_ne (ne_of_none e nD)]; exact s5 _ _ e
      · rw [tk, List.filter_append, List.length_append, List.length_append, yl, show [(wd, c)].filter (fun s : List Nat × Nat => decide (s.1.take pq.length = pq)) = [(wd, c)] from filt_pos (decide_eq_true h0)]
        rfl
    · refine iteR (fun z => h0 (tx_inj z)) ⟨s5, ys, eD, ?_⟩
      rw [tk, List.filter_append, show [(wd, c)].filter (fun s : List Nat × Nat => decide (s.1.take pq.length = pq)) = [] from filt_neg (decide_eq_false h0), List.append_nil]
      exact yl
  obtain ⟨s5, ys, eD, yl⟩ := hp
  rw [ul, List.take_of_length_le (Nat.le_of_eq (T.steps_len _ _))] at yl
  refine ⟨D, ys, rfl, .inl (SqL.of eD), ?_⟩
  have s05 := s4.trans s5
  refine ⟨_, rfl, _, rfl, _, rfl, p, us, _, _, rfl, rfl, SqT.of (s05 _ _ ep), atI_nat huk, a, _, _, _, rfl, rfl, SqT.of (s05 _ _ ea), rfl, la, rfl, ⟨_, SqT.of (s05 _ _ ela)⟩, fun D2 nD2 => ?_⟩
  have kD2 := same_new nD2 (.lst [])
  refine lc_tup (K := K) (a := la) (xs := ls') (fun j H' => Same H5 H' ∧ H' D2 = some (.lst (((ls.take j).filter fun l => decide (l.1.take pq.length = pq)).map fun l => vn ((fulls es).getD l.2 .nil).size))) ⟨kD2, upd_same⟩ (fun j H' _ hp => SqT.of (hp.1 _ _ (s05 _ _ ela))) (fun j x H6 hx hp => ?_) (fun H6 hp => ?_)
  · obtain ⟨s6, eD6⟩ := hp
    obtain ⟨b, wd, n, rfl, el6, eb⟩ := lk.get hx
    have hj := (List.getElem?_eq_some_iff.mp el6).1
    have hn : n < (fulls es).length := by
      have := ge.ix (wd, n) (List.mem_of_getElem? el6)
      have : n < k := this
      omega
    have wl : wd.length ≤ T.deep := op_deep (ge.op (wd, n) (List.mem_of_getElem? el6))
    have td := T.deep_le
    have wz : (tx wd).length ≤ sizeLine := small (by rw [tx_len]; omega)
    refine ⟨b, _, rfl, SqT.of (s6 _ _ (s05 _ _ eb)), rfl, _, _, rfl, _, _, rfl, rfl, rfl, ?_⟩
    refine ⟨_, rfl, _, rfl, _, rfl, lz, _, rfl, _, rfl, wz, _, rfl, rfl, _, rfl, ?_⟩
    rw [tx_len, tx_to]
    have tk := take_next el6
    have yl2 : ((ls.take j).filter fun l => decide (l.1.take pq.length = pq)).length ≤ 13 := by
      have h1 := List.length_filter_le (fun l : Lk => decide (l.1.take pq.length = pq)) (ls.take j)
      rw [List.length_take] at h1
      omega
    by_cases h0 : wd.take pq.length = pq
    · refine iteS (congrArg tx h0) ⟨_, rfl, _, rfl, sz, _, _, _, rfl, rfl, SqL.of (s6 _ _ (s05 _ _ esz)), atI_nat (by rw [List.getElem?_map, List.getElem?_eq_getElem hn]; rfl), _, eD6, by rw [List.length_map]; exact small1000 (by omega), fun b' o e => ?_, ?_⟩
      · rw [upd_ne (ne_of_none e nD2)]; exact s6 _ _ e
      · rw [upd_same, tk, List.filter_append, List.map_append, show [(wd, n)].filter (fun l : Lk => decide (l.1.take pq.length = pq)) = [(wd, n)] from filt_pos (decide_eq_true h0)]
        show _ = some (HO.lst (_ ++ [vn ((fulls es).getD n .nil).size]))
        rw [List.getD_eq_getElem?_getD, List.getElem?_eq_getElem hn]
        rfl
    · refine iteR (fun z => h0 (tx_inj z)) ⟨s6, ?_⟩
      rw [tk, List.filter_append, show [(wd, n)].filter (fun l : Lk => decide (l.1.take pq.length = pq)) = [] from filt_neg (decide_eq_false h0), List.append_nil]
      exact eD6
  obtain ⟨s6, eD6⟩ := hp
  rw [ll, List.take_of_length_le (Nat.le_refl _)] at eD6
  have eD' : H6 D2 = some (.lst ((((ls.filter fun l => decide (l.1.take pq.length = pq)).map fun l => ((fulls es).getD l.2 .nil).size).map fun n : Nat => (n : Int)).map V.int)) := by
    rw [eD6, List.map_map, List.map_map]; rfl
  refine ⟨D2, _, rfl, SqL.of eD', ?_⟩
  rw [cast_sum]
  refine ⟨_, _, rfl, rfl, ?_⟩
  have key := part_size (F := fulls es) (T := T) (ls := ls) ge.nd ge.op hu
  rw [← yl] at key
  have e : (ys.length : Int) + ((((ls.filter fun l => decide (l.1.take pq.length = pq)).map fun l => ((fulls es).getD l.2 .nil).size).sum : Nat) : Int) = (((partF (fulls es) ls u pq).size : Nat) : Int) := by
    rw [← key]
    omega
  show Q (.int _) _
  rw [e]
  exact q H6 (s05.trans s6)
end
/-! ### _law_way -/
theorem iteNe {x y : V} {A B : Prop} (h : x ≠ y) (a : A) : if (!decide (x = y)) = true then A else B := by
  rw [decide_eq_false h]; exact iteT a
theorem iteEq {x y : V} {A B : Prop} (h : x = y) (b : B) : if (!decide (x = y)) = true then A else B := by
  rw [decide_eq_true h]; exact iteF b
theorem lc_zipL {K : PySem.W.Frag} {a b : Addr} {xs ys : List V} {g : TG} {tt : TT} {te : TE} {vs : List Nat} {σ : L2.St} {H1 : Hp} {D : Addr} {Qd : Hp → Prop} (hl : xs.length = ys.length) (Pv : Nat → Hp → Prop) (h0 : Pv 0 (upd H1 D (.lst []))) (hq : ∀ i H, Pv i H → SqL K H a xs ∧ SqL K H b ys)
    (hs : ∀ (i : Nat) (x y : V) (T : Addr) (H : Hp), xs[i]? = some x → ys[i]? = some y → Pv i H → H T = none → g (.ref T) (wipe σ vs) (upd H T (.tup [x, y])) fun σ2 H2 => wipe σ2 vs = wipe σ vs ∧ tt σ2 H2 fun b H3 =>
      if b = true then te σ2 H3 fun y H4 => ∃ acc, H4 D = some (.lst acc) ∧ acc.length < sizeLine ∧ Pv (i + 1) (upd H4 D (.lst (acc ++ [y]))) else Pv (i + 1) H3) (hd : ∀ H, Pv xs.length H → Qd H) :
    ∃ W : Nat → Nat → Hp → Prop, (∃ m, W 0 m (upd H1 D (.lst []))) ∧ ∀ i m H, W i m H →
      ((Itz K a b).stop i H ∧ Qd H) ∨ ((Itz K a b).go i H ∧ ∃ Nx : Hp → Prop, (∀ H', Nx H' → ∃ m', m' < m ∧ W (i + 1) m' H') ∧ ∀ v H', (Itz K a b).yld i H v H' → g v (wipe σ vs) H' fun σ2 H2 => wipe σ2 vs = wipe σ vs ∧ tt σ2 H2 fun b H3 =>
        if b = true then te σ2 H3 fun y H4 => ∃ acc, H4 D = some (.lst acc) ∧ acc.length < sizeLine ∧ Nx (upd H4 D (.lst (acc ++ [y]))) else Nx H3) := by
  refine lc_it (walk_zip (K := K) (n := xs.length) (by omega)) Pv h0 (fun i H _ hp => hq i H hp) (fun i v H H' hi hp hy => ?_) hd
  obtain ⟨T, x, y, rfl, hT, rfl, hx, hy⟩ := hy
  exact hs i x y T H hx hy hp hT
def pl (p0 p1 p2 : Nat) : Kd → Nat
  | .first => p0
  | .between => p1
  | .last => p2
structure WayAt (X : B) (es : List En) (k : Kd) (W : List Nat) (c seat : Nat) (pq W0 : List Nat) (n p0 p1 p2 : Nat) (U : B) : Prop where
  ex : ∃ T t ls, es[seat]? = some (T, ls) ∧ T.at pq = some t ∧ U = partF (fulls es) ls t pq
  here : (U.steps k W0)[n]? = some (W, c)
  up : ∀ (k' : Kd) (m : Nat) (y : List Nat × Nat), (U.steps k' W0)[m]? = some y → (X.steps k' [])[pl p0 p1 p2 k' + m]? = some y
structure WayEnd (X : B) (es : List En) (W : List Nat) (c seat : Nat) (pq : List Nat) (p0 p1 p2 : Nat) : Prop where
  ex : ∃ T l r ls, es[seat]? = some (T, ls) ∧ T.at pq = some (.node l c r)
  up : ∀ k' : Kd, (X.steps k' [])[pl p0 p1 p2 k']? = some (W, c)
theorem at_long : ∀ (p : List Nat) (T : B) {u : B}, T.at p = some u → p.length ≤ T.deep
  | [], _, _, _ => Nat.zero_le _
  | c :: p, .nil, _, h => by cases h
  | c :: p, .node l x r, u, h => by
    change (if c = 108 then l.at p else if c = 114 then r.at p else none) = some u at h
    show p.length + 1 ≤ 1 + max l.deep r.deep
    by_cases c1 : c = 108
    · rw [if_pos c1] at h
      have := at_long p l h
      omega
    · rw [if_neg c1] at h
      by_cases c2 : c = 114
      · rw [if_pos c2] at h
        have := at_long p r h
        omega
      · rw [if_neg c2] at h
        cases h
theorem at_l {T l r : B} {x : Nat} {p : List Nat} (h : T.at p = some (.node l x r)) : T.at (p ++ [108]) = some l := by
  rw [at_app p T [108] h]
  show (if 108 = 108 then l.at [] else if 108 = 114 then r.at [] else none) = some l
  rw [if_pos rfl, B.at_nil]
theorem at_r {T l r : B} {x : Nat} {p : List Nat} (h : T.at p = some (.node l x r)) : T.at (p ++ [114]) = some r := by
  rw [at_app p T [114] h]
  show (if 114 = 108 then l.at [] else if 114 = 114 then r.at [] else none) = some r
  rw [if_neg (by decide), if_pos rfl, B.at_nil]
theorem partF_node (F : List B) (ls : List Lk) (l : B) (x : Nat) (r : B) (q : List Nat) : partF F ls (.node l x r) q = .node (partF F ls l (q ++ [108])) x (partF F ls r (q ++ [114])) := by
  unfold partF
  show B.node (l.sub fun w => hungL F ls (q ++ 108 :: w)) x (r.sub fun w => hungL F ls (q ++ 114 :: w)) = _
  simp only [List.append_assoc, List.cons_append, List.nil_append]
theorem partF_top {lim : Nat} {es : List En} (g : GoodN lim es) {k : Nat} {t : B} {ls : List Lk} (h : es[k]? = some (t, ls)) : (fulls es).getD k .nil = partF (fulls es) ls t [] := by
  rw [List.getD_eq_getElem?_getD, full_get g h]
  rfl
/-- one step down -/
theorem WayAt.step {X : B} {es : List En} {k : Kd} {W : List Nat} {c seat : Nat} {pq W0 : List Nat} {n p0 p1 p2 : Nat} {T l r : B} {x : Nat} {ls : List Lk} (ek : es[seat]? = some (T, ls)) (hat : T.at pq = some (.node l x r))
    (here : ((partF (fulls es) ls (.node l x r) pq).steps k W0)[n]? = some (W, c)) (up : ∀ (k' : Kd) (m : Nat) (y : List Nat × Nat), ((partF (fulls es) ls (.node l x r) pq).steps k' W0)[m]? = some y → (X.steps k' [])[pl p0 p1 p2 k' + m]? = some y)
    {a b : Nat} (ha : (partF (fulls es) ls l (pq ++ [108])).size = a) (hb : (partF (fulls es) ls r (pq ++ [114])).size = b) :
    (n = gapT a b k ∧ WayEnd X es W c seat pq (p0 + 0) (p1 + a) (p2 + (a + b))) ∨
    (∃ m, n = gapL k + m ∧ m < a ∧ WayAt X es k W c seat (pq ++ [108]) (W0 ++ [108]) m (p0 + 1) (p1 + 0) (p2 + 0) (partF (fulls es) ls l (pq ++ [108]))) ∨
    (∃ m, n = gapR a k + m ∧ m < b ∧ WayAt X es k W c seat (pq ++ [114]) (W0 ++ [114]) m (p0 + (1 + a)) (p1 + (1 + a)) (p2 + a) (partF (fulls es) ls r (pq ++ [114]))) := by
  subst ha hb
  rw [partF_node] at here up
  rcases walk_split k _ x _ W0 here with ⟨e, e2⟩ | ⟨m, e, hm, h2⟩ | ⟨m, e, hm, h2⟩
  · cases e2
    refine .inl ⟨e, ⟨T, l, r, ls, ek, hat⟩, fun k' => ?_⟩
    have := up k' _ _ (walk_root k' _ _ _ _)
    cases k' <;> exact this
  · refine .inr (.inl ⟨m, e, hm, ⟨T, l, ls, ek, at_l hat, rfl⟩, h2, fun k' m' y hy => ?_⟩)
    have := up k' _ _ (walk_left k' _ x _ _ hy)
    rw [← Nat.add_assoc] at this
    cases k' <;> exact this
  · refine .inr (.inr ⟨m, e, hm, ⟨T, r, ls, ek, at_r hat, rfl⟩, h2, fun k' m' y hy => ?_⟩)
    have := up k' _ _ (walk_right k' _ x _ _ hy)
    rw [← Nat.add_assoc] at this
    cases k' <;> exact this
theorem str_ne {a b : Str} (h : (a == b) = false) : a ≠ b := by simpa using h
theorem kd_str_inj {k k' : Kd} (h : k.str = k'.str) : k = k' := by
  have n1 : (("first" : String) : Str) ≠ (("between" : String) : Str) := by decide +kernel
  have n2 : (("first" : String) : Str) ≠ (("last" : String) : Str) := by decide +kernel
  have n3 : (("between" : String) : Str) ≠ (("last" : String) : Str) := by decide +kernel
  cases k <;> cases k'
  · rfl
  · exact absurd h n1
  · exact absurd h n2
  · exact absurd h.symm n1
  · rfl
  · exact absurd h n3
  · exact absurd h.symm n2
  · exact absurd h.symm n3
  · rfl
theorem beg_eq (k : Kd) : (if decide (V.str k.str = V.str "first") = true then (1 : Int) else 0) = ((gapL k : Nat) : Int) := by
  by_cases h : k = .first
  · subst h
    rw [decide_eq_true (show V.str Kd.first.str = V.str "first" from rfl)]
    rfl
  · rw [decide_eq_false (show ¬ V.str k.str = V.str "first" from fun z => h (kd_str_inj (k' := .first) (V.str.inj z)))]
    cases k
    · exact absurd rfl h
    · rfl
    · rfl
theorem beh_eq (k : Kd) : (if (!decide (V.str k.str = V.str "last")) = true then (1 : Int) else 0) = ((gapR 0 k : Nat) : Int) := by
  by_cases h : k = .last
  · subst h
    rw [decide_eq_true (show V.str Kd.last.str = V.str "last" from rfl)]
    rfl
  · rw [decide_eq_false (show ¬ V.str k.str = V.str "last" from fun z => h (kd_str_inj (k' := .last) (V.str.inj z)))]
    cases k
    · rfl
    · rfl
    · exact absurd rfl h
theorem gapR_eq (a : Nat) (k : Kd) : gapR a k = a + gapR 0 k := by cases k <;> (simp only [gapR]; omega)
theorem kinds_get (k : Kd) (x y z : V) : valV (mergeK [] [((Sum.inr Kd.first.str : Key), x), (Sum.inr Kd.between.str, y), (Sum.inr Kd.last.str, z)]) (Sum.inr k.str : Key) = some (match k with | .first => x | .between => y | .last => z) := by
  show valV (putK (putK (putK [] (Sum.inr Kd.first.str : Key) x) (Sum.inr Kd.between.str) y) (Sum.inr Kd.last.str) z) _ = _
  have ne : ∀ a b : Kd, a ≠ b → (Sum.inr a.str : Key) ≠ .inr b.str := fun a b h e => h (kd_str_inj (Sum.inr.inj e))
  rw [valV_put, valV_put, valV_put]
  cases k
  · rw [if_neg (ne .first .last (by simp)), if_neg (ne .first .between (by simp)), if_pos rfl]
  · rw [if_neg (ne .between .last (by simp)), if_pos rfl]
  · rw [if_pos rfl]
theorem root_get {H : Hp} {pd : Addr} {a b : Nat} (k : Kd) (e : H pd = some (.dK (mergeK [] [((Sum.inr Kd.first.str : Key), V.int 0), (Sum.inr Kd.between.str, vn a), (Sum.inr Kd.last.str, V.int ((a : Int) + (b : Int)))]))) : DGet H pd (.str k.str) (some (vn (gapT a b k))) := by
  have h := DGet.k (k := (Sum.inr k.str : Key)) e
  rw [kinds_get] at h
  cases k
  · exact h
  · exact h
  · exact h
theorem gap_ne_l {m a : Nat} (b : Nat) (k : Kd) (h : m < a) : gapL k + m ≠ gapT a b k := by cases k <;> (simp only [gapL, gapT]; omega)
theorem gap_ne_r {m b : Nat} (a : Nat) (k : Kd) (h : m < b) : gapR a k + m ≠ gapT a b k := by cases k <;> (simp only [gapR, gapT]; omega)
theorem gap_r_l (a m : Nat) (k : Kd) : gapL k + a ≤ gapR a k + m := by cases k <;> (simp only [gapR, gapL]; omega)
theorem three {p0 p1 p2 g0 g1 g2 j : Nat} {x y : V} (hx : ([p0, p1, p2].map vn)[j]? = some x) (hy : ([g0, g1, g2].map vn)[j]? = some y) : ∃ u v : Nat, x = vn u ∧ y = vn v ∧ ([p0 + g0, p1 + g1, p2 + g2].map vn)[j]? = some (vn (u + v)) := by
  match j with
  | 0 => cases hx; cases hy; exact ⟨p0, g0, rfl, rfl, rfl⟩
  | 1 => cases hx; cases hy; exact ⟨p1, g1, rfl, rfl, rfl⟩
  | 2 => cases hx; cases hy; exact ⟨p2, g2, rfl, rfl, rfl⟩
  | n + 3 => simp at hx
def spWayL : Sp := fun vs H Q _ => ∃ (p : Addr) (us : List V) (es : List En) (X : B) (k : Kd) (n : Nat) (W : List Nat) (c : Nat), vs = [.ref p, .str k.str, vn n] ∧ H p = some (.tup us) ∧ EnAt H us es ∧ GoodN 12 es ∧ 1 ≤ es.length ∧ es.length ≤ 20 ∧ (fulls es)[es.length - 1]? = some X ∧ (X.steps k [])[n]? = some (W, c) ∧
  ∀ (a : Addr) (p0 p1 p2 : Nat) (H' : Hp), Same H H' → H' a = some (.lst [.str (ch c), vn p0, vn p1, vn p2]) → (∀ k' : Kd, (X.steps k' [])[pl p0 p1 p2 k']? = some (W, c)) → Q (.ref a) H'
/-- what the loop keeps -/
def WInv (p sz : Addr) (X : B) (es : List En) (k : Kd) (W : List Nat) (c : Nat) (H0 : Hp) (m : Nat) (σ : L2.St) (H' : Hp) : Prop :=
  ∃ (seat n : Nat) (pq : List Nat) (pa : Addr) (p0 p1 p2 : Nat) (st : Str) (o8 o9 o10 o11 o12 o13 o14 o15 o16 o17 : Option V), σ = [some (.ref p), some (.str k.str), some (vn n), some (.ref sz), some (vn seat), some (vt pq), some (.ref pa), some (.str st), o8, o9, o10, o11, o12, o13, o14, o15, o16, o17] ∧ Same H0 H' ∧ H' pa = some (.lst [vn p0, vn p1, vn p2]) ∧ pq.length ≤ 20 ∧
    ((st ≠ Str.ofString "" ∧ ∃ W0 U, WayAt X es k W c seat pq W0 n p0 p1 p2 U ∧ m = U.size + 1) ∨ (st = Str.ofString "" ∧ m = 0 ∧ WayEnd X es W c seat pq p0 p1 p2))
theorem look_dict : ∀ (S : List (List Nat × Nat)) (kvs : List (Key × V)), (S.map (·.1)).Nodup → ∀ {q : List Nat} {x : Nat}, (q, x) ∈ S → valV (mergeK kvs (S.map fun s => ((.inr (tx s.1) : Key), (.str (ch s.2) : V)))) (.inr (tx q)) = some (.str (ch x))
  | [], _, _, _, _, h => by cases h
  | s :: S, kvs, nd, q, x, h => by
    rw [List.map_cons, List.nodup_cons] at nd
    show valV (mergeK (putK kvs (.inr (tx s.1)) (.str (ch s.2))) (S.map fun s => ((.inr (tx s.1) : Key), (.str (ch s.2) : V)))) (.inr (tx q)) = some (.str (ch x))
    rcases List.mem_cons.mp h with rfl | h
    · have keep : ∀ (R : List (List Nat × Nat)) (kv : List (Key × V)), q ∉ R.map (·.1) → valV kv (.inr (tx q)) = some (.str (ch x)) → valV (mergeK kv (R.map fun s => ((.inr (tx s.1) : Key), (.str (ch s.2) : V)))) (.inr (tx q)) = some (.str (ch x)) := by
        intro R
        induction R with
        | nil => intro kv _ h; exact h
        | cons r R ih =>
          intro kv hn h
          rw [List.map_cons, List.mem_cons, not_or] at hn
          show valV (mergeK (putK kv (.inr (tx r.1)) (.str (ch r.2))) (R.map _)) _ = _
          refine ih _ hn.2 ?_
          rw [valV_put, if_neg fun z => hn.1 (tx_inj (Sum.inr.inj z))]
          exact h
      refine keep S _ nd.1 ?_
      rw [valV_put, if_pos rfl]
    · exact look_dict S _ nd.2 h
theorem paired_steps {K : PySem.W.Frag} {H : Hp} {vs : List V} {S : List (List Nat × Nat)} (h : StAt H vs S) : ∃ ps : List Addr, vs = ps.map V.ref ∧ Paired (fun p kv => SqT K H p [kV kv.1, kv.2]) ps (S.map fun s => ((.inr (tx s.1) : Key), (.str (ch s.2) : V))) := by
  induction h with
  | nil => exact ⟨[], rfl, .nil⟩
  | cons e _ ih =>
    obtain ⟨ps, e1, e2⟩ := ih
    exact ⟨_ :: ps, by rw [e1]; rfl, .cons (SqT.of e) e2⟩
section
variable {P : Program} {w : World} {K : PySem.W.Frag} {mg : Str → Option Value} {base : Heap} {f : Addr} {fd : FuncData}
theorem ok_way_law (F : Fun K "_law_way" "_law_way" s__law_way f fd) (M : Mgs mg) (D_law_sizes : Df P w K mg base 41 "_law_sizes" ["_law_nest_here"] spSizes) (D_law_part : Df P w K mg base 41 "_law_part" ["_law_nest_here", "_law_sizes_here", "_law_seat", "_law_path"] spPart) (D_law_nodes : Df P w K mg base 40 "_law_nodes" ["_law_tree_here", "_law_path"] (spNodes 40)) : FnOk P w K mg base CX0 42 f fd ["_law_nest_here", "_law_kind", "_law_place"] spWayL := by
  refine F.ok sc__law_way (fun vs H Q E h => ?_) (fun cdv A outer s H vs Q E hr h => ?_)
  · obtain ⟨p, us, es, X, k, n, W, c, rfl, _⟩ := h
    rfl
  obtain ⟨p, us, es, X, k, n, W, c, rfl, ep, en, gn, e1, e20, eX, hW, q⟩ := h
  have el := en.len
  have fl := fulls_len es
  refine ⟨_, (pss_cons (ps_asg (pe_tup (pa_cons (pe_call D_law_sizes.ok (hr.mono (by omega)) rfl D_law_sizes.g D_law_sizes.kp D_law_sizes.b .nil pass0 (pa_cons (pv 0) pa_nil)) (pa_cons (pe_op op_sub (pe_callB call_len_seq rfl M.len PySem.boot_len (pa_cons (pv 0) pa_nil)) pe_int) (pa_cons pe_str pa_nil)))) (pg_tup rfl (pgs_cons (pg_name (i := 3) sc__law_way.nd rfl (.inl rfl)) (pgs_cons (pg_name (i := 4) sc__law_way.nd rfl (.inl rfl)) (pgs_cons (pg_name (i := 5) sc__law_way.nd rfl (.inr rfl)) pgs_nil)))))
    (pss_cons (ps_par (i := 6) (j := 7) (by rfl) sc__law_way.nd rfl rfl (by decide) rfl rfl (pa_cons (pe_lst (pa_cons pe_int (pa_cons pe_int (pa_cons pe_int pa_nil)))) (pa_cons pe_str pa_nil)) (by rfl))
    (pss_cons (ps_while PassesOwn.never (pt_cmpR op_ne (pv 7) pe_str (nomark _))
      (pss_cons (ps_setLc (i := 10) (own := [("_law_own", 8), ("_law_index", 9)]) (g := gTup K 2 (gCons (gName 8) (gCons (gName 9) gNil))) (by rfl) sc__law_way.nd rfl rfl (sw_true rfl rfl rfl (by decide +kernel)) (pi_tup (pe_ix ix_tup (pe_ix ix_tup (pv 0) (pv 4) (fun _ _ => rfl)) pe_int (fun _ _ => rfl))) (blkOk_by (N := ["_law_nest_here", "_law_kind", "_law_place", "_law_sizes_here", "_law_seat", "_law_path", "_law_places", "_law_step", "_law_own", "_law_index", "_law_linked", "_law_lower", "_law_upper", "_law_root", "_law_begin", "_law_gone", "_law_one", "_law_other"]) (sc := defScope s__law_way) (by decide +kernel)) (fun _ _ _ _ _ => (pg_tup rfl (pgs_cons (pg_name (i := 8) sc__law_way.nd rfl (.inl rfl)) (pgs_cons (pg_name (i := 9) sc__law_way.nd rfl (.inl rfl)) pgs_nil)))) (fun _ _ _ _ _ => pts_one (pt_cmpR op_eq (pv 8) (pv 5) (nomark _))) (fun _ _ _ _ _ => (pv 9)))
    (pss_cons (ps_if (pt_cmpR (op_neL hr.units0) (pv 10) (pe_lst pa_nil) (nomark _))
      (pss_one (ps_asg (pe_tup (pa_cons (pe_ix ix_list (pv 10) pe_int (fun _ _ => rfl)) (pa_cons pe_str pa_nil))) (pg_tup rfl (pgs_cons (pg_name (i := 4) sc__law_way.nd rfl (.inl rfl)) (pgs_cons (pg_name (i := 5) sc__law_way.nd rfl (.inr rfl)) pgs_nil))))) pss_nil)
    (pss_cons (ps_par (i := 11) (j := 12) (by rfl) sc__law_way.nd rfl rfl (by decide) rfl rfl (pa_cons (pe_call D_law_part.ok (hr.mono (by omega)) rfl D_law_part.g D_law_part.kp D_law_part.b .nil pass0 (pa_cons (pv 0) (pa_cons (pv 3) (pa_cons (pv 4) (pa_cons (pe_op op_add_str (pv 5) pe_str) pa_nil))))) (pa_cons (pe_call D_law_part.ok (hr.mono (by omega)) rfl D_law_part.g D_law_part.kp D_law_part.b .nil pass0 (pa_cons (pv 0) (pa_cons (pv 3) (pa_cons (pv 4) (pa_cons (pe_op op_add_str (pv 5) pe_str) pa_nil))))) pa_nil)) (by rfl))
    (pss_cons (ps_set (i := 13) sc__law_way.nd rfl (.inl rfl) (pe_dget (Nat.lt_of_le_of_lt (Nat.add_le_add_left (by decide) _) hr.units) (pe_disp (pps_cons pe_str pe_int (pps_cons pe_str (pv 11) (pps_cons pe_str (pe_op op_add (pv 11) (pv 12)) pps_nil))) rfl rfl (by simp) (by decide)) (pv 1) (fun _ _ => rfl)))
    (pss_cons (ps_set (i := 14) sc__law_way.nd rfl (.inl rfl) (pe_callTy call_int1 rfl M.int (by decide +kernel) (pa_cons (pe_cmpR op_eq (pv 1) pe_str (nomark _)) pa_nil)))
    (pss_cons (ps_if (pt_cmpR op_eq (pv 2) (pv 13) (nomark _))
      (pss_one (ps_par (i := 7) (j := 15) (by rfl) sc__law_way.nd rfl rfl (by decide) rfl rfl (pa_cons pe_str (pa_cons (pe_lst (pa_cons pe_int (pa_cons (pv 11) (pa_cons (pe_op op_add (pv 11) (pv 12)) pa_nil)))) pa_nil)) (by rfl))) (pss_one (ps_if (pt_chain op_le op_lt (pv 14) (pv 2) (pe_op op_add (pv 14) (pv 11)))
      (pss_one (ps_par3 (i := 7) (j := 2) (l := 15) (by rfl) sc__law_way.nd rfl rfl rfl (by decide) (by decide) (by decide) rfl rfl rfl (pa_cons pe_str (pa_cons (pe_op op_sub (pv 2) (pv 14)) (pa_cons (pe_lst (pa_cons pe_int (pa_cons pe_int (pa_cons pe_int pa_nil)))) pa_nil))) (by rfl))) (pss_cons (ps_set (i := 2) sc__law_way.nd rfl (.inl rfl) (pe_op op_sub (pe_op op_sub (pv 2) (pv 11)) (pe_callTy call_int1 rfl M.int (by decide +kernel) (pa_cons (pe_cmpR op_ne (pv 1) pe_str (nomark _)) pa_nil))))
    (pss_one (ps_par (i := 7) (j := 15) (by rfl) sc__law_way.nd rfl rfl (by decide) rfl rfl (pa_cons pe_str (pa_cons (pe_lst (pa_cons (pe_op op_add pe_int (pv 11)) (pa_cons (pe_op op_add pe_int (pv 11)) (pa_cons (pv 11) pa_nil)))) pa_nil)) (by rfl)))))))
    (pss_cons (ps_setLc (i := 6) (own := [("_law_one", 16), ("_law_other", 17)]) (g := gTup K 2 (gCons (gName 16) (gCons (gName 17) gNil))) (tt := tYes) (by rfl) sc__law_way.nd rfl rfl (sw_true rfl rfl rfl (by decide +kernel)) (pi_zip rfl M.zip (pa_cons (pv 6) (pa_cons (pv 15) pa_nil))) (blkOk_by (N := ["_law_nest_here", "_law_kind", "_law_place", "_law_sizes_here", "_law_seat", "_law_path", "_law_places", "_law_step", "_law_own", "_law_index", "_law_linked", "_law_lower", "_law_upper", "_law_root", "_law_begin", "_law_gone", "_law_one", "_law_other"]) (sc := defScope s__law_way) (by decide +kernel)) (fun _ _ _ _ _ => (pg_tup rfl (pgs_cons (pg_name (i := 16) sc__law_way.nd rfl (.inl rfl)) (pgs_cons (pg_name (i := 17) sc__law_way.nd rfl (.inl rfl)) pgs_nil)))) (fun _ _ _ _ _ => pts_nil) (fun _ _ _ _ _ => (pe_op op_add (pv 16) (pv 17))))
    (pss_one (ps_set (i := 5) sc__law_way.nd rfl (.inr rfl) (pe_op op_add_str (pv 5) (pv 7))))))))))))
    (pss_one (ps_ret (pe_op op_cat (pe_lst (pa_cons (pe_dget (Nat.lt_of_le_of_lt (Nat.add_le_add_left (by decide) _) hr.units) (pe_callTy (call_dictP rfl) rfl M.dict (by decide +kernel) (pa_cons (pe_call D_law_nodes.ok (hr.mono (by omega)) rfl D_law_nodes.g D_law_nodes.kp D_law_nodes.b .nil pass0 (pa_cons (pe_ix ix_tup (pe_ix ix_tup (pv 0) (pv 4) (fun _ _ => rfl)) pe_int (fun _ _ => rfl)) (pa_cons pe_str pa_nil))) pa_nil)) (pv 5) (fun _ _ => rfl)) pa_nil)) (pv 6))))))), ?_⟩
  refine ⟨_, rfl, p, us, es, rfl, ep, en, gn, e20, fun sz H1 s1 esz => ?_⟩
  refine ⟨_, rfl, p, us, rfl, .inr (SqT.of (s1 _ _ ep)), _, _, rfl, rfl, (by show 3 ≤ sizeLine; decide), fun t0 nt0 => ?_⟩
  refine ⟨t0, _, rfl, SqT.of upd_same, rfl, _, _, rfl, _, _, rfl, _, _, rfl, rfl, ?_⟩
  have k2 := same_new nt0 (.tup [.ref sz, .int ((us.length : Int) - 1), .str ""])
  have s2 := s1.trans k2
  have esz2 := k2 _ _ esz
  generalize upd H1 t0 (.tup [.ref sz, .int ((us.length : Int) - 1), .str ""]) = H2 at s2 esz2 ⊢
  refine ⟨(by show 3 ≤ sizeLine; decide), fun pa npa => ⟨_, _, rfl, ?_⟩⟩
  have k3 := same_new npa (.lst [.int 0, .int 0, .int 0])
  have epa := upd_same (H := H2) (a := pa) (o := .lst [.int 0, .int 0, .int 0])
  have s3 := s2.trans k3
  have esz3 := k3 _ _ esz2
  generalize upd H2 pa (.lst [.int 0, .int 0, .int 0]) = H3 at epa s3 esz3 ⊢
  have ep3 := s3 _ _ ep
  have en3 := en.keep (Tw.Same.keepT s3)
  obtain ⟨T0, ls0, ek0⟩ : ∃ T0 ls0, es[es.length - 1]? = some (T0, ls0) := ⟨_, _, List.getElem?_eq_getElem (by omega)⟩
  have first : WayAt X es k W c (es.length - 1) [] [] n 0 0 0 X := by
    refine ⟨⟨T0, T0, ls0, ek0, B.at_nil _, ?_⟩, hW, fun k' m y hy => ?_⟩
    · have e := partF_top gn ek0
      rw [List.getD_eq_getElem?_getD, eX] at e
      exact e
    · have : pl 0 0 0 k' = 0 := by cases k' <;> rfl
      rw [this, Nat.zero_add]
      exact hy
  have e0v : V.str (Str.ofString "") = vt [] := congrArg V.str str_0
  have ei : V.int ((us.length : Int) - 1) = vn (es.length - 1) := congrArg V.int (by omega)
  refine ⟨WInv p sz X es k W c H3, ⟨X.size + 1, es.length - 1, n, [], pa, 0, 0, 0, Str.ofString "x", none, none, none, none, none, none, none, none, none, none, by rw [← ei, ← e0v]; rfl, Same.refl _, epa, Nat.zero_le _, .inl ⟨by decide +kernel, [], X, first, rfl⟩⟩, fun m σ H4 hp => ?_⟩
  obtain ⟨seat, n, pq, pa, p0, p1, p2, st, o8, o9, o10, o11, o12, o13, o14, o15, o16, o17, rfl, s4, epa, pql, hp⟩ := hp
  refine ⟨_, rfl, rfl, _, rfl, ?_⟩
  rcases hp with ⟨st0, W0, U, wa, rfl⟩ | ⟨rfl, rfl, we⟩
  · refine iteNe (fun z => st0 (V.str.inj z)) ⟨fun σ' H' => ∃ m', m' < U.size + 1 ∧ WInv p sz X es k W c H3 m' σ' H', fun _ _ h => h, ?_⟩
    obtain ⟨⟨T, t, ls, ek, hat, hU⟩, here, up⟩ := wa
    have ge := gn seat _ ek
    obtain ⟨a, la, tv, ls', huk, ea, at0, ela, lk⟩ := en3.of ek
    have ll := lk.len
    have lsl := links_len ge (Nat.le_refl _)
    have T12 : T.size ≤ 12 := ge.s2
    have hk := (List.getElem?_eq_some_iff.mp ek).1
    -- the links here
    refine ⟨_, rfl, _, rfl, p, us, _, _, rfl, rfl, SqT.of (s4 _ _ ep3), atI_nat huk, a, _, _, _, rfl, rfl, SqT.of (s4 _ _ ea), rfl, la, rfl, ⟨_, SqT.of (s4 _ _ ela)⟩, fun D nD => ?_⟩
    have kD := same_new nD (.lst [])
    refine lc_tup (K := K) (a := la) (xs := ls') (fun j H' => Same H4 H' ∧ H' D = some (.lst (((ls.take j).filter fun l => decide (l.1 = pq)).map fun l => vn l.2))) ⟨kD, upd_same⟩ (fun j H' _ hp => SqT.of (hp.1 _ _ (s4 _ _ ela))) (fun j x H6 hx hp => ?_) (fun H6 hp => ?_)
    · obtain ⟨s6, eD6⟩ := hp
      obtain ⟨b, wd, i, rfl, el6, eb⟩ := lk.get hx
      have hj := (List.getElem?_eq_some_iff.mp el6).1
      refine ⟨b, _, rfl, SqT.of (s6 _ _ (s4 _ _ eb)), rfl, _, _, rfl, _, _, rfl, rfl, rfl, ?_⟩
      refine ⟨_, rfl, _, rfl, rfl, _, rfl, ?_⟩
      have tk := take_next el6
      have yl2 : ((ls.take j).filter fun l => decide (l.1 = pq)).length ≤ 13 := by
        have h1 := List.length_filter_le (fun l : Lk => decide (l.1 = pq)) (ls.take j)
        rw [List.length_take] at h1
        omega
      by_cases h0 : wd = pq
      · refine iteS (congrArg tx h0) ⟨_, rfl, _, eD6, by rw [List.length_map]; exact small1000 (by omega), fun b' o e => ?_, ?_⟩
        · rw [upd_ne (ne_of_none e nD)]; exact s6 _ _ e
        · rw [upd_same, tk, List.filter_append, List.map_append, show [(wd, i)].filter (fun l : Lk => decide (l.1 = pq)) = [(wd, i)] from filt_pos (decide_eq_true h0)]
          rfl
      · refine iteR (fun z => h0 (tx_inj z)) ⟨s6, ?_⟩
        rw [tk, List.filter_append, show [(wd, i)].filter (fun l : Lk => decide (l.1 = pq)) = [] from filt_neg (decide_eq_false h0), List.append_nil]
        exact eD6
    obtain ⟨s6, eD6⟩ := hp
    rw [ll, List.take_of_length_le (Nat.le_refl _)] at eD6
    refine ⟨_, rfl, (by show 0 ≤ sizeLine; decide), fun el0 nel => ?_⟩
    have k7 := same_new nel (.lst [])
    refine ⟨D, el0, _, rfl, rfl, SqL.of (k7 _ _ eD6), SqL.of upd_same, _, rfl, ?_⟩
    have s7 := s4.trans (s6.trans k7)
    have eD7 := k7 _ _ eD6
    have epa7 := k7 _ _ (s6 _ _ epa)
    generalize upd H6 el0 (.lst []) = H7 at s7 eD7 epa7 ⊢
    cases hf : ls.filter fun l => decide (l.1 = pq) with
    | nil =>
      rw [hf] at eD7
      refine iteF ?_
      obtain ⟨l, x, r, rfl⟩ : ∃ l x r, t = .node l x r := by
        cases t with
        | node l x r => exact ⟨l, x, r, rfl⟩
        | nil =>
          have e : U = .nil := by
            rw [hU]
            show hungL (fulls es) ls (pq ++ []) = .nil
            unfold hungL
            rw [List.append_nil, List.find?_eq_none.mpr]
            intro l hl z
            have : l ∈ ls.filter fun l => decide (l.1 = pq) := List.mem_filter.mpr ⟨hl, z⟩
            rw [hf] at this
            cases this
          rw [e] at here
          cases k <;> cases here
      rw [hU] at here up
      have hUs : U.size = (partF (fulls es) ls l (pq ++ [108])).size + 1 + (partF (fulls es) ls r (pq ++ [114])).size := by rw [hU, partF_node]; rfl
      have ha0 : (partF (fulls es) ls l (pq ++ [108])).size = (partF (fulls es) ls l (pq ++ [108])).size := rfl
      have stp := WayAt.step ek hat here up (ha := rfl) (hb := rfl)
      generalize hea : (partF (fulls es) ls l (pq ++ [108])).size = A0 at stp hUs
      generalize heb : (partF (fulls es) ls r (pq ++ [114])).size = B0 at stp hUs
      refine ⟨_, rfl, _, rfl, _, rfl, _, rfl, _, _, rfl, rfl, ?_, ?_⟩
      · rw [str_l, tx_len, tx_len]; exact small (by show _ + 1 ≤ 1000; first | (simp; done) | (simp; omega))
      rw [str_l, tx_app]
      refine ⟨p, sz, us, es, seat, _, l, ls, pq ++ [108], rfl, s7 _ _ ep3, en3.keep (Tw.Same.keepT s7), gn, e20, ek, s7 _ _ esz3, at_l hat, by first | (simp; done) | (simp; omega), fun H9 s9 => ?_⟩
      rw [hea]
      refine ⟨_, rfl, _, rfl, _, rfl, _, rfl, _, _, rfl, rfl, ?_, ?_⟩
      · rw [str_r, tx_len, tx_len]; exact small (by show _ + 1 ≤ 1000; first | (simp; done) | (simp; omega))
      rw [str_r, tx_app]
      have t9 := s7.trans s9
      refine ⟨p, sz, us, es, seat, _, r, ls, pq ++ [114], rfl, t9 _ _ ep3, en3.keep (Tw.Same.keepT t9), gn, e20, ek, t9 _ _ esz3, at_r hat, by first | (simp; done) | (simp; omega), fun H10 s10 => ⟨_, _, rfl, ?_⟩⟩
      rw [heb]
      have t10 := t9.trans s10
      have epa10 := s10 _ _ (s9 _ _ epa7)
      -- the root
      refine fun pd npd => ⟨_, rfl, _, rfl, _, rfl, _, _, rfl, rfl, upd_same, [((Sum.inr Kd.first.str : Key), .int 0), (Sum.inr Kd.between.str, vn A0), (Sum.inr Kd.last.str, .int ((A0 : Int) + (B0 : Int)))], rfl, by show 3 ≤ 15; decide, ?_⟩
      have k11 : Same H10 (upd (upd H10 pd (.dK [])) pd (.dK (mergeK [] [((Sum.inr Kd.first.str : Key), V.int 0), (Sum.inr Kd.between.str, vn A0), (Sum.inr Kd.last.str, V.int ((A0 : Int) + (B0 : Int)))]))) := fun b o e => by
        rw [upd_ne (ne_of_none e npd), upd_ne (ne_of_none e npd)]; exact e
      have epd : (upd (upd H10 pd (.dK [])) pd (.dK (mergeK [] [((Sum.inr Kd.first.str : Key), V.int 0), (Sum.inr Kd.between.str, vn A0), (Sum.inr Kd.last.str, V.int ((A0 : Int) + (B0 : Int)))]))) pd = _ := upd_same
      refine ⟨_, rfl, pd, _, rfl, root_get k epd, ?_⟩
      generalize (upd (upd H10 pd (.dK [])) pd (.dK (mergeK [] [((Sum.inr Kd.first.str : Key), V.int 0), (Sum.inr Kd.between.str, vn A0), (Sum.inr Kd.last.str, V.int ((A0 : Int) + (B0 : Int)))]))) = H11 at k11 epd ⊢
      have epa11 := k11 _ _ epa10
      refine ⟨_, rfl, rfl, .inr ⟨_, rfl, ?_⟩⟩
      rw [beg_eq k]
      refine ⟨_, rfl, _, rfl, rfl, _, rfl, ?_⟩
      rcases stp with ⟨e, we⟩ | ⟨m, e, hm, wa⟩ | ⟨m, e, hm, wa⟩
      · refine iteI (by rw [e]) ?_
        refine ⟨_, rfl, _, rfl, _, rfl, _, _, rfl, rfl, (by show 3 ≤ sizeLine; decide), fun ga nga => ⟨_, _, rfl, ?_⟩⟩
        generalize hHG : upd H11 ga _ = HG
        have ega : HG ga = some (.lst ([0, A0, A0 + B0].map vn)) := by rw [← hHG]; exact upd_same
        have sG : Same H11 HG := by rw [← hHG]; exact same_new nga _
        have epaG := sG _ _ epa11
        refine ⟨_, rfl, _, rfl, pa, ga, [p0, p1, p2].map vn, [0, A0, A0 + B0].map vn, rfl, SqL.of epaG, SqL.of ega, fun D2 nD2 => ?_⟩
        refine lc_zipL (K := K) (a := pa) (b := ga) (xs := [p0, p1, p2].map vn) (ys := [0, A0, A0 + B0].map vn) rfl (fun j H' => Same HG H' ∧ H' D2 = some (.lst (([p0 + (0), p1 + (A0), p2 + (A0 + B0)].map vn).take j))) ⟨same_new nD2 _, upd_same⟩ (fun j H' hp => ⟨SqL.of (hp.1 _ _ epaG), SqL.of (hp.1 _ _ ega)⟩) (fun j x y Tz H' hx hy hp nT => ?_) (fun H12 hp => ?_)
        · obtain ⟨u, v, rfl, rfl, hz⟩ := three hx hy
          have kT := same_new nT (.tup [vn u, vn v])
          refine ⟨Tz, _, rfl, SqT.of upd_same, rfl, _, _, rfl, _, _, rfl, rfl, rfl, kept ?_⟩
          refine ⟨_, rfl, _, rfl, _, _, rfl, rfl, _, kT _ _ hp.2, by rw [List.length_take]; exact small1000 (by show min j 3 ≤ 1000; omega), fun b o e => ?_, ?_⟩
          · rw [upd_ne (ne_of_none e nD2)]; exact kT _ _ (hp.1 _ _ e)
          · rw [upd_same, take_next hz]
            exact congrArg (fun z : Int => some (HO.lst ((([p0 + (0), p1 + (A0), p2 + (A0 + B0)].map vn).take j) ++ [V.int z]))) (by omega)
        obtain ⟨s12, eD2⟩ := hp
        have eD2 : H12 D2 = some (.lst [vn (p0 + (0)), vn (p1 + (A0)), vn (p2 + (A0 + B0))]) := eD2
        refine ⟨_, rfl, _, rfl, _, _, rfl, rfl, ?_, ?_⟩
        · first | (rw [str_0]; simp only [tx_len]) | simp only [tx_len]
          exact small (by show _ + _ ≤ 1000; first | (simp; done) | (simp; omega))
        first | rw [str_0, tx_app] | rw [tx_app]
        have sEnd := t10.trans ((k11.trans sG).trans s12)
        rw [List.append_nil]
        refine ⟨0, by omega, seat, n, pq, D2, p0 + 0, p1 + A0, p2 + (A0 + B0), _, _, _, _, _, _, _, _, _, _, _, rfl, sEnd, eD2, by first | omega | exact Nat.zero_le _, .inr ⟨str_0.symm, rfl, we⟩⟩
      · refine iteJ (fun z => gap_ne_l B0 k hm (by omega)) ?_
        refine ⟨_, rfl, _, rfl, _, _, rfl, rfl, _, rfl, ?_⟩
        rw [decide_eq_true (show ((gapL k : Nat) : Int) ≤ (n : Int) by omega)]
        refine iteT ⟨_, rfl, _, rfl, _, _, rfl, rfl, _, _, rfl, rfl, _, rfl, ?_⟩
        rw [decide_eq_true (show (n : Int) < ((gapL k : Nat) : Int) + (A0 : Int) by omega)]
        refine iteT ⟨_, rfl, _, rfl, _, _, rfl, rfl, (by show 3 ≤ sizeLine; decide), fun ga nga => ⟨_, _, _, rfl, ?_⟩⟩
        generalize hHG : upd H11 ga _ = HG
        have ega : HG ga = some (.lst ([1, 0, 0].map vn)) := by rw [← hHG]; exact upd_same
        have sG : Same H11 HG := by rw [← hHG]; exact same_new nga _
        have epaG := sG _ _ epa11
        refine ⟨_, rfl, _, rfl, pa, ga, [p0, p1, p2].map vn, [1, 0, 0].map vn, rfl, SqL.of epaG, SqL.of ega, fun D2 nD2 => ?_⟩
        refine lc_zipL (K := K) (a := pa) (b := ga) (xs := [p0, p1, p2].map vn) (ys := [1, 0, 0].map vn) rfl (fun j H' => Same HG H' ∧ H' D2 = some (.lst (([p0 + (1), p1 + (0), p2 + (0)].map vn).take j))) ⟨same_new nD2 _, upd_same⟩ (fun j H' hp => ⟨SqL.of (hp.1 _ _ epaG), SqL.of (hp.1 _ _ ega)⟩) (fun j x y Tz H' hx hy hp nT => ?_) (fun H12 hp => ?_)
        · obtain ⟨u, v, rfl, rfl, hz⟩ := three hx hy
          have kT := same_new nT (.tup [vn u, vn v])
          refine ⟨Tz, _, rfl, SqT.of upd_same, rfl, _, _, rfl, _, _, rfl, rfl, rfl, kept ?_⟩
          refine ⟨_, rfl, _, rfl, _, _, rfl, rfl, _, kT _ _ hp.2, by rw [List.length_take]; exact small1000 (by show min j 3 ≤ 1000; omega), fun b o e => ?_, ?_⟩
          · rw [upd_ne (ne_of_none e nD2)]; exact kT _ _ (hp.1 _ _ e)
          · rw [upd_same, take_next hz]
            exact congrArg (fun z : Int => some (HO.lst ((([p0 + (1), p1 + (0), p2 + (0)].map vn).take j) ++ [V.int z]))) (by omega)
        obtain ⟨s12, eD2⟩ := hp
        have eD2 : H12 D2 = some (.lst [vn (p0 + (1)), vn (p1 + (0)), vn (p2 + (0))]) := eD2
        refine ⟨_, rfl, _, rfl, _, _, rfl, rfl, ?_, ?_⟩
        · first | (rw [str_l]; simp only [tx_len]) | simp only [tx_len]
          exact small (by show _ + _ ≤ 1000; first | (simp; done) | (simp; omega))
        first | rw [str_l, tx_app] | rw [tx_app]
        have sEnd := t10.trans ((k11.trans sG).trans s12)
        have em : vn m = V.int ((n : Int) - ((gapL k : Nat) : Int)) := congrArg V.int (by omega)
        refine ⟨A0 + 1, by omega, seat, m, pq ++ [108], D2, p0 + 1, p1 + 0, p2 + 0, _, _, _, _, _, _, _, _, _, _, _, by rw [em]; rfl, sEnd, eD2, by first | (have := at_long _ _ (at_l hat); have := B.deep_le T; omega) | (simp; done), .inl ⟨(fun z => by rw [str_0] at z; exact absurd (tx_inj z) (by simp)), W0 ++ [108], _, wa, by rw [hea]⟩⟩
      · refine iteJ (fun z => gap_ne_r A0 k hm (by omega)) ?_
        have grl := gap_r_l A0 m k
        have gre := gapR_eq A0 k
        refine ⟨_, rfl, _, rfl, _, _, rfl, rfl, _, rfl, ?_⟩
        rw [decide_eq_true (show ((gapL k : Nat) : Int) ≤ (n : Int) by omega)]
        refine iteT ⟨_, rfl, _, rfl, _, _, rfl, rfl, _, _, rfl, rfl, _, rfl, ?_⟩
        rw [decide_eq_false (show ¬ (n : Int) < ((gapL k : Nat) : Int) + (A0 : Int) by omega)]
        refine iteF ⟨_, rfl, _, rfl, _, _, rfl, rfl, _, rfl, rfl, .inr ⟨_, rfl, _, _, rfl, rfl, ?_⟩⟩
        rw [beh_eq k]
        refine ⟨_, rfl, _, _, rfl, rfl, _, rfl, _, _, rfl, rfl, _, rfl, (by show 3 ≤ sizeLine; decide), fun ga nga => ⟨_, _, rfl, ?_⟩⟩
        generalize hHG : upd H11 ga _ = HG
        have ega : HG ga = some (.lst ([1 + A0, 1 + A0, A0].map vn)) := by rw [← hHG]; exact upd_same
        have sG : Same H11 HG := by rw [← hHG]; exact same_new nga _
        have epaG := sG _ _ epa11
        refine ⟨_, rfl, _, rfl, pa, ga, [p0, p1, p2].map vn, [1 + A0, 1 + A0, A0].map vn, rfl, SqL.of epaG, SqL.of ega, fun D2 nD2 => ?_⟩
        refine lc_zipL (K := K) (a := pa) (b := ga) (xs := [p0, p1, p2].map vn) (ys := [1 + A0, 1 + A0, A0].map vn) rfl (fun j H' => Same HG H' ∧ H' D2 = some (.lst (([p0 + (1 + A0), p1 + (1 + A0), p2 + (A0)].map vn).take j))) ⟨same_new nD2 _, upd_same⟩ (fun j H' hp => ⟨SqL.of (hp.1 _ _ epaG), SqL.of (hp.1 _ _ ega)⟩) (fun j x y Tz H' hx hy hp nT => ?_) (fun H12 hp => ?_)
        · obtain ⟨u, v, rfl, rfl, hz⟩ := three hx hy
          have kT := same_new nT (.tup [vn u, vn v])
          refine ⟨Tz, _, rfl, SqT.of upd_same, rfl, _, _, rfl, _, _, rfl, rfl, rfl, kept ?_⟩
          refine ⟨_, rfl, _, rfl, _, _, rfl, rfl, _, kT _ _ hp.2, by rw [List.length_take]; exact small1000 (by show min j 3 ≤ 1000; omega), fun b o e => ?_, ?_⟩
          · rw [upd_ne (ne_of_none e nD2)]; exact kT _ _ (hp.1 _ _ e)
          · rw [upd_same, take_next hz]
            exact congrArg (fun z : Int => some (HO.lst ((([p0 + (1 + A0), p1 + (1 + A0), p2 + (A0)].map vn).take j) ++ [V.int z]))) (by omega)
        obtain ⟨s12, eD2⟩ := hp
        have eD2 : H12 D2 = some (.lst [vn (p0 + (1 + A0)), vn (p1 + (1 + A0)), vn (p2 + (A0))]) := eD2
        refine ⟨_, rfl, _, rfl, _, _, rfl, rfl, ?_, ?_⟩
        · first | (rw [str_r]; simp only [tx_len]) | simp only [tx_len]
          exact small (by show _ + _ ≤ 1000; first | (simp; done) | (simp; omega))
        first | rw [str_r, tx_app] | rw [tx_app]
        have sEnd := t10.trans ((k11.trans sG).trans s12)
        have em : vn m = V.int ((n : Int) - (A0 : Int) - ((gapR 0 k : Nat) : Int)) := congrArg V.int (by omega)
        refine ⟨B0 + 1, by omega, seat, m, pq ++ [114], D2, p0 + (1 + A0), p1 + (1 + A0), p2 + A0, _, _, _, _, _, _, _, _, _, _, _, by rw [em]; rfl, sEnd, eD2, by first | (have := at_long _ _ (at_r hat); have := B.deep_le T; omega) | (simp; done), .inl ⟨(fun z => by rw [str_0] at z; exact absurd (tx_inj z) (by simp)), W0 ++ [114], _, wa, by rw [heb]⟩⟩
    | cons l0 rest0 =>
      rw [hf] at eD7
      refine iteT ?_
      have hl0 : l0 ∈ ls.filter fun l => decide (l.1 = pq) := by rw [hf]; exact List.mem_cons_self
      obtain ⟨hl1, hl2⟩ := List.mem_filter.mp hl0
      have hl2 : l0.1 = pq := of_decide_eq_true hl2
      have lt0 : l0.2 < seat := ge.ix l0 hl1
      have tnil : t = .nil := by
        have := (B.op_at T l0.1).mp (ge.op l0 hl1)
        rw [hl2, hat] at this
        exact Option.some.inj this
      obtain ⟨T2, ls2, ek2⟩ : ∃ T2 ls2, es[l0.2]? = some (T2, ls2) := ⟨_, _, List.getElem?_eq_getElem (by omega)⟩
      have hU2 : U = partF (fulls es) ls2 T2 [] := by
        rw [hU, tnil]
        show hungL (fulls es) ls (pq ++ []) = _
        rw [List.append_nil, ← hl2, hung_at ge.nd hl1, partF_top gn ek2]
      refine ⟨_, rfl, D, _, _, _, rfl, rfl, SqL.of eD7, (atI_nat (j := 0) (v := vn l0.2) rfl), (by show 2 ≤ sizeLine; decide), fun t1 nt1 => ?_⟩
      refine ⟨t1, _, rfl, SqT.of upd_same, rfl, _, _, rfl, _, _, rfl, rfl, ?_⟩
      have k8 := same_new nt1 (.tup [vn l0.2, .str ""])
      have s8 := s7.trans k8
      have epa8 := k8 _ _ epa7
      generalize upd H7 t1 (.tup [vn l0.2, .str ""]) = H8 at s8 epa8 ⊢
      clear ge ek hat hU huk ea at0 ela lk ll lsl T12 hk tnil eD6 eD7 epa7 s7 hf hl0 hl1 epa s4
      have ge := gn l0.2 _ ek2
      have T12 : T2.size ≤ 12 := ge.s2
      obtain ⟨l, x, r, rfl⟩ : ∃ l x r, T2 = .node l x r := by
        cases T2 with
        | node l x r => exact ⟨l, x, r, rfl⟩
        | nil => exact absurd ge.s1 (by show ¬ 1 ≤ 0; decide)
      rw [hU2] at here up
      have hUs : U.size = (partF (fulls es) ls2 l ([] ++ [108])).size + 1 + (partF (fulls es) ls2 r ([] ++ [114])).size := by rw [hU2, partF_node]; rfl
      have ha0 : (partF (fulls es) ls2 l ([] ++ [108])).size = (partF (fulls es) ls2 l ([] ++ [108])).size := rfl
      have stp := WayAt.step ek2 (B.at_nil _) here up (ha := rfl) (hb := rfl)
      generalize hea : (partF (fulls es) ls2 l ([] ++ [108])).size = A0 at stp hUs
      generalize heb : (partF (fulls es) ls2 r ([] ++ [114])).size = B0 at stp hUs
      refine ⟨_, rfl, _, rfl, _, rfl, _, rfl, _, _, rfl, rfl, ?_, ?_⟩
      · rw [str_0]; rw [str_l, tx_len, tx_len]; exact small (by show _ + 1 ≤ 1000; first | (simp; done) | (simp; omega))
      rw [str_0]; rw [str_l, tx_app]
      refine ⟨p, sz, us, es, l0.2, _, l, ls2, [] ++ [108], rfl, s8 _ _ ep3, en3.keep (Tw.Same.keepT s8), gn, e20, ek2, s8 _ _ esz3, at_l (B.at_nil _), by first | (simp; done) | (simp; omega), fun H9 s9 => ?_⟩
      rw [hea]
      refine ⟨_, rfl, _, rfl, _, rfl, _, rfl, _, _, rfl, rfl, ?_, ?_⟩
      · rw [str_r, tx_len, tx_len]; exact small (by show _ + 1 ≤ 1000; first | (simp; done) | (simp; omega))
      rw [str_r, tx_app]
      have t9 := s8.trans s9
      refine ⟨p, sz, us, es, l0.2, _, r, ls2, [] ++ [114], rfl, t9 _ _ ep3, en3.keep (Tw.Same.keepT t9), gn, e20, ek2, t9 _ _ esz3, at_r (B.at_nil _), by first | (simp; done) | (simp; omega), fun H10 s10 => ⟨_, _, rfl, ?_⟩⟩
      rw [heb]
      have t10 := t9.trans s10
      have epa10 := s10 _ _ (s9 _ _ epa8)
      -- the root
      refine fun pd npd => ⟨_, rfl, _, rfl, _, rfl, _, _, rfl, rfl, upd_same, [((Sum.inr Kd.first.str : Key), .int 0), (Sum.inr Kd.between.str, vn A0), (Sum.inr Kd.last.str, .int ((A0 : Int) + (B0 : Int)))], rfl, by show 3 ≤ 15; decide, ?_⟩
      have k11 : Same H10 (upd (upd H10 pd (.dK [])) pd (.dK (mergeK [] [((Sum.inr Kd.first.str : Key), V.int 0), (Sum.inr Kd.between.str, vn A0), (Sum.inr Kd.last.str, V.int ((A0 : Int) + (B0 : Int)))]))) := fun b o e => by
        rw [upd_ne (ne_of_none e npd), upd_ne (ne_of_none e npd)]; exact e
      have epd : (upd (upd H10 pd (.dK [])) pd (.dK (mergeK [] [((Sum.inr Kd.first.str : Key), V.int 0), (Sum.inr Kd.between.str, vn A0), (Sum.inr Kd.last.str, V.int ((A0 : Int) + (B0 : Int)))]))) pd = _ := upd_same
      refine ⟨_, rfl, pd, _, rfl, root_get k epd, ?_⟩
      generalize (upd (upd H10 pd (.dK [])) pd (.dK (mergeK [] [((Sum.inr Kd.first.str : Key), V.int 0), (Sum.inr Kd.between.str, vn A0), (Sum.inr Kd.last.str, V.int ((A0 : Int) + (B0 : Int)))]))) = H11 at k11 epd ⊢
      have epa11 := k11 _ _ epa10
      refine ⟨_, rfl, rfl, .inr ⟨_, rfl, ?_⟩⟩
      rw [beg_eq k]
      refine ⟨_, rfl, _, rfl, rfl, _, rfl, ?_⟩
      rcases stp with ⟨e, we⟩ | ⟨m, e, hm, wa⟩ | ⟨m, e, hm, wa⟩
      · refine iteI (by rw [e]) ?_
        refine ⟨_, rfl, _, rfl, _, rfl, _, _, rfl, rfl, (by show 3 ≤ sizeLine; decide), fun ga nga => ⟨_, _, rfl, ?_⟩⟩
        generalize hHG : upd H11 ga _ = HG
        have ega : HG ga = some (.lst ([0, A0, A0 + B0].map vn)) := by rw [← hHG]; exact upd_same
        have sG : Same H11 HG := by rw [← hHG]; exact same_new nga _
        have epaG := sG _ _ epa11
        refine ⟨_, rfl, _, rfl, pa, ga, [p0, p1, p2].map vn, [0, A0, A0 + B0].map vn, rfl, SqL.of epaG, SqL.of ega, fun D2 nD2 => ?_⟩
        refine lc_zipL (K := K) (a := pa) (b := ga) (xs := [p0, p1, p2].map vn) (ys := [0, A0, A0 + B0].map vn) rfl (fun j H' => Same HG H' ∧ H' D2 = some (.lst (([p0 + (0), p1 + (A0), p2 + (A0 + B0)].map vn).take j))) ⟨same_new nD2 _, upd_same⟩ (fun j H' hp => ⟨SqL.of (hp.1 _ _ epaG), SqL.of (hp.1 _ _ ega)⟩) (fun j x y Tz H' hx hy hp nT => ?_) (fun H12 hp => ?_)
        · obtain ⟨u, v, rfl, rfl, hz⟩ := three hx hy
          have kT := same_new nT (.tup [vn u, vn v])
          refine ⟨Tz, _, rfl, SqT.of upd_same, rfl, _, _, rfl, _, _, rfl, rfl, rfl, kept ?_⟩
          refine ⟨_, rfl, _, rfl, _, _, rfl, rfl, _, kT _ _ hp.2, by rw [List.length_take]; exact small1000 (by show min j 3 ≤ 1000; omega), fun b o e => ?_, ?_⟩
          · rw [upd_ne (ne_of_none e nD2)]; exact kT _ _ (hp.1 _ _ e)
          · rw [upd_same, take_next hz]
            exact congrArg (fun z : Int => some (HO.lst ((([p0 + (0), p1 + (A0), p2 + (A0 + B0)].map vn).take j) ++ [V.int z]))) (by omega)
        obtain ⟨s12, eD2⟩ := hp
        have eD2 : H12 D2 = some (.lst [vn (p0 + (0)), vn (p1 + (A0)), vn (p2 + (A0 + B0))]) := eD2
        refine ⟨_, rfl, _, rfl, _, _, rfl, rfl, ?_, ?_⟩
        · first | (rw [str_0]; simp only [tx_len]) | simp only [tx_len]
          exact small (by show _ + _ ≤ 1000; first | (simp; done) | (simp; omega))
        first | rw [str_0, tx_app] | rw [tx_app]
        have sEnd := t10.trans ((k11.trans sG).trans s12)
        rw [List.append_nil]
        refine ⟨0, by omega, l0.2, n, [], D2, p0 + 0, p1 + A0, p2 + (A0 + B0), _, _, _, _, _, _, _, _, _, _, _, rfl, sEnd, eD2, by first | omega | exact Nat.zero_le _, .inr ⟨str_0.symm, rfl, we⟩⟩
      · refine iteJ (fun z => gap_ne_l B0 k hm (by omega)) ?_
        refine ⟨_, rfl, _, rfl, _, _, rfl, rfl, _, rfl, ?_⟩
        rw [decide_eq_true (show ((gapL k : Nat) : Int) ≤ (n : Int) by omega)]
        refine iteT ⟨_, rfl, _, rfl, _, _, rfl, rfl, _, _, rfl, rfl, _, rfl, ?_⟩
        rw [decide_eq_true (show (n : Int) < ((gapL k : Nat) : Int) + (A0 : Int) by omega)]
        refine iteT ⟨_, rfl, _, rfl, _, _, rfl, rfl, (by show 3 ≤ sizeLine; decide), fun ga nga => ⟨_, _, _, rfl, ?_⟩⟩
        generalize hHG : upd H11 ga _ = HG
        have ega : HG ga = some (.lst ([1, 0, 0].map vn)) := by rw [← hHG]; exact upd_same
        have sG : Same H11 HG := by rw [← hHG]; exact same_new nga _
        have epaG := sG _ _ epa11
        refine ⟨_, rfl, _, rfl, pa, ga, [p0, p1, p2].map vn, [1, 0, 0].map vn, rfl, SqL.of epaG, SqL.of ega, fun D2 nD2 => ?_⟩
        refine lc_zipL (K := K) (a := pa) (b := ga) (xs := [p0, p1, p2].map vn) (ys := [1, 0, 0].map vn) rfl (fun j H' => Same HG H' ∧ H' D2 = some (.lst (([p0 + (1), p1 + (0), p2 + (0)].map vn).take j))) ⟨same_new nD2 _, upd_same⟩ (fun j H' hp => ⟨SqL.of (hp.1 _ _ epaG), SqL.of (hp.1 _ _ ega)⟩) (fun j x y Tz H' hx hy hp nT => ?_) (fun H12 hp => ?_)
        · obtain ⟨u, v, rfl, rfl, hz⟩ := three hx hy
          have kT := same_new nT (.tup [vn u, vn v])
          refine ⟨Tz, _, rfl, SqT.of upd_same, rfl, _, _, rfl, _, _, rfl, rfl, rfl, kept ?_⟩
          refine ⟨_, rfl, _, rfl, _, _, rfl, rfl, _, kT _ _ hp.2, by rw [List.length_take]; exact small1000 (by show min j 3 ≤ 1000; omega), fun b o e => ?_, ?_⟩
          · rw [upd_ne (ne_of_none e nD2)]; exact kT _ _ (hp.1 _ _ e)
          · rw [upd_same, take_next hz]
            exact congrArg (fun z : Int => some (HO.lst ((([p0 + (1), p1 + (0), p2 + (0)].map vn).take j) ++ [V.int z]))) (by omega)
        obtain ⟨s12, eD2⟩ := hp
        have eD2 : H12 D2 = some (.lst [vn (p0 + (1)), vn (p1 + (0)), vn (p2 + (0))]) := eD2
        refine ⟨_, rfl, _, rfl, _, _, rfl, rfl, ?_, ?_⟩
        · first | (rw [str_l]; simp only [tx_len]) | simp only [tx_len]
          exact small (by show _ + _ ≤ 1000; first | (simp; done) | (simp; omega))
        first | rw [str_l, tx_app] | rw [tx_app]
        have sEnd := t10.trans ((k11.trans sG).trans s12)
        have em : vn m = V.int ((n : Int) - ((gapL k : Nat) : Int)) := congrArg V.int (by omega)
        refine ⟨A0 + 1, by omega, l0.2, m, [] ++ [108], D2, p0 + 1, p1 + 0, p2 + 0, _, _, _, _, _, _, _, _, _, _, _, by rw [em]; rfl, sEnd, eD2, by first | (have := at_long _ _ (at_l (B.at_nil _)); have := B.deep_le (B.node l x r); omega) | (simp; done), .inl ⟨(fun z => by rw [str_0] at z; exact absurd (tx_inj z) (by simp)), W0 ++ [108], _, wa, by rw [hea]⟩⟩
      · refine iteJ (fun z => gap_ne_r A0 k hm (by omega)) ?_
        have grl := gap_r_l A0 m k
        have gre := gapR_eq A0 k
        refine ⟨_, rfl, _, rfl, _, _, rfl, rfl, _, rfl, ?_⟩
        rw [decide_eq_true (show ((gapL k : Nat) : Int) ≤ (n : Int) by omega)]
        refine iteT ⟨_, rfl, _, rfl, _, _, rfl, rfl, _, _, rfl, rfl, _, rfl, ?_⟩
        rw [decide_eq_false (show ¬ (n : Int) < ((gapL k : Nat) : Int) + (A0 : Int) by omega)]
        refine iteF ⟨_, rfl, _, rfl, _, _, rfl, rfl, _, rfl, rfl, .inr ⟨_, rfl, _, _, rfl, rfl, ?_⟩⟩
        rw [beh_eq k]
        refine ⟨_, rfl, _, _, rfl, rfl, _, rfl, _, _, rfl, rfl, _, rfl, (by show 3 ≤ sizeLine; decide), fun ga nga => ⟨_, _, rfl, ?_⟩⟩
        generalize hHG : upd H11 ga _ = HG
        have ega : HG ga = some (.lst ([1 + A0, 1 + A0, A0].map vn)) := by rw [← hHG]; exact upd_same
        have sG : Same H11 HG := by rw [← hHG]; exact same_new nga _
        have epaG := sG _ _ epa11
        refine ⟨_, rfl, _, rfl, pa, ga, [p0, p1, p2].map vn, [1 + A0, 1 + A0, A0].map vn, rfl, SqL.of epaG, SqL.of ega, fun D2 nD2 => ?_⟩
        refine lc_zipL (K := K) (a := pa) (b := ga) (xs := [p0, p1, p2].map vn) (ys := [1 + A0, 1 + A0, A0].map vn) rfl (fun j H' => Same HG H' ∧ H' D2 = some (.lst (([p0 + (1 + A0), p1 + (1 + A0), p2 + (A0)].map vn).take j))) ⟨same_new nD2 _, upd_same⟩ (fun j H' hp => ⟨SqL.of (hp.1 _ _ epaG), SqL.of (hp.1 _ _ ega)⟩) (fun j x y Tz H' hx hy hp nT => ?_) (fun H12 hp => ?_)
        · obtain ⟨u, v, rfl, rfl, hz⟩ := three hx hy
          have kT := same_new nT (.tup [vn u, vn v])
          refine ⟨Tz, _, rfl, SqT.of upd_same, rfl, _, _, rfl, _, _, rfl, rfl, rfl, kept ?_⟩
          refine ⟨_, rfl, _, rfl, _, _, rfl, rfl, _, kT _ _ hp.2, by rw [List.length_take]; exact small1000 (by show min j 3 ≤ 1000; omega), fun b o e => ?_, ?_⟩
          · rw [upd_ne (ne_of_none e nD2)]; exact kT _ _ (hp.1 _ _ e)
          · rw [upd_same, take_next hz]
            exact congrArg (fun z : Int => some (HO.lst ((([p0 + (1 + A0), p1 + (1 + A0), p2 + (A0)].map vn).take j) ++ [V.int z]))) (by omega)
        obtain ⟨s12, eD2⟩ := hp
        have eD2 : H12 D2 = some (.lst [vn (p0 + (1 + A0)), vn (p1 + (1 + A0)), vn (p2 + (A0))]) := eD2
        refine ⟨_, rfl, _, rfl, _, _, rfl, rfl, ?_, ?_⟩
        · first | (rw [str_r]; simp only [tx_len]) | simp only [tx_len]
          exact small (by show _ + _ ≤ 1000; first | (simp; done) | (simp; omega))
        first | rw [str_r, tx_app] | rw [tx_app]
        have sEnd := t10.trans ((k11.trans sG).trans s12)
        have em : vn m = V.int ((n : Int) - (A0 : Int) - ((gapR 0 k : Nat) : Int)) := congrArg V.int (by omega)
        refine ⟨B0 + 1, by omega, l0.2, m, [] ++ [114], D2, p0 + (1 + A0), p1 + (1 + A0), p2 + A0, _, _, _, _, _, _, _, _, _, _, _, by rw [em]; rfl, sEnd, eD2, by first | (have := at_long _ _ (at_r (B.at_nil _)); have := B.deep_le (B.node l x r); omega) | (simp; done), .inl ⟨(fun z => by rw [str_0] at z; exact absurd (tx_inj z) (by simp)), W0 ++ [114], _, wa, by rw [heb]⟩⟩
  · refine iteEq rfl ?_
    obtain ⟨⟨T, l, r, ls, ek, hat⟩, up⟩ := we
    have ge := gn seat _ ek
    obtain ⟨a, la, tv, ls', huk, ea, at0, ela, lk⟩ := en3.of ek
    have T12 : T.size ≤ 12 := ge.s2
    refine ⟨_, rfl, _, rfl, p, us, _, _, rfl, rfl, SqT.of (s4 _ _ ep3), atI_nat huk, a, _, _, _, rfl, rfl, SqT.of (s4 _ _ ea), rfl, ?_⟩
    refine ⟨tv, T, [], by rw [str_0]; rfl, at0.same s4, by omega, by show T.size + 0 ≤ 500; omega, fun pn un H5 s5 en5 st5 => ?_⟩
    obtain ⟨ps, eps, pair⟩ := paired_steps (K := K) st5
    refine ⟨pn, ps, _, rfl, by rw [← eps]; exact SqL.of en5, pair, fun pd npd => ?_⟩
    have k6 := same_new npd (.dK (mergeK [] ((T.steps .first []).map fun s => ((.inr (tx s.1) : Key), (.str (ch s.2) : V)))))
    obtain ⟨_, hmem⟩ := List.mem_map.mp ((steps_mem T [] pq).mpr ⟨pq, rfl, l, c, r, hat⟩)
    have hin : (pq, c) ∈ T.steps .first [] := by
      obtain ⟨⟨q', x'⟩, h1, h2⟩ := List.mem_map.mp ((steps_mem T [] pq).mpr ⟨pq, rfl, l, c, r, hat⟩)
      have h2 : q' = pq := h2
      subst h2
      obtain ⟨w', l', r', e1', e2'⟩ := steps_at .first T [] q' x' h1
      rw [List.nil_append] at e1'
      subst e1'
      rw [hat] at e2'
      cases e2'
      exact h1
    refine ⟨_, rfl, pd, _, rfl, DGet.k (k := .inr (tx pq)) (upd_same.trans (congrArg (fun z => some (HO.dK z)) rfl)) |> fun h => by rw [look_dict _ [] (steps_nodup T []) hin] at h; exact h, ?_⟩
    refine ⟨(by show 1 ≤ sizeLine; decide), fun pc npc => ?_⟩
    have k7 := same_new npc (.lst [.str (ch c)])
    have sA := s5.trans (k6.trans k7)
    refine ⟨_, rfl, pc, pa, _, _, rfl, rfl, upd_same, sA _ _ epa, (by show 1 + 3 ≤ sizeLine; decide), fun pz npz => ?_⟩
    have k8 := same_new npz (.lst ([.str (ch c)] ++ [vn p0, vn p1, vn p2]))
    exact q pz p0 p1 p2 _ ((s3.trans s4).trans (sA.trans k8)) upd_same up
end
/-! ### _law_right -/
def rLenSet (w : World) : List V → Hp → VK → Prop := fun xs H Q => ∃ (a : Addr) (S : Int → Bool) (n : Nat), xs = [.ref a] ∧ H a = some (SetO w a S n) ∧ n < 1000 ∧ ((∀ js : List Int, js.Nodup → (∀ k, S k = true ↔ k ∈ js) → js.length = n) → Q (.int (n : Int)) H)
theorem call_lenSet {X : Cx} : CallR X (.builtin "len") (rLenSet X.w) := by
  intro pins s σ H xs us Q I r h
  obtain ⟨a, S, n, rfl, ha, hn, q⟩ := h
  obtain ⟨u, rfl, ru⟩ := vals1 r
  cases ru
  obtain ⟨o, es, ep, t, ho, hex, hd, good, nd, hS, hsc, hf, hz, _⟩ := setO_get I ha
  refine PySem.call_len_set ho hex hd hf (by omega) ⟨.int (n : Int), H, I.kept (fun _ _ e => e), ⟨_, by rw [hz]⟩, q fun js jnd hj => ?_⟩
  have h1 := nodup_le jnd (m := es.toList.map L2.keyOf) fun k hk => (hS k).mp ((hj k).mpr hk)
  have h2 := nodup_le nd (m := js) fun k hk => (hj k).mp ((hS k).mpr hk)
  have e0 : (es.toList.map L2.keyOf).length = es.size := by rw [List.length_map, Array.length_toList]
  rw [e0] at h1 h2
  omega
theorem kd_three {j : Nat} {z : V} (h : [V.str "first", V.str "between", V.str "last"][j]? = some z) : ∃ k : Kd, z = .str k.str ∧ (∀ p0 p1 p2 : Nat, [vn p0, vn p1, vn p2][j]? = some (vn (pl p0 p1 p2 k))) ∧ ([Kd.first, .between, .last] : List Kd)[j]? = some k := by
  match j, h with
  | 0, h => cases h; exact ⟨.first, rfl, fun _ _ _ => rfl, rfl⟩
  | 1, h => cases h; exact ⟨.between, rfl, fun _ _ _ => rfl, rfl⟩
  | 2, h => cases h; exact ⟨.last, rfl, fun _ _ _ => rfl, rfl⟩
theorem steps_one {k : Kd} {t : B} {m n : Nat} {W : List Nat} {c c' : Nat} (h1 : (t.steps k [])[m]? = some (W, c)) (h2 : (t.steps k [])[n]? = some (W, c')) : m = n := nodup_get (paths_nodup k t) (path_get h1) (path_get h2)
theorem int_ok {m : Nat} (h : m < 10 ^ 30) : okR (.int (m : Int)) = true := by
  simp only [okR, Bool.and_eq_true, decide_eq_true_eq]
  exact ⟨by omega, int_lt h⟩
theorem steps_lt {k : Kd} {t : B} {m : Nat} {y : List Nat × Nat} (h : (t.steps k [])[m]? = some y) : m < t.size := by
  have := (List.getElem?_eq_some_iff.mp h).1
  rw [B.steps_len] at this
  exact this
theorem steps_wk_at {k : Kd} {t : B} {m : Nat} {W : List Nat} {c : Nat} (h : (t.steps k [])[m]? = some (W, c)) : (t.wk k)[m]? = some c := by
  rw [← t.steps_wk k [], List.getElem?_map, h]
  rfl
def foundD (c p0 p1 p2 : Nat) : PyData := .list [.str (ch c), .int (p0 : Int), .int (p1 : Int), .int (p2 : Int)]
theorem found_ok {c p0 p1 p2 : Nat} (hc : c < 128) (h0 : p0 < 10 ^ 30) (h1 : p1 < 10 ^ 30) (h2 : p2 < 10 ^ 30) : okR (foundD c p0 p1 p2) = true ∧ wtR (foundD c p0 p1 p2) ≤ 1000000 ∧ (foundD c p0 p1 p2).depth ≤ 60 := by
  have i := okR_ch hc
  refine ⟨?_, ?_, ?_⟩
  · rw [show okR (foundD c p0 p1 p2) = (okR (.str (ch c)) && (okR (.int (p0 : Int)) && (okR (.int (p1 : Int)) && (okR (.int (p2 : Int)) && true)))) by simp only [foundD, okR, okRs], i, int_ok h0, int_ok h1, int_ok h2]
    rfl
  · rw [show wtR (foundD c p0 p1 p2) = 3 + (wtR (.str (ch c)) + 2 + (31 + 2 + (31 + 2 + (31 + 2 + 0)))) by simp only [foundD, wtR, wtRs]]
    show 3 + (12 + 2 + (31 + 2 + (31 + 2 + (31 + 2 + 0)))) ≤ 1000000
    decide
  · simp only [foundD, PyData.depth, PyData.depthAll]
    decide
/-- the rows seen: at each place of js the three places of the node there -/
def RowsAt (X : B) (k : Kd) (js : List Nat) (H : Hp) (rs : List V) : Prop := ∀ (t : Nat) (r : V), rs[t]? = some r → ∃ (b : Addr) (a0 a1 a2 n : Nat) (W : List Nat) (c : Nat), r = .ref b ∧ H b = some (.lst [vn a0, vn a1, vn a2]) ∧ js[t]? = some n ∧ (X.steps k [])[n]? = some (W, c) ∧ ∀ k' : Kd, (X.steps k' [])[pl a0 a1 a2 k']? = some (W, c)
theorem rows_self {X : B} {k : Kd} {js : List Nat} {H : Hp} {rs : List V} (h : RowsAt X k js H rs) {a0 a1 a2 : Nat} (e : rs = [vn a0, vn a1, vn a2]) : False := by
  subst e
  obtain ⟨b, _, _, _, _, _, _, h1, _⟩ := h 0 (vn a0) rfl
  cases h1
def spRightL : Sp := fun vs H Q _ => ∃ (p pj : Addr) (us : List V) (es : List En) (X : B) (k : Kd) (js : List Nat), vs = [.ref p, .str k.str, .ref pj] ∧ H p = some (.tup us) ∧ EnAt H us es ∧ GoodN 12 es ∧ 1 ≤ es.length ∧ es.length ≤ 20 ∧ (fulls es)[es.length - 1]? = some X ∧ H pj = some (.lst (js.map vn)) ∧ js.length ≤ 10 ∧ js.Nodup ∧ (∀ j ∈ js, j < X.size) ∧
  ∀ (H' : Hp), Same H H' → Q (.bl true) H'
section
variable {P : Program} {w : World} {K : PySem.W.Frag} {mg : Str → Option Value} {base : Heap} {f : Addr} {fd : FuncData}
theorem ok_rightL (F : Fun K "_law_right" "_law_right" s__law_right f fd) (M : Mgs mg) (mset : mg "set" = none) (D_law_way : Df P w K mg base 42 "_law_way" ["_law_nest_here", "_law_kind", "_law_place"] spWayL) (Dlabel_in : Df P w K mg base 32 "label_in" ["nest", "kind", "place"] spLabIn) (Dother_place : Df P w K mg base 32 "other_place" ["nest", "kind", "place", "other"] spOther) (D_law_same : DfG P w K mg base 1 "_law_same" ["_law_found", "_law_due"] (spSameV K)) :
    FnOkG P w K mg base 43 f fd ["_law_nest_here", "_law_kind", "_law_places"] spRightL := by
  refine fnG F sc__law_right (fun vs H Q E h => ?_) (fun cdv A outer s H vs Q E gs hr h => ?_)
  · obtain ⟨p, pj, us, es, X, k, js, rfl, _⟩ := h
    rfl
  obtain ⟨p, pj, us, es, X, k, js, rfl, ep, en, gn, e1, e20, eX, epj, jl, jnd, jX, q⟩ := h
  obtain ⟨xsz, xlt⟩ := full_size gn e20 eX
  refine ⟨_, (pss_cons (ps_par (i := 3) (j := 4) (by rfl) sc__law_right.nd rfl rfl (by decide) rfl rfl (pa_cons (pe_lst (pa_cons pe_str (pa_cons pe_str (pa_cons pe_str pa_nil)))) (pa_cons (pe_lst pa_nil) pa_nil)) (by rfl))
    (pss_cons (ps_for PassesOwn.never rfl (pi_list (pv 2)) (pg_name (i := 5) sc__law_right.nd rfl (.inr rfl))
      (pss_cons (ps_set (i := 6) sc__law_right.nd rfl (.inl rfl) (pe_call D_law_way.ok (hr.mono (by omega)) rfl D_law_way.g D_law_way.kp D_law_way.b .nil pass0 (pa_cons (pv 0) (pa_cons (pv 1) (pa_cons (pv 5) pa_nil)))))
    (pss_cons (ps_set (i := 8) sc__law_right.nd rfl (.inl rfl) (pe_op op_cat (pe_lst (pa_cons (pe_call Dlabel_in.ok (hr.mono (by omega)) rfl Dlabel_in.g Dlabel_in.kp Dlabel_in.b .nil pass0 (pa_cons (pv 0) (pa_cons (pv 1) (pa_cons (pv 5) pa_nil)))) pa_nil)) (pe_lc (own := [("_law_other", 7)]) (g := gName 7) (tt := tYes) rfl sc__law_right.nd (pi_list (pv 3)) (blkOk_by (N := ["_law_nest_here", "_law_kind", "_law_places", "_law_kinds", "_law_seen", "_law_place", "_law_due", "_law_other", "_law_found", "_law_there", "_law_k", "_law_row"]) (sc := defScope s__law_right) (by decide +kernel)) (fun _ _ _ _ _ => (pg_name (i := 7) sc__law_right.nd rfl (.inl rfl))) (fun _ _ _ _ _ => pts_nil) (fun _ _ _ _ _ => (pe_call Dother_place.ok (hr.mono (by omega)) rfl Dother_place.g Dother_place.kp Dother_place.b .nil pass0 (pa_cons (pv 0) (pa_cons (pv 1) (pa_cons (pv 5) (pa_cons (pv 7) pa_nil)))))))))
    (pss_cons (ps_if (pt_not (pt_val (pe_callG D_law_same.ok gs (hr.mono (by omega)) rfl D_law_same.g D_law_same.kp D_law_same.b (pa_cons (pv 8) (pa_cons (pv 6) pa_nil)))))
      (pss_one (ps_ret pe_bl)) pss_nil)
    (pss_cons (ps_for PassesOwn.never rfl (pi_zip rfl M.zip (pa_cons (pv 3) (pa_cons (pe_slice sl_list (pv 6) (po_some pe_int) po_none) pa_nil))) (pg_tup rfl (pgs_cons (pg_name (i := 7) sc__law_right.nd rfl (.inl rfl)) (pgs_cons (pg_name (i := 9) sc__law_right.nd rfl (.inl rfl)) pgs_nil)))
      (pss_one (ps_if (pt_not (pt_val (pe_callG D_law_same.ok gs (hr.mono (by omega)) rfl D_law_same.g D_law_same.kp D_law_same.b (pa_cons (pe_call Dother_place.ok (hr.mono (by omega)) rfl Dother_place.g Dother_place.kp Dother_place.b .nil pass0 (pa_cons (pv 0) (pa_cons (pv 7) (pa_cons (pv 9) (pa_cons (pv 1) pa_nil))))) (pa_cons (pv 5) pa_nil)))))
      (pss_one (ps_ret pe_bl)) pss_nil)))
    (pss_one (ps_expr (pe_bm PySem.F.plainAttrs_list PySem.F.slot_list_append PySem.F.type_list_append mt_append (pv 4) (pa_cons (pe_slice sl_list (pv 6) (po_some pe_int) po_none) pa_nil)))))))))
    (pss_cons (ps_for PassesOwn.never rfl (pi_range1 rfl M.range (pa_cons pe_int pa_nil)) (pg_name (i := 10) sc__law_right.nd rfl (.inr rfl))
      (pss_one (ps_if (pt_cmpR op_ne (pe_callB call_lenSet rfl M.len PySem.boot_len (pa_cons (pe_callTy (show CallR _ (.type "set") (rSetIL K w) from cr_setIL rfl) rfl mset (by decide +kernel) (pa_cons (pe_lc (own := [("_law_row", 11)]) (g := gName 11) (tt := tYes) rfl sc__law_right.nd (pi_list (pv 4)) (blkOk_by (N := ["_law_nest_here", "_law_kind", "_law_places", "_law_kinds", "_law_seen", "_law_place", "_law_due", "_law_other", "_law_found", "_law_there", "_law_k", "_law_row"]) (sc := defScope s__law_right) (by decide +kernel)) (fun _ _ _ _ _ => (pg_name (i := 11) sc__law_right.nd rfl (.inl rfl))) (fun _ _ _ _ _ => pts_nil) (fun _ _ _ _ _ => (pe_ix (show IxR _ (rIxL K) from ix_list) (pv 11) (pv 10) (fun _ _ => rfl)))) pa_nil)) pa_nil)) (pe_callB call_len_seq rfl M.len PySem.boot_len (pa_cons (pv 2) pa_nil)) (nomark _))
      (pss_one (ps_ret pe_bl)) pss_nil)))
    (pss_one (ps_ret pe_bl))))), ?_⟩
  refine ⟨(by show 3 ≤ sizeLine; decide), fun pk npk => ⟨(by show 0 ≤ sizeLine; decide), fun ps nps => ⟨_, _, rfl, ?_⟩⟩⟩
  have k1 := same_new npk (.lst [.str "first", .str "between", .str "last"])
  have k2 := same_new nps (.lst [])
  have epk := k2 _ _ (upd_same (H := H) (a := pk) (o := .lst [.str "first", .str "between", .str "last"]))
  have eps := upd_same (H := upd H pk (.lst [.str "first", .str "between", .str "last"])) (a := ps) (o := .lst [])
  have s2 := k1.trans k2
  have npsH : H ps = none := k1.free nps
  have npk' : pk ≠ ps := ne_of_none upd_same nps
  generalize upd (upd H pk (.lst [.str "first", .str "between", .str "last"])) ps (.lst []) = H2 at epk eps s2 ⊢
  refine ⟨_, rfl, pj, rfl, ⟨_, SqL.of (s2 _ _ epj)⟩, ?_⟩
  refine for_list (K := K) (a := pj) (xs := js.map vn) (fun i σ H' => ∃ (rs : List V) (o5 o6 o7 o8 o9 o10 o11 : Option V), σ = [some (.ref p), some (.str k.str), some (.ref pj), some (.ref pk), some (.ref ps), o5, o6, o7, o8, o9, o10, o11] ∧ Same H H' ∧ H' pk = some (.lst [.str "first", .str "between", .str "last"]) ∧ H' ps = some (.lst rs) ∧ rs.length = i ∧ RowsAt X k js H' rs)
    ⟨[], _, _, _, _, _, _, _, rfl, s2, epk, eps, rfl, fun t r h => by simp at h⟩ (fun i σ H' _ hp => by obtain ⟨_, _, _, _, _, _, _, _, _, sm, _⟩ := hp; exact SqL.of (sm _ _ epj)) (fun i x σ H3 hx hp => ?_) (fun σ H3 hp => ?_)
  · obtain ⟨rs, o5, o6, o7, o8, o9, o10, o11, rfl, s3, epk3, eps3, rl, rows⟩ := hp
    rw [List.getElem?_map] at hx
    obtain ⟨n, hn, rfl⟩ := Option.map_eq_some_iff.mp hx
    have hi := (List.getElem?_eq_some_iff.mp hn).1
    have nX := jX n (List.mem_of_getElem? hn)
    obtain ⟨⟨W, c⟩, eW⟩ : ∃ s, (X.steps k [])[n]? = some s := ⟨_, List.getElem?_eq_getElem (by rw [X.steps_len]; exact nX)⟩
    have c128 : c < 128 := by
      have := (xlt c ((wk_mem k X c).mp (List.mem_of_getElem? (steps_wk_at eW)))).2
      omega
    have en3 := en.keep (Tw.Same.keepT s3)
    refine ⟨_, rfl, _, rfl, _, rfl, p, us, es, X, k, n, W, c, rfl, s3 _ _ ep, en3, gn, e1, e20, eX, eW, fun pd p0 p1 p2 H4 s4 epd up => ?_⟩
    have b0 := Nat.lt_trans (steps_lt (up .first)) xsz
    have b1 := Nat.lt_trans (steps_lt (up .between)) xsz
    have b2 := Nat.lt_trans (steps_lt (up .last)) xsz
    have s34 := s3.trans s4
    refine ⟨_, rfl, _, rfl, _, rfl, p, us, es, X, k, n, c, rfl, s34 _ _ ep, en3.keep (Tw.Same.keepT s4), gn, e1, e20, eX, steps_wk_at eW, fun H5 s5 => ⟨(by show 1 ≤ sizeLine; decide), fun pa npa => ?_⟩⟩
    have k6 := same_new npa (.lst [.str (ch c)])
    have epa := upd_same (H := H5) (a := pa) (o := .lst [.str (ch c)])
    have s46 := s4.trans (s5.trans k6)
    have s56 := s5.trans k6
    generalize upd H5 pa (.lst [.str (ch c)]) = H6 at epa s46 s56 ⊢
    refine ⟨_, rfl, pk, rfl, ⟨_, SqL.of (s46 _ _ epk3)⟩, fun D nD => ?_⟩
    refine lc_list (K := K) (a := pk) (xs := [.str "first", .str "between", .str "last"]) (fun j H' => Same H6 H' ∧ H' D = some (.lst ([vn p0, vn p1, vn p2].take j))) ⟨same_new nD _, upd_same⟩ (fun j H' _ hp => SqL.of (hp.1 _ _ (s46 _ _ epk3))) (fun j z H7 hz hp => ?_) (fun H7 hp => ?_)
    · obtain ⟨s7, eD⟩ := hp
      obtain ⟨k', rfl, hpl, _⟩ := kd_three hz
      have s37 := s3.trans (s46.trans s7)
      refine ⟨rfl, kept ⟨_, rfl, _, rfl, _, rfl, _, rfl, p, us, es, X, k, k', n, W, c, rfl, s37 _ _ ep, en.keep (Tw.Same.keepT s37), gn, e1, e20, eX, eW, fun m H8 s8 hm => ?_⟩⟩
      have em := steps_one hm (up k')
      subst em
      refine ⟨_, s8 _ _ eD, by rw [List.length_take]; exact small1000 (by show min j 3 ≤ 1000; omega), fun b o e => ?_, ?_⟩
      · rw [upd_ne (ne_of_none e nD)]; exact s8 _ _ (s7 _ _ e)
      · rw [upd_same, take_next (hpl p0 p1 p2)]
    obtain ⟨s7, eD⟩ := hp
    have eD : H7 D = some (.lst [vn p0, vn p1, vn p2]) := eD
    refine ⟨pa, D, _, _, rfl, rfl, s7 _ _ epa, eD, (by show 1 + 3 ≤ sizeLine; decide), fun pz npz => ?_⟩
    have k8 := same_new npz (.lst ([V.str (ch c)] ++ [vn p0, vn p1, vn p2]))
    have epz := upd_same (H := H7) (a := pz) (o := .lst ([V.str (ch c)] ++ [vn p0, vn p1, vn p2]))
    have s48 := s46.trans (s7.trans k8)
    have epd8 := (s56.trans (s7.trans k8)) _ _ epd
    generalize upd H7 pz (.lst ([V.str (ch c)] ++ [vn p0, vn p1, vn p2])) = H8 at epz s48 epd8 ⊢
    obtain ⟨ok1, ok2, ok3⟩ := found_ok c128 b0 b1 b2
    have dpF : ∀ {b : Addr}, H8 b = some (.lst [V.str (ch c), vn p0, vn p1, vn p2]) → Dp K H8 (.ref b) (foundD c p0 p1 p2) := fun e => .lst (SqL.of e) (.cons (.str _) (.cons (.int _) (.cons (.int _) (.cons (.int _) .nil))))
    refine ⟨_, rfl, _, rfl, _, _, foundD c p0 p1 p2, rfl, dpF epz, dpF epd8, ok1, ok2, ok3, ?_⟩
    refine ⟨_, rfl, iteF ?_⟩
    have s38 := s3.trans s48
    -- there and back
    refine ⟨_, rfl, _, rfl, _, rfl, pd, _, rfl, SqL.of epd8, fun pt npt => ?_⟩
    have ct : cutV [V.str (ch c), vn p0, vn p1, vn p2] (some 1) none = [vn p0, vn p1, vn p2] := cut_from [V.str (ch c), vn p0, vn p1, vn p2] 1
    rw [ct]
    have k9 := same_new npt (.lst [vn p0, vn p1, vn p2])
    have ept := upd_same (H := H8) (a := pt) (o := .lst [vn p0, vn p1, vn p2])
    have s49 := s48.trans k9
    have s39 := s38.trans k9
    have epd9 := k9 _ _ epd8
    generalize upd H8 pt (.lst [vn p0, vn p1, vn p2]) = H9 at ept s49 s39 epd9 ⊢
    refine ⟨pk, pt, _, _, rfl, SqL.of (s49 _ _ epk3), SqL.of ept, ?_⟩
    refine RZ.for_zipL (K := K) (a := pk) (b := pt) (xs := [.str "first", .str "between", .str "last"]) (ys := [vn p0, vn p1, vn p2]) rfl (fun j σ H' => ∃ o7 o9 : Option V, σ = [some (.ref p), some (.str k.str), some (.ref pj), some (.ref pk), some (.ref ps), some (vn n), some (.ref pd), o7, some (.ref pz), o9, o10, o11] ∧ Same H9 H') ⟨_, _, rfl, Same.refl _⟩ (fun j σ H' hp => by obtain ⟨_, _, _, sm⟩ := hp; exact ⟨SqL.of (sm _ _ (s49 _ _ epk3)), SqL.of (sm _ _ ept)⟩) (fun j x y Tz σ H10 hx hy hp nT => ?_) (fun σ H10 hp => ?_)
    · obtain ⟨o7, o9, rfl, s10⟩ := hp
      obtain ⟨k', rfl, hpl, _⟩ := kd_three hx
      rw [hpl p0 p1 p2] at hy
      cases hy
      have kT := same_new nT (.tup [.str k'.str, vn (pl p0 p1 p2 k')])
      have s11 := s10.trans kT
      have eT := upd_same (H := H10) (a := Tz) (o := .tup [.str k'.str, vn (pl p0 p1 p2 k')])
      generalize upd H10 Tz (.tup [.str k'.str, vn (pl p0 p1 p2 k')]) = H11 at s11 eT ⊢
      refine ⟨Tz, _, rfl, SqT.of eT, rfl, _, _, rfl, _, _, rfl, rfl, ?_⟩
      have s311 := s39.trans s11
      refine ⟨_, rfl, _, rfl, _, rfl, _, rfl, p, us, es, X, k', k, pl p0 p1 p2 k', W, c, rfl, s311 _ _ ep, en.keep (Tw.Same.keepT s311), gn, e1, e20, eX, up k', fun m H12 s12 hm => ?_⟩
      have em := steps_one hm eW
      subst em
      refine ⟨_, rfl, _, _, .int (m : Int), rfl, .int _, .int _, int_ok (Nat.lt_trans nX xsz), (by show 31 ≤ 1000000; decide), (by simp only [PyData.depth]; decide), ?_⟩
      exact ⟨_, rfl, iteF ⟨_, _, rfl, s11.trans s12⟩⟩
    · obtain ⟨o7, o9, rfl, s10⟩ := hp
      refine ⟨_, rfl, .inl ⟨rfl, _, SqL.of (s10 _ _ (s49 _ _ eps3))⟩, _, rfl, _, rfl, pd, _, rfl, SqL.of (s10 _ _ epd9), fun pr npr => ?_⟩
      rw [ct]
      have k11 := same_new npr (.lst [vn p0, vn p1, vn p2])
      have epr := upd_same (H := H10) (a := pr) (o := .lst [vn p0, vn p1, vn p2])
      have s411 := s49.trans (s10.trans k11)
      have nprs : pr ≠ ps := Ne.symm (ne_of_none (s10 _ _ (s49 _ _ eps3)) npr)
      generalize upd H10 pr (.lst [vn p0, vn p1, vn p2]) = H11 at epr s411 ⊢
      refine ⟨ps, _, _, rfl, rfl, s411 _ _ eps3, by show _ < 16777216; omega, ?_⟩
      refine ⟨rs ++ [.ref pr], _, _, _, _, _, _, _, rfl, fun b o e => ?_, ?_, upd_same, by rw [List.length_append, rl]; rfl, fun t r ht => ?_⟩
      · rw [upd_ne (ne_of_none e npsH)]; exact s411 _ _ (s3 _ _ e)
      · rw [upd_ne npk']; exact s411 _ _ epk3
      · rw [List.getElem?_append] at ht
        split at ht
        · obtain ⟨b, a0, a1, a2, n', W', c', h1, h2, h3⟩ := rows t r ht
          exact ⟨b, a0, a1, a2, n', W', c', h1, by rw [upd_ne (fun z => by rw [z, eps3] at h2; injection h2 with h2; injection h2 with h2; exact rows_self rows h2)]; exact s411 _ _ h2, h3⟩
        · rename_i hlt
          have h0 : t = rs.length := by
            have := (List.getElem?_eq_some_iff.mp ht).1
            rw [List.length_cons, List.length_nil] at this
            omega
          subst h0
          rw [Nat.sub_self] at ht
          cases ht
          exact ⟨pr, p0, p1, p2, n, W, c, rfl, by rw [upd_ne nprs]; exact epr, by rw [rl]; exact hn, eW, up⟩
  · obtain ⟨rs, o5, o6, o7, o8, o9, o10, o11, rfl, s3, epk3, eps3, rl, rows⟩ := hp
    rw [List.length_map] at rl
    refine ⟨3, rfl, by decide, by decide, ?_⟩
    refine for_range (lo := 0) (n := 3) (fun i σ H' => ∃ (o10 : Option V), σ = [some (.ref p), some (.str k.str), some (.ref pj), some (.ref pk), some (.ref ps), o5, o6, o7, o8, o9, o10, o11] ∧ Same H3 H') ⟨_, rfl, Same.refl _⟩ (fun i σ H4 hi hp => ?_) (fun σ H4 hp => ?_)
    · obtain ⟨o10, rfl, s4⟩ := hp
      obtain ⟨k', _, hpl, _⟩ : ∃ k' : Kd, True ∧ (∀ p0 p1 p2 : Nat, [vn p0, vn p1, vn p2][i]? = some (vn (pl p0 p1 p2 k'))) ∧ True := by
        match i, hi with
        | 0, _ => exact ⟨.first, trivial, fun _ _ _ => rfl, trivial⟩
        | 1, _ => exact ⟨.between, trivial, fun _ _ _ => rfl, trivial⟩
        | 2, _ => exact ⟨.last, trivial, fun _ _ _ => rfl, trivial⟩
      refine ⟨_, rfl, ps, rfl, ⟨_, SqL.of (s4 _ _ eps3)⟩, fun D nD => ?_⟩
      refine lc_list (K := K) (a := ps) (xs := rs) (fun j H' => Same H4 H' ∧ ∃ ns : List Nat, ns.length = j ∧ H' D = some (.lst (ns.map vn)) ∧ ∀ (t m : Nat), ns[t]? = some m → ∃ n W c, js[t]? = some n ∧ (X.steps k [])[n]? = some (W, c) ∧ (X.steps k' [])[m]? = some (W, c)) ⟨same_new nD _, [], rfl, upd_same, fun t m h => by simp at h⟩ (fun j H' _ hp => SqL.of (hp.1 _ _ (s4 _ _ eps3))) (fun j r H5 hr5 hp => ?_) (fun H5 hp => ?_)
      · obtain ⟨s5, ns, nl, eD, hns⟩ := hp
        obtain ⟨b, a0, a1, a2, n, W, c, rfl, eb, hj, hW, up⟩ := rows j r hr5
        have hjl := (List.getElem?_eq_some_iff.mp hj).1
        refine ⟨rfl, kept ⟨_, rfl, _, rfl, b, _, _, _, rfl, rfl, SqL.of (s5 _ _ (s4 _ _ eb)), by rw [Int.zero_add]; exact atI_nat (hpl a0 a1 a2), ?_⟩⟩
        refine ⟨_, eD, by rw [List.length_map]; exact small1000 (by omega), fun b' o e => ?_, ns ++ [pl a0 a1 a2 k'], by rw [List.length_append, nl]; rfl, by rw [upd_same, List.map_append]; rfl, fun t m ht => ?_⟩
        · rw [upd_ne (ne_of_none e nD)]; exact s5 _ _ e
        · rw [List.getElem?_append] at ht
          split at ht
          · exact hns t m ht
          · rename_i hlt
            have h0 : t = ns.length := by
              have := (List.getElem?_eq_some_iff.mp ht).1
              rw [List.length_cons, List.length_nil] at this
              omega
            subst h0
            rw [Nat.sub_self] at ht
            cases ht
            exact ⟨n, W, c, by rw [nl]; exact hj, hW, up k'⟩
      obtain ⟨s5, ns, nl, eD, hns⟩ := hp
      have nnd : ns.Nodup := by
        refine List.pairwise_iff_getElem.mpr fun a b ha hb hab e => ?_
        obtain ⟨n1, W1, c1, x1, x2, x3⟩ := hns a _ (List.getElem?_eq_getElem ha)
        obtain ⟨n2, W2, c2, y1, y2, y3⟩ := hns b _ (List.getElem?_eq_getElem hb)
        rw [e, y3] at x3
        cases x3
        have := steps_one x2 y2
        subst this
        have := nodup_get jnd x1 y1
        omega
      have eD' : H5 D = some (.lst ((ns.map fun n : Nat => (n : Int)).map V.int)) := by rw [eD, List.map_map]; rfl
      refine ⟨D, ns.map fun n : Nat => (n : Int), rfl, SqL.of eD', by rw [List.length_map]; omega, fun sa c1 nsa hc1 => ?_⟩
      rw [List.length_map] at hc1
      have k6 := same_new nsa (SetO w sa (fun j => decide (j ∈ ns.map fun n : Nat => (n : Int))) c1)
      refine ⟨sa, _, c1, rfl, upd_same, by omega, fun fact => ?_⟩
      have hc : ns.length = c1 := by
        have := fact (ns.map fun n : Nat => (n : Int)) (List.Pairwise.map _ (fun a b h e => h (by omega)) nnd) fun k => decide_eq_true_iff
        rw [List.length_map] at this
        exact this
      refine ⟨_, rfl, pj, _, rfl, .inl (SqL.of (k6 _ _ (s5 _ _ (s4 _ _ (s3 _ _ epj))))), rfl, _, rfl, iteNS (by rw [List.length_map, ← hc, nl, rl]) ?_⟩
      exact ⟨_, rfl, s4.trans (s5.trans k6)⟩
    · obtain ⟨o10, rfl, s4⟩ := hp
      exact q H4 (s3.trans s4)
end
/-! ### law -/
theorem GoodN.more {lim lim' : Nat} {es : List En} (g : GoodN lim es) (h : lim ≤ lim') : GoodN lim' es := fun i e k => ⟨(g i e k).s1, Nat.le_trans (g i e k).s2 h, (g i e k).lt, (g i e k).nd, (g i e k).op, (g i e k).ix⟩
theorem nat_list : ∀ {ms : List Int} {m : Nat}, (∀ x ∈ ms, 0 ≤ x ∧ x < (m : Int)) → ∃ js : List Nat, ms = js.map (fun j : Nat => (j : Int)) ∧ ∀ j ∈ js, j < m
  | [], _, _ => ⟨[], rfl, fun _ h => nomatch h⟩
  | x :: ms, m, h => by
    obtain ⟨js, e, hj⟩ := nat_list (ms := ms) (m := m) fun y hy => h y (List.mem_cons_of_mem _ hy)
    have := h x List.mem_cons_self
    refine ⟨x.toNat :: js, by rw [List.map_cons, ← e, show ((x.toNat : Nat) : Int) = x by omega], fun j hj' => ?_⟩
    rcases List.mem_cons.mp hj' with rfl | hj'
    · omega
    · exact hj j hj'
theorem vn_map (js : List Nat) : (js.map fun j : Nat => (j : Int)).map V.int = js.map vn := by rw [List.map_map]; rfl
theorem pw_nat {js : List Nat} : (js.map fun j : Nat => (j : Int)).Pairwise (· < ·) ↔ js.Pairwise (· < ·) := by
  rw [List.pairwise_map]
  constructor
  · exact fun h => h.imp fun a => by omega
  · exact fun h => h.imp fun a => by omega
theorem lim3 {i : Nat} (h : i < 3) : ∃ m : Nat, atI [V.int 3, V.int 12, V.int 6] ((0 : Int) + (i : Int)) = some (.int (m : Int)) ∧ 1 ≤ m ∧ m ≤ 12 := by
  rw [Int.zero_add]
  have : i = 0 ∨ i = 1 ∨ i = 2 := by omega
  rcases this with rfl | rfl | rfl
  · exact ⟨3, atI_nat rfl, by decide, by decide⟩
  · exact ⟨12, atI_nat rfl, by decide, by decide⟩
  · exact ⟨6, atI_nat rfl, by decide, by decide⟩
theorem few3 {i : Nat} (h : i < 3) : ∃ m : Int, atI [V.int 1, V.int 0, V.int 0] ((0 : Int) + (i : Int)) = some (.int m) := by
  rw [Int.zero_add]
  have : i = 0 ∨ i = 1 ∨ i = 2 := by omega
  rcases this with rfl | rfl | rfl
  · exact ⟨1, atI_nat rfl⟩
  · exact ⟨0, atI_nat rfl⟩
  · exact ⟨0, atI_nat rfl⟩
theorem kd_of {v : V} (h : v ∈ [V.str "first", V.str "between", V.str "last"]) : ∃ k : Kd, v = .str k.str := by
  simp only [List.mem_cons, List.mem_nil_iff, or_false] at h
  rcases h with rfl | rfl | rfl
  · exact ⟨.first, rfl⟩
  · exact ⟨.between, rfl⟩
  · exact ⟨.last, rfl⟩
def rootD (n x : Nat) : PyData := .list [.int (n : Int), .str (ch x)]
theorem root_ok {n x : Nat} (hx : x < 128) (hn : n < 10 ^ 30) : okR (rootD n x) = true ∧ wtR (rootD n x) ≤ 1000000 ∧ (rootD n x).depth ≤ 60 := by
  have i := okR_ch hx
  refine ⟨?_, ?_, ?_⟩
  · rw [show okR (rootD n x) = (okR (.int (n : Int)) && (okR (.str (ch x)) && true)) by simp only [rootD, okR, okRs], i, int_ok hn]
    rfl
  · rw [show wtR (rootD n x) = 3 + (31 + 2 + (wtR (.str (ch x)) + 2 + 0)) by simp only [rootD, wtR, wtRs]]
    show 3 + (31 + 2 + (12 + 2 + 0)) ≤ 1000000
    decide
  · simp only [rootD, PyData.depth, PyData.depthAll]
    decide
section
variable {P : Program} {w : World} {K : PySem.W.Frag} {mg : Str → Option Value} {base : Heap} {f : Addr} {fd : FuncData}
theorem run_law {s : Shared} {H : Hp} {a : Addr} {ns : List Int} (F : Fun K "law" "law" s_law f fd) (bd : BindsTo s fd ⟨[.ref a], []⟩ [("_law_script", .ref a)]) (en : Env0 P w K mg base callerA [] s H) (hS : SqL K H a (ns.map V.int))
    (M : Mgs mg) (mset : mg "set" = none) (D_law_deck : Df P w K mg base 1 "_law_deck" ["_law_script"] (spDeck K)) (D_law_draw : Df P w K mg base 1 "_law_draw" ["_law_deck_here", "_law_many"] spDraw) (D_law_pick : Df P w K mg base 2 "_law_pick" ["_law_deck_here", "_law_items"] (spPick K)) (D_law_nest : Df P w K mg base 42 "_law_nest" ["_law_deck_here", "_law_entries", "_law_limit", "_law_few"] spNest)
    (D_law_sizes : Df P w K mg base 41 "_law_sizes" ["_law_nest_here"] spSizes) (Dlabel_in : Df P w K mg base 32 "label_in" ["nest", "kind", "place"] spLabIn) (Dother_place : Df P w K mg base 32 "other_place" ["nest", "kind", "place", "other"] spOther) (D_law_same : DfG P w K mg base 1 "_law_same" ["_law_found", "_law_due"] (spSameV K)) (D_law_right : DfG P w K mg base 43 "_law_right" ["_law_nest_here", "_law_kind", "_law_places"] spRightL) :
    codeAny (model P w) callerA (.call (.ref f) ⟨[.ref a], []⟩) (CR CX0 [] P w H s (fun v _ => v = .bl true) fun _ _ _ => False) s := by
  refine enter_def (k := 45) (vs := [.ref a]) (us := [.ref a]) F sc_law ⟨rfl, by decide, by decide⟩ en bd (.cons rfl .nil) rfl fun cdv hr => ?_
  refine ⟨_, (pss_cons (ps_set (i := 1) sc_law.nd rfl (.inl rfl) (pe_call D_law_deck.ok (hr.mono (by omega)) rfl D_law_deck.g D_law_deck.kp D_law_deck.b .nil pass0 (pa_cons (pv 0) pa_nil)))
    (pss_cons (ps_for PassesOwn.never rfl (pi_range1 rfl M.range (pa_cons pe_int pa_nil)) (pg_name (i := 2) sc_law.nd rfl (.inl rfl))
      (pss_cons (ps_set (i := 3) sc_law.nd rfl (.inl rfl) (pe_call D_law_nest.ok (hr.mono (by omega)) rfl D_law_nest.g D_law_nest.kp D_law_nest.b .nil pass0 (pa_cons (pv 1) (pa_cons pe_int (pa_cons (pe_ix ix_list (pe_lst (pa_cons pe_int (pa_cons pe_int (pa_cons pe_int pa_nil)))) (pv 2) (fun _ _ => rfl)) (pa_cons (pe_ix ix_list (pe_lst (pa_cons pe_int (pa_cons pe_int (pa_cons pe_int pa_nil)))) (pv 2) (fun _ _ => rfl)) pa_nil))))))
    (pss_cons (ps_set (i := 4) sc_law.nd rfl (.inl rfl) (pe_ix ix_list (pe_call D_law_sizes.ok (hr.mono (by omega)) rfl D_law_sizes.g D_law_sizes.kp D_law_sizes.b .nil pass0 (pa_cons (pv 3) pa_nil)) (pe_un un_neg pe_int) (fun _ _ => rfl)))
    (pss_cons (ps_for PassesOwn.never rfl (pi_list (pe_lst (pa_cons pe_str (pa_cons pe_str (pa_cons pe_str pa_nil))))) (pg_name (i := 5) sc_law.nd rfl (.inl rfl))
      (pss_cons (ps_set (i := 6) sc_law.nd rfl (.inl rfl) (pe_callB (show CallR _ (.builtin "sorted") (rSortedSet w) from cr_sortedSet rfl) rfl M.sorted (by decide +kernel) (pa_cons (pe_callTy (show CallR _ (.type "set") (rSetIL K w) from cr_setIL rfl) rfl mset (by decide +kernel) (pa_cons (pe_lst (pa_cons (pe_call D_law_pick.ok (hr.mono (by omega)) rfl D_law_pick.g D_law_pick.kp D_law_pick.b .nil pass0 (pa_cons (pv 1) (pa_cons (pe_lst (pa_cons pe_int (pa_cons (pe_op op_sub (pv 4) pe_int) pa_nil))) pa_nil))) (pa_cons (pe_call D_law_draw.ok (hr.mono (by omega)) rfl D_law_draw.g D_law_draw.kp D_law_draw.b .nil pass0 (pa_cons (pv 1) (pa_cons (pv 4) pa_nil))) (pa_cons (pe_call D_law_draw.ok (hr.mono (by omega)) rfl D_law_draw.g D_law_draw.kp D_law_draw.b .nil pass0 (pa_cons (pv 1) (pa_cons (pv 4) pa_nil))) pa_nil)))) pa_nil)) pa_nil)))
    (pss_one (ps_if (pt_not (pt_val (pe_callG D_law_right.ok rfl (hr.mono (by omega)) rfl D_law_right.g D_law_right.kp D_law_right.b (pa_cons (pv 3) (pa_cons (pv 5) (pa_cons (pv 6) pa_nil))))))
      (pss_one (ps_ret pe_bl)) pss_nil))))
    (pss_cons (ps_set (i := 7) sc_law.nd rfl (.inl rfl) (pe_lst (pa_cons (pe_call Dother_place.ok (hr.mono (by omega)) rfl Dother_place.g Dother_place.kp Dother_place.b .nil pass0 (pa_cons (pv 3) (pa_cons pe_str (pa_cons pe_int (pa_cons pe_str pa_nil))))) (pa_cons (pe_call Dlabel_in.ok (hr.mono (by omega)) rfl Dlabel_in.g Dlabel_in.kp Dlabel_in.b .nil pass0 (pa_cons (pv 3) (pa_cons pe_str (pa_cons (pe_op op_sub (pv 4) pe_int) pa_nil)))) pa_nil))))
    (pss_one (ps_if (pt_not (pt_val (pe_callG D_law_same.ok rfl (hr.mono (by omega)) rfl D_law_same.g D_law_same.kp D_law_same.b (pa_cons (pv 7) (pa_cons (pe_lst (pa_cons (pe_op op_sub (pv 4) pe_int) (pa_cons (pe_ix ix_tup (pe_ix ix_tup (pe_ix ix_tup (pv 3) (pe_un un_neg pe_int) (fun _ _ => rfl)) pe_int (fun _ _ => rfl)) pe_int (fun _ _ => rfl)) pa_nil))) pa_nil)))))
      (pss_one (ps_ret pe_bl)) pss_nil)))))))
    (pss_one (ps_ret pe_bl)))), ?_⟩
  refine ⟨_, rfl, a, ns, rfl, hS, fun D H1 d1 s1 => ?_⟩
  refine ⟨3, rfl, by decide, by decide, ?_⟩
  refine for_range (lo := 0) (n := 3) (fun i σ H' => ∃ (o2 o3 o4 o5 o6 o7 : Option V) (c : Nat), σ = [some (.ref a), some (.ref D.dk), o2, o3, o4, o5, o6, o7] ∧ DeckOk H' D c ∧ c ≤ 5000 * i) ⟨none, none, none, none, none, none, 0, rfl, d1, by omega⟩ (fun i σ H2 hi hp => ?_) (fun σ H2 hp => ?_)
  · obtain ⟨o2, o3, o4, o5, o6, o7, c, rfl, d2, hc⟩ := hp
    obtain ⟨lim, hlim, lm1, lm12⟩ := lim3 hi
    obtain ⟨few, hfew⟩ := few3 hi
    refine ⟨_, rfl, (by show 3 ≤ sizeLine; decide), fun l1 nl1 => ⟨_, rfl, l1, _, _, _, rfl, rfl, SqL.of upd_same, hlim, (by show 3 ≤ sizeLine; decide), fun l2 nl2 => ⟨_, rfl, l2, _, _, _, rfl, rfl, SqL.of upd_same, hfew, ?_⟩⟩⟩
    have k1 := same_new nl1 (.lst [V.int 3, V.int 12, V.int 6])
    have k2 := same_new nl2 (.lst [V.int 1, V.int 0, V.int 0])
    refine ⟨D, c, 20, lim, few, rfl, (d2.same k1).same k2, by omega, by decide, by decide, lm1, lm12, fun p us es n3 H3 d3 hn3 s3 ep en gn0 e1 e20 => ?_⟩
    have gn := gn0.more lm12
    have fl := fulls_len es
    obtain ⟨X, eX⟩ : ∃ X, (fulls es)[es.length - 1]? = some X := ⟨_, List.getElem?_eq_getElem (by omega)⟩
    obtain ⟨xsz, xlt⟩ := full_size gn e20 eX
    have Xp := full_pos gn e1 eX
    have x31 := Nat.lt_trans xsz (show 10 ^ 30 < 10000000000000000000000000000000 by decide)
    have ul := en.len
    refine ⟨_, rfl, p, us, es, rfl, ep, en, gn, e20, fun sz H4 s4 esz => ?_⟩
    refine ⟨_, rfl, sz, _, _, _, rfl, rfl, SqL.of esz, at_last (v := vn X.size) (by rw [List.length_map, fl, List.getElem?_map, eX]; rfl), ?_⟩
    have d4 := d3.same s4
    have ep4 := s4 _ _ ep
    have en4 := en.keep (Tw.Same.keepT s4)
    refine ⟨(by show 3 ≤ sizeLine; decide), fun pk npk => ?_⟩
    have k5 := same_new npk (.lst [.str "first", .str "between", .str "last"])
    have epk := upd_same (H := H4) (a := pk) (o := .lst [.str "first", .str "between", .str "last"])
    have opk := d4.new npk
    have d5 := d4.same k5
    have ep5 := k5 _ _ ep4
    have en5 := en4.keep (Tw.Same.keepT k5)
    generalize upd H4 pk (.lst [.str "first", .str "between", .str "last"]) = H5 at epk d5 ep5 en5 ⊢
    refine ⟨pk, rfl, ⟨_, SqL.of epk⟩, ?_⟩
    refine for_list (K := K) (a := pk) (xs := [.str "first", .str "between", .str "last"]) (fun j σ H' => ∃ (o5 o6 : Option V) (cc : Nat), σ = [some (.ref a), some (.ref D.dk), some (.int (0 + i)), some (.ref p), some (vn X.size), o5, o6, o7] ∧ DeckOk H' D cc ∧ cc ≤ n3 + 3 * j ∧ SameD D H5 H') ⟨_, _, n3, rfl, d5, by omega, SameD.refl _ _⟩ (fun j σ H' _ hp => by obtain ⟨_, _, _, _, _, _, sm⟩ := hp; exact SqL.of (sm.at opk epk)) (fun j z σ H6 hz hp => ?_) (fun σ H6 hp => ?_)
    · obtain ⟨o5, o6, cc, rfl, d6, hcc, sd⟩ := hp
      have hj : j < 3 := (List.getElem?_eq_some_iff.mp hz).1
      obtain ⟨k, rfl⟩ := kd_of (List.mem_of_getElem? hz)
      refine ⟨_, rfl, _, rfl, _, _, rfl, rfl, (by show 2 ≤ sizeLine; decide), fun l nl => ?_⟩
      have k7 := same_new nl (.lst [.int 0, .int ((X.size : Int) - 1)])
      refine ⟨D, cc, .ref l, rfl, d6.same k7, by omega, .inr ⟨l, _, rfl, upd_same, d6.new nl, by simp, by simp, fun x H7 hx d7 s7 => ?_⟩⟩
      obtain ⟨j0, rfl, hj0⟩ : ∃ j0 : Nat, x = vn j0 ∧ j0 < X.size := by
        rcases List.mem_cons.mp hx with rfl | hx
        · exact ⟨0, rfl, Xp⟩
        · rw [List.mem_singleton.mp hx]
          exact ⟨X.size - 1, congrArg V.int (by omega), by omega⟩
      refine ⟨_, rfl, _, rfl, D, cc + 1, _, rfl, d7, by omega, by omega, by omega, fun q1 H8 q10 q11 d8 s8 => ?_⟩
      refine ⟨_, rfl, _, rfl, D, cc + 2, _, rfl, d8, by omega, by omega, by omega, fun q2 H9 q20 q21 d9 s9 => ?_⟩
      refine ⟨(by show 3 ≤ sizeLine; decide), fun l2 nl2 => ?_⟩
      have k10 := same_new nl2 (.lst [vn j0, .int q1, .int q2])
      refine ⟨l2, [(j0 : Int), q1, q2], rfl, SqL.of upd_same, (by show 3 < 64; decide), fun sa c1 nsa hc1 => ?_⟩
      have k11 := same_new nsa (SetO w sa (fun j => decide (j ∈ [(j0 : Int), q1, q2])) c1)
      refine ⟨sa, _, c1, rfl, upd_same, Nat.lt_of_le_of_lt hc1 (by show 3 < 64; decide), fun ms pi pw mem _ npi => ?_⟩
      have k12 := same_new npi (.lst (ms.map V.int))
      obtain ⟨js, rfl, hjs⟩ := nat_list (ms := ms) (m := X.size) fun x hx => by
        have := of_decide_eq_true ((mem x).mp hx)
        simp only [List.mem_cons, List.mem_nil_iff, or_false] at this
        rcases this with rfl | rfl | rfl
        · exact ⟨by omega, by omega⟩
        · exact ⟨q10, q11⟩
        · exact ⟨q20, q21⟩
      have jpw := pw_nat.mp pw
      have jl : js.length ≤ 3 := by
        have h0 := nodup_le (l := js.map fun j : Nat => (j : Int)) (m := [(j0 : Int), q1, q2]) (pw.imp fun h => by omega) fun x hx => of_decide_eq_true ((mem x).mp hx)
        rw [List.length_map] at h0
        exact h0
      rw [vn_map] at *
      have kk := k10.trans (k11.trans k12)
      have epi := upd_same (H := upd (upd H9 l2 (.lst [vn j0, .int q1, .int q2])) sa (SetO w sa (fun j => decide (j ∈ [(j0 : Int), q1, q2])) c1)) (a := pi) (o := .lst (js.map vn))
      have d12 := d9.same kk
      have sd12 : SameD D H5 _ := sd.trans ((SameD.of k7).trans (s7.trans (s8.trans (s9.trans (SameD.of kk)))))
      generalize upd (upd (upd H9 l2 (.lst [vn j0, .int q1, .int q2])) sa (SetO w sa (fun j => decide (j ∈ [(j0 : Int), q1, q2])) c1)) pi (.lst (js.map vn)) = H12 at epi d12 sd12 ⊢
      have kT12 := sd12.keepT d5
      refine ⟨_, rfl, _, rfl, _, rfl, p, pi, us, es, X, k, js, rfl, kT12 _ _ ep5, en5.keep kT12, gn, e1, e20, eX, epi, by omega, jpw.imp (fun h => by omega), hjs, fun H13 s13 => ?_⟩
      refine ⟨_, rfl, iteF ?_⟩
      exact ⟨_, _, cc + 3, rfl, d12.same s13, by omega, sd12.trans (SameD.of s13)⟩
    · obtain ⟨o5, o6, cc, rfl, d6, hcc, sd⟩ := hp
      have hcc : cc ≤ n3 + 3 * 3 := hcc
      have kT6 := sd.keepT d5
      have ep6 := kT6 _ _ ep5
      have en6 := en5.keep kT6
      obtain ⟨l, x, r, rfl⟩ : ∃ l x r, X = .node l x r := by
        cases X with
        | nil => exact absurd Xp (by decide)
        | node l x r => exact ⟨l, x, r, rfl⟩
      have r0 := walk_root .first l x r []
      have r1 := walk_root .last l x r []
      have hx128 : x < 128 := by
        have := (xlt x List.mem_cons_self).2
        omega
      refine ⟨_, rfl, p, us, es, _, .first, .last, 0, [], x, rfl, ep6, en6, gn, e1, e20, eX, r0, fun m H7 s7 hm => ?_⟩
      have em := steps_one hm r1
      subst em
      have eS : vn (gapT l.size r.size .last) = V.int (((B.node l x r).size : Int) - 1) := congrArg V.int (by show ((l.size + r.size : Nat) : Int) = ((l.size + 1 + r.size : Nat) : Int) - 1; omega)
      refine ⟨_, rfl, _, rfl, _, _, rfl, rfl, p, us, es, _, .last, gapT l.size r.size .last, x, by rw [eS]; rfl, s7 _ _ ep6, en6.keep (Tw.Same.keepT s7), gn, e1, e20, eX, steps_wk_at r1, fun H8 s8 => ⟨(by show 2 ≤ sizeLine; decide), fun pr npr => ?_⟩⟩
      have k9 := same_new npr (.lst [vn (gapT l.size r.size .last), .str (ch x)])
      have epr := upd_same (H := H8) (a := pr) (o := .lst [vn (gapT l.size r.size .last), .str (ch x)])
      have s69 := s7.trans (s8.trans k9)
      generalize upd H8 pr (.lst [vn (gapT l.size r.size .last), .str (ch x)]) = H9 at epr s69 ⊢
      obtain ⟨T0, ls0, ek0⟩ : ∃ T0 ls0, es[es.length - 1]? = some (T0, ls0) := ⟨_, _, List.getElem?_eq_getElem (by omega)⟩
      have gT := gn _ _ ek0
      obtain ⟨tl, tx0, tr, rfl⟩ : ∃ tl tx0 tr, T0 = .node tl tx0 tr := by
        cases T0 with
        | nil => exact absurd gT.s1 (by show ¬ 1 ≤ 0; decide)
        | node tl tx0 tr => exact ⟨_, _, _, rfl⟩
      have eF := full_get gn ek0
      rw [eX] at eF
      have ex : x = tx0 := by injection eF with eF; injection eF
      subst ex
      have en9 := en6.keep (Tw.Same.keepT s69)
      obtain ⟨ae, la, tv, ls', huk, eae, at0, _, _⟩ := en9.of ek0
      obtain ⟨ta, lv, rv, rfl, eta⟩ : ∃ ta lv rv, tv = .ref ta ∧ H9 ta = some (.tup [lv, .str (ch x), rv]) := by
        rcases at0.inv with ⟨_, h⟩ | ⟨ta, lv, rv, x', tl', tr', h1, h2, h3, _, _⟩
        · cases h
        · cases h2
          exact ⟨ta, lv, rv, h1, h3⟩
      refine ⟨_, rfl, _, rfl, _, _, rfl, rfl, _, rfl, _, rfl, p, us, _, _, rfl, rfl, SqT.of (s69 _ _ ep6), at_last (by rw [ul]; exact huk), ae, _, _, _, rfl, rfl, SqT.of eae, rfl, ta, _, _, _, rfl, rfl, SqT.of eta, rfl, (by show 2 ≤ sizeLine; decide), fun pq npq => ?_⟩
      obtain ⟨ok1, ok2, ok3⟩ := root_ok (n := gapT l.size r.size .last) hx128 (Nat.lt_trans (steps_lt r1) xsz)
      refine ⟨_, _, rootD (gapT l.size r.size .last) x, rfl, .lst (SqL.of (same_new npq _ _ _ epr)) (.cons (.int _) (.cons (.str _) .nil)), .lst (SqL.of upd_same) (.cons (by show Dp _ _ (V.int (((B.node l x r).size : Int) - 1)) _; rw [← eS]; exact .int _) (.cons (.str _) .nil)), ok1, ok2, ok3, ?_⟩
      refine ⟨_, rfl, iteF ?_⟩
      exact ⟨_, _, _, _, _, _, cc, rfl, d6.same (s69.trans (same_new npq _)), by omega⟩
  · exact rfl
end
/-! ### what the top has left -/
theorem all_mk {l : PySem.W.OpenLaw} {w : World} {K : PySem.W.Frag} {h : Heap} {mg : Str → Option Value} {fa f1 f2 f3 f4 f5 f6 f7 f8 f9 f10 f11 f12 f13 f14 f15 f16 f17 f18 f19 f20 f21 f22 f23 f24 f25 f26 f27  : Addr} (X : K.In h) (G : h.Ns mainGlobals mg) (hfa : mg "law" = some (.ref fa))
    {od1 an1 od2 an2 od3 an3 od4 an4 od5 an5 od6 an6 od7 an7 od8 an8 od9 an9 od10 an10 od11 an11 od12 an12 od13 an13 od14 an14 od15 an15 od16 an16 od17 an17 od18 an18 od19 an19 od20 an20 od21 an21 od22 an22 od23 an23 od24 an24 od25 an25 od26 an26 od27 an27 : Option Addr} {sl1 sl2 sl3 sl4 sl5 sl6 sl7 sl8 sl9 sl10 sl11 sl12 sl13 sl14 sl15 sl16 sl17 sl18 sl19 sl20 sl21 sl22 sl23 sl24 sl25 sl26 sl27 : Array (Option Value)}
    {oc1 kV1 dc1 pm1 cd1 ct1 oc2 kV2 dc2 pm2 cd2 ct2 oc3 kV3 dc3 pm3 cd3 ct3 oc4 kV4 dc4 pm4 cd4 ct4 oc5 kV5 dc5 pm5 cd5 ct5 oc6 kV6 dc6 pm6 cd6 ct6 oc7 kV7 dc7 pm7 cd7 ct7 oc8 kV8 dc8 pm8 cd8 ct8 oc9 kV9 dc9 pm9 cd9 ct9 oc10 kV10 dc10 pm10 cd10 ct10 oc11 kV11 dc11 pm11 cd11 ct11 oc12 kV12 dc12 pm12 cd12 ct12 oc13 kV13 dc13 pm13 cd13 ct13 oc14 kV14 dc14 pm14 cd14 ct14 oc15 kV15 dc15 pm15 cd15 ct15 oc16 kV16 dc16 pm16 cd16 ct16 oc17 kV17 dc17 pm17 cd17 ct17 oc18 kV18 dc18 pm18 cd18 ct18 oc19 kV19 dc19 pm19 cd19 ct19 oc20 kV20 dc20 pm20 cd20 ct20 oc21 kV21 dc21 pm21 cd21 ct21 oc22 kV22 dc22 pm22 cd22 ct22 oc23 kV23 dc23 pm23 cd23 ct23 oc24 kV24 dc24 pm24 cd24 ct24 oc25 kV25 dc25 pm25 cd25 ct25 oc26 kV26 dc26 pm26 cd26 ct26 oc27 kV27 dc27 pm27 cd27 ct27 : Value}
    {tL : Tok} {aT bT1 bT2 bT3 : Addr} {esT : Array DictEntry} {nT nT1 nT2 nT3 : Nat} {oT1 oT2 oT3 : Option Addr} {sT1 sT2 sT3 : Array (Option Value)} {tT11 tT12 tT13 tT21 tT22 tT23 tT31 tT32 tT33 : Tok} 
    (aLn : PySem.W.nsIn K mainGlobals "LETTERS" = some (some (.str "abcdefghijklmnopqrstuvwxyz" tL)))
    (aTn : PySem.W.nsIn K mainGlobals "TURNS" = some (some (.ref aT)))
    (aTl : K.lookup aT = some ⟨.type "dict", none, .dict esT nT, #[]⟩)
    (aTk : PySem.W.KeysLit w.params esT.toList)
    (aT1 : PySem.W.nsIn K aT "first" = some (some (.ref bT1)))
    (bT1l : K.lookup bT1 = some ⟨.type "tuple", oT1, .seq #[.str "" tT11, .str "l" tT12, .str "r" tT13] nT1, sT1⟩)
    (aT2 : PySem.W.nsIn K aT "between" = some (some (.ref bT2)))
    (bT2l : K.lookup bT2 = some ⟨.type "tuple", oT2, .seq #[.str "l" tT21, .str "" tT22, .str "r" tT23] nT2, sT2⟩)
    (aT3 : PySem.W.nsIn K aT "last" = some (some (.ref bT3)))
    (bT3l : K.lookup bT3 = some ⟨.type "tuple", oT3, .seq #[.str "l" tT31, .str "r" tT32, .str "" tT33] nT3, sT3⟩)
    (a1 : PySem.W.nsIn K mainGlobals "is_whole_number" = some (some (.ref f1)))
    (l1 : K.lookup f1 = some ⟨oc1, od1, .func (PySem.W.fnOf "is_whole_number" "is_whole_number" (defArgs s_is_whole_number) (defBody s_is_whole_number) (defScope s_is_whole_number) .none kV1 dc1 pm1 an1 cd1 ct1), sl1⟩)
    (c1 : PySem.W.codeIn K cd1 "is_whole_number" = true)
    (k1 : PySem.W.keepIn K (.ref f1) = true)
    (a2 : PySem.W.nsIn K mainGlobals "is_index" = some (some (.ref f2)))
    (l2 : K.lookup f2 = some ⟨oc2, od2, .func (PySem.W.fnOf "is_index" "is_index" (defArgs s_is_index) (defBody s_is_index) (defScope s_is_index) .none kV2 dc2 pm2 an2 cd2 ct2), sl2⟩)
    (c2 : PySem.W.codeIn K cd2 "is_index" = true)
    (k2 : PySem.W.keepIn K (.ref f2) = true)
    (a3 : PySem.W.nsIn K mainGlobals "spots_of" = some (some (.ref f3)))
    (l3 : K.lookup f3 = some ⟨oc3, od3, .func (PySem.W.fnOf "spots_of" "spots_of" (defArgs s_spots_of) (defBody s_spots_of) (defScope s_spots_of) .none kV3 dc3 pm3 an3 cd3 ct3), sl3⟩)
    (c3 : PySem.W.codeIn K cd3 "spots_of" = true)
    (k3 : PySem.W.keepIn K (.ref f3) = true)
    (a4 : PySem.W.nsIn K mainGlobals "add_spots" = some (some (.ref f4)))
    (l4 : K.lookup f4 = some ⟨oc4, od4, .func (PySem.W.fnOf "add_spots" "add_spots" (defArgs s_add_spots) (defBody s_add_spots) (defScope s_add_spots) .none kV4 dc4 pm4 an4 cd4 ct4), sl4⟩)
    (c4 : PySem.W.codeIn K cd4 "add_spots" = true)
    (k4 : PySem.W.keepIn K (.ref f4) = true)
    (a5 : PySem.W.nsIn K mainGlobals "counts_in" = some (some (.ref f5)))
    (l5 : K.lookup f5 = some ⟨oc5, od5, .func (PySem.W.fnOf "counts_in" "counts_in" (defArgs s_counts_in) (defBody s_counts_in) (defScope s_counts_in) .none kV5 dc5 pm5 an5 cd5 ct5), sl5⟩)
    (c5 : PySem.W.codeIn K cd5 "counts_in" = true)
    (k5 : PySem.W.keepIn K (.ref f5) = true)
    (a6 : PySem.W.nsIn K mainGlobals "turned" = some (some (.ref f6)))
    (l6 : K.lookup f6 = some ⟨oc6, od6, .func (PySem.W.fnOf "turned" "turned" (defArgs s_turned) (defBody s_turned) (defScope s_turned) .none kV6 dc6 pm6 an6 cd6 ct6), sl6⟩)
    (c6 : PySem.W.codeIn K cd6 "turned" = true)
    (k6 : PySem.W.keepIn K (.ref f6) = true)
    (a7 : PySem.W.nsIn K mainGlobals "way_to" = some (some (.ref f7)))
    (l7 : K.lookup f7 = some ⟨oc7, od7, .func (PySem.W.fnOf "way_to" "way_to" (defArgs s_way_to) (defBody s_way_to) (defScope s_way_to) .none kV7 dc7 pm7 an7 cd7 ct7), sl7⟩)
    (c7 : PySem.W.codeIn K cd7 "way_to" = true)
    (k7 : PySem.W.keepIn K (.ref f7) = true)
    (a8 : PySem.W.nsIn K mainGlobals "place_on" = some (some (.ref f8)))
    (l8 : K.lookup f8 = some ⟨oc8, od8, .func (PySem.W.fnOf "place_on" "place_on" (defArgs s_place_on) (defBody s_place_on) (defScope s_place_on) .none kV8 dc8 pm8 an8 cd8 ct8), sl8⟩)
    (c8 : PySem.W.codeIn K cd8 "place_on" = true)
    (k8 : PySem.W.keepIn K (.ref f8) = true)
    (a9 : PySem.W.nsIn K mainGlobals "label_on" = some (some (.ref f9)))
    (l9 : K.lookup f9 = some ⟨oc9, od9, .func (PySem.W.fnOf "label_on" "label_on" (defArgs s_label_on) (defBody s_label_on) (defScope s_label_on) .none kV9 dc9 pm9 an9 cd9 ct9), sl9⟩)
    (c9 : PySem.W.codeIn K cd9 "label_on" = true)
    (k9 : PySem.W.keepIn K (.ref f9) = true)
    (a10 : PySem.W.nsIn K mainGlobals "way_at" = some (some (.ref f10)))
    (l10 : K.lookup f10 = some ⟨oc10, od10, .func (PySem.W.fnOf "way_at" "way_at" (defArgs s_way_at) (defBody s_way_at) (defScope s_way_at) .none kV10 dc10 pm10 an10 cd10 ct10), sl10⟩)
    (c10 : PySem.W.codeIn K cd10 "way_at" = true)
    (k10 : PySem.W.keepIn K (.ref f10) = true)
    (a11 : PySem.W.nsIn K mainGlobals "label_in" = some (some (.ref f11)))
    (l11 : K.lookup f11 = some ⟨oc11, od11, .func (PySem.W.fnOf "label_in" "label_in" (defArgs s_label_in) (defBody s_label_in) (defScope s_label_in) .none kV11 dc11 pm11 an11 cd11 ct11), sl11⟩)
    (c11 : PySem.W.codeIn K cd11 "label_in" = true)
    (k11 : PySem.W.keepIn K (.ref f11) = true)
    (a12 : PySem.W.nsIn K mainGlobals "other_place" = some (some (.ref f12)))
    (l12 : K.lookup f12 = some ⟨oc12, od12, .func (PySem.W.fnOf "other_place" "other_place" (defArgs s_other_place) (defBody s_other_place) (defScope s_other_place) .none kV12 dc12 pm12 an12 cd12 ct12), sl12⟩)
    (c12 : PySem.W.codeIn K cd12 "other_place" = true)
    (k12 : PySem.W.keepIn K (.ref f12) = true)
    (a13 : PySem.W.nsIn K mainGlobals "_law_deck" = some (some (.ref f13)))
    (l13 : K.lookup f13 = some ⟨oc13, od13, .func (PySem.W.fnOf "_law_deck" "_law_deck" (defArgs s__law_deck) (defBody s__law_deck) (defScope s__law_deck) .none kV13 dc13 pm13 an13 cd13 ct13), sl13⟩)
    (c13 : PySem.W.codeIn K cd13 "_law_deck" = true)
    (k13 : PySem.W.keepIn K (.ref f13) = true)
    (a14 : PySem.W.nsIn K mainGlobals "_law_draw" = some (some (.ref f14)))
    (l14 : K.lookup f14 = some ⟨oc14, od14, .func (PySem.W.fnOf "_law_draw" "_law_draw" (defArgs s__law_draw) (defBody s__law_draw) (defScope s__law_draw) .none kV14 dc14 pm14 an14 cd14 ct14), sl14⟩)
    (c14 : PySem.W.codeIn K cd14 "_law_draw" = true)
    (k14 : PySem.W.keepIn K (.ref f14) = true)
    (a15 : PySem.W.nsIn K mainGlobals "_law_pick" = some (some (.ref f15)))
    (l15 : K.lookup f15 = some ⟨oc15, od15, .func (PySem.W.fnOf "_law_pick" "_law_pick" (defArgs s__law_pick) (defBody s__law_pick) (defScope s__law_pick) .none kV15 dc15 pm15 an15 cd15 ct15), sl15⟩)
    (c15 : PySem.W.codeIn K cd15 "_law_pick" = true)
    (k15 : PySem.W.keepIn K (.ref f15) = true)
    (a16 : PySem.W.nsIn K mainGlobals "_law_same" = some (some (.ref f16)))
    (l16 : K.lookup f16 = some ⟨oc16, od16, .func (PySem.W.fnOf "_law_same" "_law_same" (defArgs s__law_same) (defBody s__law_same) (defScope s__law_same) .none kV16 dc16 pm16 an16 cd16 ct16), sl16⟩)
    (c16 : PySem.W.codeIn K cd16 "_law_same" = true)
    (k16 : PySem.W.keepIn K (.ref f16) = true)
    (a17 : PySem.W.nsIn K mainGlobals "_law_mixed" = some (some (.ref f17)))
    (l17 : K.lookup f17 = some ⟨oc17, od17, .func (PySem.W.fnOf "_law_mixed" "_law_mixed" (defArgs s__law_mixed) (defBody s__law_mixed) (defScope s__law_mixed) .none kV17 dc17 pm17 an17 cd17 ct17), sl17⟩)
    (c17 : PySem.W.codeIn K cd17 "_law_mixed" = true)
    (k17 : PySem.W.keepIn K (.ref f17) = true)
    (a18 : PySem.W.nsIn K mainGlobals "_law_tree" = some (some (.ref f18)))
    (l18 : K.lookup f18 = some ⟨oc18, od18, .func (PySem.W.fnOf "_law_tree" "_law_tree" (defArgs s__law_tree) (defBody s__law_tree) (defScope s__law_tree) .none kV18 dc18 pm18 an18 cd18 ct18), sl18⟩)
    (c18 : PySem.W.codeIn K cd18 "_law_tree" = true)
    (k18 : PySem.W.keepIn K (.ref f18) = true)
    (a19 : PySem.W.nsIn K mainGlobals "_law_drawn_tree" = some (some (.ref f19)))
    (l19 : K.lookup f19 = some ⟨oc19, od19, .func (PySem.W.fnOf "_law_drawn_tree" "_law_drawn_tree" (defArgs s__law_drawn_tree) (defBody s__law_drawn_tree) (defScope s__law_drawn_tree) .none kV19 dc19 pm19 an19 cd19 ct19), sl19⟩)
    (c19 : PySem.W.codeIn K cd19 "_law_drawn_tree" = true)
    (k19 : PySem.W.keepIn K (.ref f19) = true)
    (a20 : PySem.W.nsIn K mainGlobals "_law_nodes" = some (some (.ref f20)))
    (l20 : K.lookup f20 = some ⟨oc20, od20, .func (PySem.W.fnOf "_law_nodes" "_law_nodes" (defArgs s__law_nodes) (defBody s__law_nodes) (defScope s__law_nodes) .none kV20 dc20 pm20 an20 cd20 ct20), sl20⟩)
    (c20 : PySem.W.codeIn K cd20 "_law_nodes" = true)
    (k20 : PySem.W.keepIn K (.ref f20) = true)
    (a21 : PySem.W.nsIn K mainGlobals "_law_open" = some (some (.ref f21)))
    (l21 : K.lookup f21 = some ⟨oc21, od21, .func (PySem.W.fnOf "_law_open" "_law_open" (defArgs s__law_open) (defBody s__law_open) (defScope s__law_open) .none kV21 dc21 pm21 an21 cd21 ct21), sl21⟩)
    (c21 : PySem.W.codeIn K cd21 "_law_open" = true)
    (k21 : PySem.W.keepIn K (.ref f21) = true)
    (a22 : PySem.W.nsIn K mainGlobals "_law_nest" = some (some (.ref f22)))
    (l22 : K.lookup f22 = some ⟨oc22, od22, .func (PySem.W.fnOf "_law_nest" "_law_nest" (defArgs s__law_nest) (defBody s__law_nest) (defScope s__law_nest) .none kV22 dc22 pm22 an22 cd22 ct22), sl22⟩)
    (c22 : PySem.W.codeIn K cd22 "_law_nest" = true)
    (k22 : PySem.W.keepIn K (.ref f22) = true)
    (a23 : PySem.W.nsIn K mainGlobals "_law_sizes" = some (some (.ref f23)))
    (l23 : K.lookup f23 = some ⟨oc23, od23, .func (PySem.W.fnOf "_law_sizes" "_law_sizes" (defArgs s__law_sizes) (defBody s__law_sizes) (defScope s__law_sizes) .none kV23 dc23 pm23 an23 cd23 ct23), sl23⟩)
    (c23 : PySem.W.codeIn K cd23 "_law_sizes" = true)
    (k23 : PySem.W.keepIn K (.ref f23) = true)
    (a24 : PySem.W.nsIn K mainGlobals "_law_part" = some (some (.ref f24)))
    (l24 : K.lookup f24 = some ⟨oc24, od24, .func (PySem.W.fnOf "_law_part" "_law_part" (defArgs s__law_part) (defBody s__law_part) (defScope s__law_part) .none kV24 dc24 pm24 an24 cd24 ct24), sl24⟩)
    (c24 : PySem.W.codeIn K cd24 "_law_part" = true)
    (k24 : PySem.W.keepIn K (.ref f24) = true)
    (a25 : PySem.W.nsIn K mainGlobals "_law_way" = some (some (.ref f25)))
    (l25 : K.lookup f25 = some ⟨oc25, od25, .func (PySem.W.fnOf "_law_way" "_law_way" (defArgs s__law_way) (defBody s__law_way) (defScope s__law_way) .none kV25 dc25 pm25 an25 cd25 ct25), sl25⟩)
    (c25 : PySem.W.codeIn K cd25 "_law_way" = true)
    (k25 : PySem.W.keepIn K (.ref f25) = true)
    (a26 : PySem.W.nsIn K mainGlobals "_law_right" = some (some (.ref f26)))
    (l26 : K.lookup f26 = some ⟨oc26, od26, .func (PySem.W.fnOf "_law_right" "_law_right" (defArgs s__law_right) (defBody s__law_right) (defScope s__law_right) .none kV26 dc26 pm26 an26 cd26 ct26), sl26⟩)
    (c26 : PySem.W.codeIn K cd26 "_law_right" = true)
    (k26 : PySem.W.keepIn K (.ref f26) = true)
    (a27 : PySem.W.nsIn K mainGlobals "law" = some (some (.ref f27)))
    (l27 : K.lookup f27 = some ⟨oc27, od27, .func (PySem.W.fnOf "law" "law" (defArgs s_law) (defBody s_law) (defScope s_law) .none kV27 dc27 pm27 an27 cd27 ct27), sl27⟩)
    (c27 : PySem.W.codeIn K cd27 "law" = true)
    (k27 : PySem.W.keepIn K (.ref f27) = true)
    (z1 : PySem.W.nsIn K mainGlobals "zip" = some none)
    (z2 : PySem.W.nsIn K mainGlobals "all" = some none)
    (z3 : PySem.W.nsIn K mainGlobals "repr" = some none)
    (z4 : PySem.W.nsIn K mainGlobals "sum" = some none)
    (z5 : PySem.W.nsIn K mainGlobals "len" = some none)
    (z6 : PySem.W.nsIn K mainGlobals "isinstance" = some none)
    (z7 : PySem.W.nsIn K mainGlobals "list" = some none)
    (z8 : PySem.W.nsIn K mainGlobals "tuple" = some none)
    (z9 : PySem.W.nsIn K mainGlobals "str" = some none)
    (z10 : PySem.W.nsIn K mainGlobals "int" = some none)
    (z11 : PySem.W.nsIn K mainGlobals "bool" = some none)
    (z12 : PySem.W.nsIn K mainGlobals "dict" = some none)
    (z13 : PySem.W.nsIn K mainGlobals "range" = some none)
    (z14 : PySem.W.nsIn K mainGlobals "sorted" = some none)
    (z15 : PySem.W.nsIn K mainGlobals "abs" = some none)
    (z16 : PySem.W.nsIn K mainGlobals "min" = some none)
    (z17 : PySem.W.nsIn K mainGlobals "max" = some none)
    (z18 : PySem.W.nsIn K mainGlobals "set" = some none)
    : ∀ (base : Heap) (H : Hp) (s : Shared) (a : Addr) (ns : List Int), K.In base → base.Ns mainGlobals mg → Env0 l.prog w K mg base callerA [] s H → SqL K H a (ns.map V.int) → ns.length ≤ 63 →
      codeAny (model l.prog w) callerA (.call (.ref fa) ⟨[.ref a], []⟩) (CR CX0 [] l.prog w H s (fun v _ => v = .bl true) fun _ _ _ => False) s := by
  intro base H s a ns _ _ en hS hn
  have e := hfa.symm.trans (PySem.W.mg_of X G a27)
  cases e
  have F1 := fun_mk (st := s_is_whole_number) l1 c1 k1
  have g1 := PySem.W.mg_of X G a1
  have F2 := fun_mk (st := s_is_index) l2 c2 k2
  have g2 := PySem.W.mg_of X G a2
  have F3 := fun_mk (st := s_spots_of) l3 c3 k3
  have g3 := PySem.W.mg_of X G a3
  have F4 := fun_mk (st := s_add_spots) l4 c4 k4
  have g4 := PySem.W.mg_of X G a4
  have F5 := fun_mk (st := s_counts_in) l5 c5 k5
  have g5 := PySem.W.mg_of X G a5
  have F6 := fun_mk (st := s_turned) l6 c6 k6
  have g6 := PySem.W.mg_of X G a6
  have F7 := fun_mk (st := s_way_to) l7 c7 k7
  have g7 := PySem.W.mg_of X G a7
  have F8 := fun_mk (st := s_place_on) l8 c8 k8
  have g8 := PySem.W.mg_of X G a8
  have F9 := fun_mk (st := s_label_on) l9 c9 k9
  have g9 := PySem.W.mg_of X G a9
  have F10 := fun_mk (st := s_way_at) l10 c10 k10
  have g10 := PySem.W.mg_of X G a10
  have F11 := fun_mk (st := s_label_in) l11 c11 k11
  have g11 := PySem.W.mg_of X G a11
  have F12 := fun_mk (st := s_other_place) l12 c12 k12
  have g12 := PySem.W.mg_of X G a12
  have F13 := fun_mk (st := s__law_deck) l13 c13 k13
  have g13 := PySem.W.mg_of X G a13
  have F14 := fun_mk (st := s__law_draw) l14 c14 k14
  have g14 := PySem.W.mg_of X G a14
  have F15 := fun_mk (st := s__law_pick) l15 c15 k15
  have g15 := PySem.W.mg_of X G a15
  have F16 := fun_mk (st := s__law_same) l16 c16 k16
  have g16 := PySem.W.mg_of X G a16
  have F17 := fun_mk (st := s__law_mixed) l17 c17 k17
  have g17 := PySem.W.mg_of X G a17
  have F18 := fun_mk (st := s__law_tree) l18 c18 k18
  have g18 := PySem.W.mg_of X G a18
  have F19 := fun_mk (st := s__law_drawn_tree) l19 c19 k19
  have g19 := PySem.W.mg_of X G a19
  have F20 := fun_mk (st := s__law_nodes) l20 c20 k20
  have g20 := PySem.W.mg_of X G a20
  have F21 := fun_mk (st := s__law_open) l21 c21 k21
  have g21 := PySem.W.mg_of X G a21
  have F22 := fun_mk (st := s__law_nest) l22 c22 k22
  have g22 := PySem.W.mg_of X G a22
  have F23 := fun_mk (st := s__law_sizes) l23 c23 k23
  have g23 := PySem.W.mg_of X G a23
  have F24 := fun_mk (st := s__law_part) l24 c24 k24
  have g24 := PySem.W.mg_of X G a24
  have F25 := fun_mk (st := s__law_way) l25 c25 k25
  have g25 := PySem.W.mg_of X G a25
  have F26 := fun_mk (st := s__law_right) l26 c26 k26
  have g26 := PySem.W.mg_of X G a26
  have F27 := fun_mk (st := s_law) l27 c27 k27
  have m_zip := PySem.W.mg_none_of X G z1
  have m_all := PySem.W.mg_none_of X G z2
  have m_repr := PySem.W.mg_none_of X G z3
  have m_sum := PySem.W.mg_none_of X G z4
  have m_len := PySem.W.mg_none_of X G z5
  have m_isinstance := PySem.W.mg_none_of X G z6
  have m_list := PySem.W.mg_none_of X G z7
  have m_tuple := PySem.W.mg_none_of X G z8
  have m_str := PySem.W.mg_none_of X G z9
  have m_int := PySem.W.mg_none_of X G z10
  have m_bool := PySem.W.mg_none_of X G z11
  have m_dict := PySem.W.mg_none_of X G z12
  have m_range := PySem.W.mg_none_of X G z13
  have m_sorted := PySem.W.mg_none_of X G z14
  have m_abs := PySem.W.mg_none_of X G z15
  have m_min := PySem.W.mg_none_of X G z16
  have m_max := PySem.W.mg_none_of X G z17
  have m_set := PySem.W.mg_none_of X G z18
  have b1 := F1.binds (ps := ["value"]) fun _ _ _ _ _ _ us hl => match us, hl with | [_], _ => rfl
  have b2 := F2.binds (ps := ["value", "many"]) fun _ _ _ _ _ _ us hl => match us, hl with | [_, _], _ => rfl
  have b3 := F3.binds (ps := ["nest"]) fun _ _ _ _ _ _ us hl => match us, hl with | [_], _ => rfl
  have b4 := F4.binds (ps := ["spots", "tree", "path", "hung"]) fun _ _ _ _ _ _ us hl => match us, hl with | [_, _, _, _], _ => rfl
  have b5 := F5.binds (ps := ["spots", "letters"]) fun _ _ _ _ _ _ us hl => match us, hl with | [_, _], _ => rfl
  have b6 := F6.binds (ps := ["spots", "counts", "at", "turn"]) fun _ _ _ _ _ _ us hl => match us, hl with | [_, _, _, _], _ => rfl
  have b7 := F7.binds (ps := ["spots", "counts", "kind", "index"]) fun _ _ _ _ _ _ us hl => match us, hl with | [_, _, _, _], _ => rfl
  have b8 := F8.binds (ps := ["spots", "sizes", "kind", "way"]) fun _ _ _ _ _ _ us hl => match us, hl with | [_, _, _, _], _ => rfl
  have b9 := F9.binds (ps := ["spots", "way"]) fun _ _ _ _ _ _ us hl => match us, hl with | [_, _], _ => rfl
  have b10 := F10.binds (ps := ["spots", "sizes", "kind", "place"]) fun _ _ _ _ _ _ us hl => match us, hl with | [_, _, _, _], _ => rfl
  have b11 := F11.binds (ps := ["nest", "kind", "place"]) fun _ _ _ _ _ _ us hl => match us, hl with | [_, _, _], _ => rfl
  have b12 := F12.binds (ps := ["nest", "kind", "place", "other"]) fun _ _ _ _ _ _ us hl => match us, hl with | [_, _, _, _], _ => rfl
  have b13 := F13.binds (ps := ["_law_script"]) fun _ _ _ _ _ _ us hl => match us, hl with | [_], _ => rfl
  have b14 := F14.binds (ps := ["_law_deck_here", "_law_many"]) fun _ _ _ _ _ _ us hl => match us, hl with | [_, _], _ => rfl
  have b15 := F15.binds (ps := ["_law_deck_here", "_law_items"]) fun _ _ _ _ _ _ us hl => match us, hl with | [_, _], _ => rfl
  have b16 := F16.binds (ps := ["_law_found", "_law_due"]) fun _ _ _ _ _ _ us hl => match us, hl with | [_, _], _ => rfl
  have b17 := F17.binds (ps := ["_law_deck_here", "_law_items"]) fun _ _ _ _ _ _ us hl => match us, hl with | [_, _], _ => rfl
  have b18 := F18.binds (ps := ["_law_deck_here", "_law_size", "_law_style", "_law_letters"]) fun _ _ _ _ _ _ us hl => match us, hl with | [_, _, _, _], _ => rfl
  have b19 := F19.binds (ps := ["_law_deck_here", "_law_limit"]) fun _ _ _ _ _ _ us hl => match us, hl with | [_, _], _ => rfl
  have b20 := F20.binds (ps := ["_law_tree_here", "_law_path"]) fun _ _ _ _ _ _ us hl => match us, hl with | [_, _], _ => rfl
  have b21 := F21.binds (ps := ["_law_tree_here"]) fun _ _ _ _ _ _ us hl => match us, hl with | [_], _ => rfl
  have b22 := F22.binds (ps := ["_law_deck_here", "_law_entries", "_law_limit", "_law_few"]) fun _ _ _ _ _ _ us hl => match us, hl with | [_, _, _, _], _ => rfl
  have b23 := F23.binds (ps := ["_law_nest_here"]) fun _ _ _ _ _ _ us hl => match us, hl with | [_], _ => rfl
  have b24 := F24.binds (ps := ["_law_nest_here", "_law_sizes_here", "_law_seat", "_law_path"]) fun _ _ _ _ _ _ us hl => match us, hl with | [_, _, _, _], _ => rfl
  have b25 := F25.binds (ps := ["_law_nest_here", "_law_kind", "_law_place"]) fun _ _ _ _ _ _ us hl => match us, hl with | [_, _, _], _ => rfl
  have b26 := F26.binds (ps := ["_law_nest_here", "_law_kind", "_law_places"]) fun _ _ _ _ _ _ us hl => match us, hl with | [_, _, _], _ => rfl
  have M : Mgs mg := ⟨m_zip, m_all, m_repr, m_sum, m_len, m_isinstance, m_list, m_tuple, m_str, m_int, m_bool, m_dict, m_range, m_sorted, m_abs, m_min, m_max⟩
  have mLET := PySem.W.mg_of X G aLn
  have TT : Turns K w mg aT := ⟨PySem.W.mg_of X G aTn, fun k => by
    cases k
    · exact ⟨bT1, ⟨esT, nT, .ref bT1, aTl, aTk, aT1, rfl⟩, fun H => by rw [turns_first]; exact .inr ⟨_, _, _, bT1l, rfl, rfl, (by show 3 ≤ sizeLine; decide), .cons ⟨_, rfl⟩ (.cons ⟨_, rfl⟩ (.cons ⟨_, rfl⟩ .nil))⟩⟩
    · exact ⟨bT2, ⟨esT, nT, .ref bT2, aTl, aTk, aT2, rfl⟩, fun H => by rw [turns_between]; exact .inr ⟨_, _, _, bT2l, rfl, rfl, (by show 3 ≤ sizeLine; decide), .cons ⟨_, rfl⟩ (.cons ⟨_, rfl⟩ (.cons ⟨_, rfl⟩ .nil))⟩⟩
    · exact ⟨bT3, ⟨esT, nT, .ref bT3, aTl, aTk, aT3, rfl⟩, fun H => by rw [turns_last]; exact .inr ⟨_, _, _, bT3l, rfl, rfl, (by show 3 ≤ sizeLine; decide), .cons ⟨_, rfl⟩ (.cons ⟨_, rfl⟩ (.cons ⟨_, rfl⟩ .nil))⟩⟩⟩
  have Dadd_spots : Df l.prog w K mg base 30 "add_spots" ["spots", "tree", "path", "hung"] (spAdd 30) := ⟨f4, _, ok_add F4 M b4 g4 30, b4, k4, g4⟩
  have Dspots_of : Df l.prog w K mg base 31 "spots_of" ["nest"] (spSpots K) := ⟨f3, _, ok_spots F3 Dadd_spots, b3, k3, g3⟩
  have Dcounts_in : Df l.prog w K mg base 1 "counts_in" ["spots", "letters"] spCounts := ⟨f5, _, ok_counts (k := 0) F5, b5, k5, g5⟩
  have Dis_whole_number : Df l.prog w K mg base 1 "is_whole_number" ["value"] spWhole := ⟨f1, _, ok_whole (k := 0) F1 M, b1, k1, g1⟩
  have Dis_index : Df l.prog w K mg base 2 "is_index" ["value", "many"] spIndex := ⟨f2, _, ok_index (k := 0) F2 Dis_whole_number, b2, k2, g2⟩
  have Dturned : Df l.prog w K mg base 1 "turned" ["spots", "counts", "at", "turn"] spTurned := ⟨f6, _, ok_turned (k := 0) F6, b6, k6, g6⟩
  have Dway_to : Df l.prog w K mg base 2 "way_to" ["spots", "counts", "kind", "index"] (spWay K) := ⟨f7, _, ok_way F7 M TT Dturned, b7, k7, g7⟩
  have Dplace_on : Df l.prog w K mg base 2 "place_on" ["spots", "sizes", "kind", "way"] spPlaceOn := ⟨f8, _, ok_placeOn F8 M TT Dturned, b8, k8, g8⟩
  have Dway_at : Df l.prog w K mg base 3 "way_at" ["spots", "sizes", "kind", "place"] (spWayAt K) := ⟨f10, _, ok_wayAt F10 Dis_index Dway_to, b10, k10, g10⟩
  have Dlabel_on : Df l.prog w K mg base 1 "label_on" ["spots", "way"] spLabOn := ⟨f9, _, ok_labOn (k := 0) F9 M, b9, k9, g9⟩
  have Dlabel_in : Df l.prog w K mg base 32 "label_in" ["nest", "kind", "place"] spLabIn := ⟨f11, _, ok_labIn F11 mLET Dspots_of Dcounts_in Dlabel_on Dway_at, b11, k11, g11⟩
  have Dother_place : Df l.prog w K mg base 32 "other_place" ["nest", "kind", "place", "other"] spOther := ⟨f12, _, ok_other F12 mLET Dspots_of Dcounts_in Dplace_on Dway_at, b12, k12, g12⟩
  have D_law_deck : Df l.prog w K mg base 1 "_law_deck" ["_law_script"] (spDeck K) := ⟨f13, _, ok_deck (k := 0) F13 M, b13, k13, g13⟩
  have D_law_draw : Df l.prog w K mg base 1 "_law_draw" ["_law_deck_here", "_law_many"] spDraw := ⟨f14, _, ok_draw (k := 0) F14 M, b14, k14, g14⟩
  have D_law_pick : Df l.prog w K mg base 2 "_law_pick" ["_law_deck_here", "_law_items"] (spPick K) := ⟨f15, _, ok_pick (k := 0) F15 M D_law_draw, b15, k15, g15⟩
  have D_law_mixed : Df l.prog w K mg base 2 "_law_mixed" ["_law_deck_here", "_law_items"] spMixed := ⟨f17, _, ok_mixed (k := 0) F17 M D_law_draw, b17, k17, g17⟩
  have D_law_tree : Df l.prog w K mg base 33 "_law_tree" ["_law_deck_here", "_law_size", "_law_style", "_law_letters"] (spTree 30) := ⟨f18, _, ok_tree F18 b18 g18 D_law_draw D_law_pick 30, b18, k18, g18⟩
  have D_law_drawn_tree : Df l.prog w K mg base 34 "_law_drawn_tree" ["_law_deck_here", "_law_limit"] spDrawn := ⟨f19, _, ok_drawn F19 D_law_draw D_law_pick D_law_tree, b19, k19, g19⟩
  have D_law_nodes40 : Df l.prog w K mg base 40 "_law_nodes" ["_law_tree_here", "_law_path"] (spNodes 40) := ⟨f20, _, ok_nodes F20 b20 g20 40, b20, k20, g20⟩
  have D_law_nodes : Df l.prog w K mg base 70 "_law_nodes" ["_law_tree_here", "_law_path"] (spNodes 70) := ⟨f20, _, ok_nodes F20 b20 g20 70, b20, k20, g20⟩
  have D_law_open : Df l.prog w K mg base 41 "_law_open" ["_law_tree_here"] spOpen := ⟨f21, _, ok_open F21 D_law_nodes40, b21, k21, g21⟩
  have D_law_nest : Df l.prog w K mg base 42 "_law_nest" ["_law_deck_here", "_law_entries", "_law_limit", "_law_few"] spNest := ⟨f22, _, ok_nest F22 M D_law_draw D_law_pick D_law_mixed D_law_drawn_tree D_law_open, b22, k22, g22⟩
  have D_law_sizes : Df l.prog w K mg base 41 "_law_sizes" ["_law_nest_here"] spSizes := ⟨f23, _, ok_sizes F23 M m_sum D_law_nodes40, b23, k23, g23⟩
  have D_law_same : DfG l.prog w K mg base 1 "_law_same" ["_law_found", "_law_due"] (spSameV K) := ⟨f16, _, ok_same F16 m_repr, b16, k16, g16⟩
  have D_law_part : Df l.prog w K mg base 41 "_law_part" ["_law_nest_here", "_law_sizes_here", "_law_seat", "_law_path"] spPart := ⟨f24, _, ok_part F24 M m_sum D_law_nodes40, b24, k24, g24⟩
  have D_law_way : Df l.prog w K mg base 42 "_law_way" ["_law_nest_here", "_law_kind", "_law_place"] spWayL := ⟨f25, _, ok_way_law F25 M D_law_sizes D_law_part D_law_nodes40, b25, k25, g25⟩
  have D_law_right : DfG l.prog w K mg base 43 "_law_right" ["_law_nest_here", "_law_kind", "_law_places"] spRightL := ⟨f26, _, ok_rightL F26 M m_set D_law_way Dlabel_in Dother_place D_law_same, b26, k26, g26⟩
  exact run_law F27 (.of_eq rfl) en hS M m_set D_law_deck D_law_draw D_law_pick D_law_nest D_law_sizes Dlabel_in Dother_place D_law_same D_law_right
theorem walk_at {l : PySem.W.OpenLaw} {q : Program} {loose : List Str} {XP : (Str → Option Value) → Heap → Prop} {YP : World → Heap → Prop} {d : DefRec} {K : Params → PySem.W.Frag} (most : l.most = some 63) (noDf : d.params.defaults = [])
    (inK : ∀ (w : World) (h : Heap), YP w h → (K w.params).In h)
    (F : ∀ (w : World) (mg : Str → Option Value) (fa : Addr) (h : Heap), (K w.params).In h → h.Ns mainGlobals mg → mg d.name = some (.ref fa) →
      ∀ (base : Heap) (H : Hp) (s : Shared) (a : Addr) (ns : List Int), (K w.params).In base → base.Ns mainGlobals mg → Env0 l.prog w (K w.params) mg base callerA [] s H → SqL (K w.params) H a (ns.map V.int) → ns.length ≤ 63 →
        codeAny (model l.prog w) callerA (.call (.ref fa) ⟨[.ref a], []⟩) (CR CX0 [] l.prog w H s (fun v _ => v = .bl true) fun _ _ _ => False) s) :
    PySem.W.WalkO q loose XP YP l.row.toRowW d [] (fun f vs => PySem.call f vs) := by
  refine Att.attach_call most noDf ?_
  intro w s₀ s₁ mg mb fa o pm cd doc a vs ns G Y ho hd hcd hmg hobj hints hlen hg
  exact law_at (inK w _ Y) G.T.g G.T.b G.T.builtins G.T.nolimit hg hobj hints (Nat.le_trans hlen (by decide)) fun base H h1 h2 en hS => F w mg fa _ (inK w _ Y) G.T.g hmg base H s₁ a ns h1 h2 en hS hlen
end Tw
open PySem PySem.W PyProof.Rows
set_option maxRecDepth 100000 in
set_option maxHeartbeats 0 in
theorem PySem.Challenge.cw_treewalks_k51_whole_great_nests_holds : PySem.Challenge.rw_treewalks_k51_whole_great_nests.Holds := by
  w_on; o_law; k_head; (case hw => w_witness2)
  k_fill
  refine Tw.walk_at (l := PySem.Challenge.rw_treewalks_k51_whole_great_nests) rfl rfl (fun w h Y => by first | exact PySem.W.kIn_of Y | exact PySem.W.km_in_of Y) ?F
  case F =>
    intro w mg fa h KX G hmg
    refine' Tw.all_mk KX G hmg ?aLn ?aTn ?aTl ?aTk ?aT1 ?bT1l ?aT2 ?bT2l ?aT3 ?bT3l ?a1 ?l1 ?c1 ?k1 ?a2 ?l2 ?c2 ?k2 ?a3 ?l3 ?c3 ?k3 ?a4 ?l4 ?c4 ?k4 ?a5 ?l5 ?c5 ?k5 ?a6 ?l6 ?c6 ?k6 ?a7 ?l7 ?c7 ?k7 ?a8 ?l8 ?c8 ?k8 ?a9 ?l9 ?c9 ?k9 ?a10 ?l10 ?c10 ?k10 ?a11 ?l11 ?c11 ?k11 ?a12 ?l12 ?c12 ?k12 ?a13 ?l13 ?c13 ?k13 ?a14 ?l14 ?c14 ?k14 ?a15 ?l15 ?c15 ?k15 ?a16 ?l16 ?c16 ?k16 ?a17 ?l17 ?c17 ?k17 ?a18 ?l18 ?c18 ?k18 ?a19 ?l19 ?c19 ?k19 ?a20 ?l20 ?c20 ?k20 ?a21 ?l21 ?c21 ?k21 ?a22 ?l22 ?c22 ?k22 ?a23 ?l23 ?c23 ?k23 ?a24 ?l24 ?c24 ?k24 ?a25 ?l25 ?c25 ?k25 ?a26 ?l26 ?c26 ?k26 ?a27 ?l27 ?c27 ?k27 ?z1 ?z2 ?z3 ?z4 ?z5 ?z6 ?z7 ?z8 ?z9 ?z10 ?z11 ?z12 ?z13 ?z14 ?z15 ?z16 ?z17 ?z18
    (case aLn => first | k_is | rfl | decide +kernel)
    (case aTn => first | k_is | rfl | decide +kernel)
    (case aTl => first | k_is | rfl | decide +kernel)
    (case aTk => exact ⟨⟨_, _, rfl, rfl⟩, ⟨_, _, rfl, rfl⟩, ⟨_, _, rfl, rfl⟩, trivial⟩)
    (case aT1 => first | k_is | rfl | decide +kernel)
    (case bT1l => first | k_is | rfl | decide +kernel)
    (case aT2 => first | k_is | rfl | decide +kernel)
    (case bT2l => first | k_is | rfl | decide +kernel)
    (case aT3 => first | k_is | rfl | decide +kernel)
    (case bT3l => first | k_is | rfl | decide +kernel)
    (case a1 => k_is)
    (case l1 => k_is)
    (case c1 => k_is)
    (case k1 => k_is)
    (case a2 => k_is)
    (case l2 => k_is)
    (case c2 => k_is)
    (case k2 => k_is)
    (case a3 => k_is)
    (case l3 => k_is)
    (case c3 => k_is)
    (case k3 => k_is)
    (case a4 => k_is)
    (case l4 => k_is)
    (case c4 => k_is)
    (case k4 => k_is)
    (case a5 => k_is)
    (case l5 => k_is)
    (case c5 => k_is)
    (case k5 => k_is)
    (case a6 => k_is)
    (case l6 => k_is)
    (case c6 => k_is)
    (case k6 => k_is)
    (case a7 => k_is)
    (case l7 => k_is)
    (case c7 => k_is)
    (case k7 => k_is)
    (case a8 => k_is)
    (case l8 => k_is)
    (case c8 => k_is)
    (case k8 => k_is)
    (case a9 => k_is)
    (case l9 => k_is)
    (case c9 => k_is)
    (case k9 => k_is)
    (case a10 => k_is)
    (case l10 => k_is)
    (case c10 => k_is)
    (case k10 => k_is)
    (case a11 => k_is)
    (case l11 => k_is)
    (case c11 => k_is)
    (case k11 => k_is)
    (case a12 => k_is)
    (case l12 => k_is)
    (case c12 => k_is)
    (case k12 => k_is)
    (case a13 => k_is)
    (case l13 => k_is)
    (case c13 => k_is)
    (case k13 => k_is)
    (case a14 => k_is)
    (case l14 => k_is)
    (case c14 => k_is)
    (case k14 => k_is)
    (case a15 => k_is)
    (case l15 => k_is)
    (case c15 => k_is)
    (case k15 => k_is)
    (case a16 => k_is)
    (case l16 => k_is)
    (case c16 => k_is)
    (case k16 => k_is)
    (case a17 => k_is)
    (case l17 => k_is)
    (case c17 => k_is)
    (case k17 => k_is)
    (case a18 => k_is)
    (case l18 => k_is)
    (case c18 => k_is)
    (case k18 => k_is)
    (case a19 => k_is)
    (case l19 => k_is)
    (case c19 => k_is)
    (case k19 => k_is)
    (case a20 => k_is)
    (case l20 => k_is)
    (case c20 => k_is)
    (case k20 => k_is)
    (case a21 => k_is)
    (case l21 => k_is)
    (case c21 => k_is)
    (case k21 => k_is)
    (case a22 => k_is)
    (case l22 => k_is)
    (case c22 => k_is)
    (case k22 => k_is)
    (case a23 => k_is)
    (case l23 => k_is)
    (case c23 => k_is)
    (case k23 => k_is)
    (case a24 => k_is)
    (case l24 => k_is)
    (case c24 => k_is)
    (case k24 => k_is)
    (case a25 => k_is)
    (case l25 => k_is)
    (case c25 => k_is)
    (case k25 => k_is)
    (case a26 => k_is)
    (case l26 => k_is)
    (case c26 => k_is)
    (case k26 => k_is)
    (case a27 => k_is)
    (case l27 => k_is)
    (case c27 => k_is)
    (case k27 => k_is)
    (case z1 => k_is)
    (case z2 => k_is)
    (case z3 => k_is)
    (case z4 => k_is)
    (case z5 => k_is)
    (case z6 => k_is)
    (case z7 => k_is)
    (case z8 => k_is)
    (case z9 => k_is)
    (case z10 => k_is)
    (case z11 => k_is)
    (case z12 => k_is)
    (case z13 => k_is)
    (case z14 => k_is)
    (case z15 => k_is)
    (case z16 => k_is)
    (case z17 => k_is)
    (case z18 => k_is)
