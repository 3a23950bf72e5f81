import PyProof.Rows.All
import Wide.All
import OpenK.AllK
import Wide.FinOn
import HandS.ForMost
import HandS.ForExc
import HandS.Wide
import HandS.IsInst
import HandS.Flow
import HandS.FStrTup
import HandS.NoneIn
import HandS.TupAny
import HandS.Style
import HandS.TryMany
import HandS.ExcIs
import HandS.ExcField
import HandS.ExcOwn
import KE.KExcInit
import KE.KExcIs
import HandS.Walk
import HandS.Zip
import KE.GoesZip
import KE.GoesMore
import HandS.Sort
import HandS.Set
import HandS.SetFor
import HandS.Strs
import HandS.SetTxt0
import HandS.TupSets
import HandS.DictComp
import KE.KSortTupG
import KE.KSortTupUse
import HandS.More
import HandS.Replace
import HandS.Star
import PyProof.CollectStr
import PySem.Challenge.RW_treewalks_k50_errors_of_nests
set_option Elab.async false
set_option maxRecDepth 100000
set_option maxHeartbeats 4000000
namespace Tw
open PySem PySem.Spec PyProof.Rows L2
/-! ### trees over signs -/
abbrev ch (c : Nat) : Str := ⟨#[c]⟩
def tx (l : List Nat) : Str := ⟨l.toArray⟩
theorem tx_cps (l : List Nat) : (tx l).cps.toList = l := rfl
theorem tx_size (l : List Nat) : (tx l).cps.size = l.length := rfl
theorem tx_len (l : List Nat) : (tx l).length = l.length := rfl
theorem tx_one (c : Nat) : tx [c] = ch c := rfl
theorem tx_app (a b : List Nat) : tx a ++ tx b = tx (a ++ b) := by
  show (⟨(tx a).cps ++ (tx b).cps⟩ : Str) = _
  simp [tx]
theorem ch_app (c : Nat) (b : List Nat) : ch c ++ tx b = tx (c :: b) := tx_app [c] b
theorem tx_inj {a b : List Nat} (h : tx a = tx b) : a = b := congrArg (fun z : Str => z.cps.toList) h
theorem ch_inj {a b : Nat} (h : ch a = ch b) : a = b := by have := tx_inj (a := [a]) (b := [b]) h; simpa using this
theorem ch_lt (a b : Nat) : decide ((ch a).cps.toList < (ch b).cps.toList) = decide (a < b) := by
  have : ((ch a).cps.toList < (ch b).cps.toList) ↔ a < b := by
    show [a] < [b] ↔ _
    simp [List.cons_lt_cons_iff]
  simp only [this]
theorem tx_to (l : List Nat) (k : Nat) : cutS (tx l) none (some (k : Int)) = tx (l.take k) := by
  unfold cutS tx
  show (⟨_⟩ : Str) = ⟨_⟩
  rw [HT.sIx_nat, HT.sIx_none]
  show (⟨((l.drop 0).take (min k l.length - 0)).toArray⟩ : Str) = ⟨(l.take k).toArray⟩
  rw [List.drop_zero, Nat.sub_zero, Nat.min_def]
  split
  · rfl
  · rw [List.take_of_length_le (Nat.le_refl _), List.take_of_length_le (by omega)]
theorem tx_from (l : List Nat) (k : Nat) : cutS (tx l) (some (k : Int)) none = tx (l.drop k) := by
  unfold cutS tx
  show (⟨_⟩ : Str) = ⟨_⟩
  rw [HT.sIx_nat, HT.sIx_none]
  show (⟨((l.drop (min k l.length)).take (l.length - min k l.length)).toArray⟩ : Str) = ⟨(l.drop k).toArray⟩
  by_cases h : k ≤ l.length
  · rw [Nat.min_eq_left h, List.take_of_length_le (by rw [List.length_drop]; omega)]
  · rw [Nat.min_eq_right (by omega), List.drop_eq_nil_of_le (Nat.le_refl _), List.drop_eq_nil_of_le (by omega), List.take_nil]
theorem joinL_ones : ∀ l : List Nat, TL.joinL [] (l.map fun c => [c]) = l
  | [] => rfl
  | [c] => rfl
  | c :: d :: r => by
    have := joinL_ones (d :: r)
    show [c] ++ ([] ++ TL.joinL [] ((d :: r).map fun c => [c])) = _
    rw [this]; rfl
theorem tx_join (l : List Nat) : Txt.join (Str.ofString "") (l.map ch) = tx l := by
  rw [TL.join_eq]
  have e := TL.tl_join (Str.ofString "") (l.map ch)
  refine TL.ext_tl (e.trans ?_)
  rw [List.map_map]
  exact joinL_ones l
theorem tx_joinOk (l : List Nat) (h : l.length ≤ 1000) : ((l.map ch).map (·.length)).sum + (l.map ch).length * (Str.ofString "").length ≤ 16777216 := by
  have e0 : (Str.ofString "").length = 0 := by decide +kernel
  have e1 : ∀ l : List Nat, ((l.map ch).map (·.length)).sum = l.length := by
    intro l
    induction l with
    | nil => rfl
    | cons c r ih =>
      rw [List.map_cons, List.map_cons, List.sum_cons, ih, List.length_cons]
      show 1 + r.length = _
      omega
  rw [e0, e1]
  omega
inductive B where
  | nil
  | node (l : B) (x : Nat) (r : B)
  deriving DecidableEq
def B.size : B → Nat
  | .nil => 0
  | .node l _ r => l.size + 1 + r.size
def B.deep : B → Nat
  | .nil => 0
  | .node l _ r => 1 + max l.deep r.deep
def B.data : B → PyData
  | .nil => .none
  | .node l x r => .tuple [l.data, .str (ch x), r.data]
def B.pre : B → List Nat
  | .nil => []
  | .node l x r => x :: (l.pre ++ r.pre)
def B.mid : B → List Nat
  | .nil => []
  | .node l x r => l.mid ++ x :: r.mid
theorem B.deep_le : ∀ t : B, t.deep ≤ t.size
  | .nil => Nat.le_refl _
  | .node l _ r => by
    have h1 := l.deep_le
    have h2 := r.deep_le
    show 1 + max l.deep r.deep ≤ l.size + 1 + r.size
    omega
theorem B.pre_len : ∀ t : B, t.pre.length = t.size
  | .nil => rfl
  | .node l x r => by
    have h1 := l.pre_len
    have h2 := r.pre_len
    show (x :: (l.pre ++ r.pre)).length = l.size + 1 + r.size
    rw [List.length_cons, List.length_append]
    omega
theorem B.mid_len : ∀ t : B, t.mid.length = t.size
  | .nil => rfl
  | .node l x r => by
    have h1 := l.mid_len
    have h2 := r.mid_len
    show (l.mid ++ x :: r.mid).length = l.size + 1 + r.size
    rw [List.length_append, List.length_cons]
    omega
theorem B.mid_mem (t : B) (c : Nat) : c ∈ t.mid ↔ c ∈ t.pre := by
  induction t with
  | nil => exact Iff.rfl
  | node l x r h1 h2 =>
    show c ∈ l.mid ++ x :: r.mid ↔ c ∈ x :: (l.pre ++ r.pre)
    rw [List.mem_append, List.mem_cons, List.mem_cons, List.mem_append, h1, h2]
    constructor
    · rintro (h | h | h)
      · exact .inr (.inl h)
      · exact .inl h
      · exact .inr (.inr h)
    · rintro (h | h | h)
      · exact .inr (.inl h)
      · exact .inl h
      · exact .inr (.inr h)
/-- the tree t lies at v -/
inductive BAt (H : Hp) : V → B → Prop
  | nil : BAt H .non .nil
  | node {a : Addr} {l r : V} {x : Nat} {tl tr : B} : H a = some (.tup [l, .str (ch x), r]) → BAt H l tl → BAt H r tr → BAt H (.ref a) (.node tl x tr)
/-- tuples stand still -/
def KeepT (H H' : Hp) : Prop := ∀ b xs, H b = some (.tup xs) → H' b = some (.tup xs)
theorem KeepT.refl (H : Hp) : KeepT H H := fun _ _ h => h
theorem KeepT.trans {H H1 H2 : Hp} (a : KeepT H H1) (b : KeepT H1 H2) : KeepT H H2 := fun c xs h => b c xs (a c xs h)
theorem Same.keepT {H H' : Hp} (h : Same H H') : KeepT H H' := fun b xs e => h b _ e
theorem BAt.keep {H H' : Hp} (k : KeepT H H') {v : V} {t : B} (h : BAt H v t) : BAt H' v t := by
  induction h with
  | nil => exact .nil
  | node e _ _ h1 h2 => exact .node (k _ _ e) h1 h2
theorem BAt.same {H H' : Hp} (k : Same H H') {v : V} {t : B} (h : BAt H v t) : BAt H' v t := h.keep (Tw.Same.keepT k)
theorem BAt.dp {K : PySem.W.Frag} {H : Hp} {v : V} {t : B} (h : BAt H v t) : Dp K H v t.data := by
  induction h with
  | nil => exact .non
  | node e _ _ h1 h2 => exact .tup (SqT.of e) (.cons h1 (.cons (.str _) (.cons h2 .nil)))
theorem BAt.inv {H : Hp} {v : V} {t : B} (h : BAt H v t) : (v = .non ∧ t = .nil) ∨ ∃ a l r x tl tr, v = .ref a ∧ t = .node tl x tr ∧ H a = some (.tup [l, .str (ch x), r]) ∧ BAt H l tl ∧ BAt H r tr := by
  cases h with
  | nil => exact .inl ⟨rfl, rfl⟩
  | node e h1 h2 => exact .inr ⟨_, _, _, _, _, _, rfl, rfl, e, h1, h2⟩
theorem same_new {H : Hp} {p : Addr} (h : H p = none) (o : HO) : Same H (upd H p o) := fun b u q => by rw [upd_ne (ne_of_none q h)]; exact q
theorem small {n : Nat} (h : n ≤ 1000) : n ≤ sizeLine := Nat.le_of_lt (small1000 h)
theorem at_map {α : Type} {f : α → V} {ns : List α} {i : Int} {v : α} (h0 : 0 ≤ i) (h : ns[i.toNat]? = some v) : atI (ns.map f) i = some (f v) := by
  have e : i = ((i.toNat : Nat) : Int) := by omega
  rw [e]
  exact atI_nat (by rw [List.getElem?_map, h]; rfl)
theorem ixN_nat {n : Nat} {i : Int} (h0 : 0 ≤ i) (h : i < n) : ixN n i = some i.toNat := by
  unfold ixN
  first
    | rw [if_pos h0, if_pos h]
    | (rw [if_pos h0]; rw [if_pos (by omega)])
    | simp [h0, h]
theorem cut_to (xs : List V) (k : Nat) : cutV xs none (some (k : Int)) = xs.take k := by
  unfold cutV
  rw [HT.sIx_nat, HT.sIx_none, List.drop_zero, Nat.sub_zero]
  rw [Nat.min_def]
  split
  · rfl
  · rw [List.take_of_length_le (Nat.le_refl _), List.take_of_length_le (by omega)]
theorem cut_from (xs : List V) (k : Nat) : cutV xs (some (k : Int)) none = xs.drop k := by
  unfold cutV
  rw [HT.sIx_nat, HT.sIx_none]
  by_cases h : k ≤ xs.length
  · rw [Nat.min_eq_left h, List.take_of_length_le (by rw [List.length_drop]; omega)]
  · rw [Nat.min_eq_right (by omega), List.drop_eq_nil_of_le (Nat.le_refl _), List.drop_eq_nil_of_le (by omega), List.take_nil]
theorem kept {σ : L2.St} {H : Hp} {A B : Hp → Prop} (h : A H) : tYes σ H (fun b H3 => if b = true then A H3 else B H3) := by
  show if true = true then A H else B H
  exact iteT h
theorem erase_map {α β : Type} (f : α → β) : ∀ (l : List α) (i : Nat), (l.map f).eraseIdx i = (l.eraseIdx i).map f
  | [], _ => rfl
  | _ :: _, 0 => rfl
  | x :: l, i + 1 => congrArg (f x :: ·) (erase_map f l i)
/-- a def that stands at a name, with its promise -/
structure Df (P : Program) (w : World) (K : PySem.W.Frag) (mg : Str → Option Value) (base : Heap) (k : Nat) (nm : Str) (ps : List Str) (sp : Sp) where
  f : Addr
  fd : FuncData
  ok : FnOk P w K mg base CX0 k f fd ps sp
  b : Binds K fd ps []
  kp : PySem.W.keepIn K (.ref f) = true
  g : mg nm = some (.ref f)
structure Mgs (mg : Str → Option Value) : Prop where
  zip : mg "zip" = none
  all : mg "all" = none
  repr : mg "repr" = none
  sum : mg "sum" = none
  len : mg "len" = none
  isinstance : mg "isinstance" = none
  list : mg "list" = none
  tuple : mg "tuple" = none
  str : mg "str" = none
  int : mg "int" = none
  bool : mg "bool" = none
  dict : mg "dict" = none
  range : mg "range" = none
  sorted : mg "sorted" = none
  abs : mg "abs" = none
  min : mg "min" = none
  max : mg "max" = none
theorem vals_signs : ∀ (l : List Nat) (vs : List Value), vs.length = l.length → (∀ (j : Nat) (v : Value), vs[j]? = some v → ∃ c u, l[j]? = some c ∧ v = .str ⟨#[c]⟩ u) → Vals (l.map fun c => V.str ⟨#[c]⟩) vs
  | [], [], _, _ => .nil
  | [], _ :: _, h, _ => by simp at h
  | _ :: _, [], h, _ => by simp at h
  | c :: l, v :: vs, h, k => by
    obtain ⟨c', u, e, rfl⟩ := k 0 v rfl
    cases e
    exact .cons ⟨u, rfl⟩ (vals_signs l vs (by simpa using h) fun j v e => k (j + 1) v e)
theorem call_signs {X : Cx} (hc : X.calm = true) : CallR X (.type "list") (fun xs H Q => ∃ x : Str, xs = [.str x] ∧ x.cps.size ≤ 1000 ∧ ∀ p, H p = none → Q (.ref p) (upd H p (.lst (x.cps.toList.map fun c => V.str ⟨#[c]⟩)))) := by
  intro pins s σ H xs us Q I r h
  obtain ⟨x, rfl, hz, q⟩ := h
  obtain ⟨u, rfl, t, rfl⟩ := vals1 r
  have hz' : x.cps.size ≤ sizeLine := small hz
  refine call_list_str (I.ok.hd hc) x t (fun h' tk acc' c' hk hS hacc => ?_) hz'
  have hv : Vals (x.cps.toList.map fun c => V.str ⟨#[c]⟩) acc'.toList := vals_signs _ _ (by rw [Array.length_toList, Array.length_toList]; exact hacc.1) fun j v e => by
    obtain ⟨c, u, h1, h2⟩ := hacc.2 j v (by rw [← Array.getElem?_toList]; exact e)
    exact ⟨c, u, by rw [Array.getElem?_toList]; exact h1, h2⟩
  exact ⟨.ref s.heap.objs.size, _, I.laid (t' := tk) hk (Nat.le_refl _) (show ObjOk X.prog X.w _ h' _ (.lst _) from ⟨by rw [List.length_map, Array.length_toList]; exact hz', acc'.toList, c', hv, by rw [Array.toArray_toList]; exact hS⟩), rfl, q _ (I.hok.fresh (Nat.le_refl _))⟩
/-- for c in text -/
theorem for_text {x : Str} {g : TG} {tb : TS} {D : Ends} {σ : L2.St} {H : Hp} (Pv : Nat → L2.St → Hp → Prop) (h0 : Pv 0 σ H)
    (hs : ∀ i c σ H, x.cps.toList[i]? = some c → Pv i σ H → g (.str ⟨#[c]⟩) σ H fun σ2 H2 => tb { D with nx := Pv (i + 1), ct := Pv (i + 1), bk := D.nx } σ2 H2)
    (hd : ∀ σ H, Pv x.cps.toList.length σ H → D.nx σ H) :
    ∃ W : Nat → Nat → L2.St → Hp → Prop, (∃ m, W 0 m σ H) ∧ ∀ i m σ H, W i m σ H →
      ((Its x).stop i H ∧ D.nx σ H) ∨ ((Its x).go i H ∧ ∃ N : L2.St → Hp → Prop, (∀ σ' H', N σ' H' → ∃ m', m' < m ∧ W (i + 1) m' σ' H') ∧ ∀ v H', (Its x).yld i H v H' → g v σ H' fun σ2 H2 => tb { D with nx := N, ct := N, bk := D.nx } σ2 H2) := by
  refine for_it walk_str Pv h0 (fun _ _ _ _ _ => trivial) (fun i v σ H H' hi hp hy => ?_) (fun σ H hp => hd σ H (by rw [Array.length_toList]; exact hp))
  obtain ⟨rfl, c, hc, rfl⟩ := hy
  exact hs i c σ H' (by rw [Array.getElem?_toList]; exact hc) hp
theorem lc_text {x : Str} {g : TG} {tt : TT} {te : TE} {vs : List Nat} {σ : L2.St} {H1 : Hp} {D : Addr} {Qd : Hp → Prop} (Pv : Nat → Hp → Prop) (h0 : Pv 0 (upd H1 D (.lst [])))
    (hs : ∀ i c H, x.cps.toList[i]? = some c → Pv i H → g (.str ⟨#[c]⟩) (wipe σ vs) H fun σ2 H2 => wipe σ2 vs = wipe σ vs ∧ tt σ2 H2 fun b H3 =>
      if b = true then te σ2 H3 fun y H4 => ∃ acc, H4 D = some (.lst acc) ∧ acc.length < sizeLine ∧ Pv (i + 1) (upd H4 D (.lst (acc ++ [y]))) else Pv (i + 1) H3) (hd : ∀ H, Pv x.cps.toList.length H → Qd H) :
    ∃ W : Nat → Nat → Hp → Prop, (∃ m, W 0 m (upd H1 D (.lst []))) ∧ ∀ i m H, W i m H →
      ((Its x).stop i H ∧ Qd H) ∨ ((Its x).go i H ∧ ∃ Nx : Hp → Prop, (∀ H', Nx H' → ∃ m', m' < m ∧ W (i + 1) m' H') ∧ ∀ v H', (Its x).yld i H v H' → g v (wipe σ vs) H' fun σ2 H2 => wipe σ2 vs = wipe σ vs ∧ tt σ2 H2 fun b H3 =>
        if b = true then te σ2 H3 fun y H4 => ∃ acc, H4 D = some (.lst acc) ∧ acc.length < sizeLine ∧ Nx (upd H4 D (.lst (acc ++ [y]))) else Nx H3) := by
  refine lc_it walk_str Pv h0 (fun _ _ _ _ => trivial) (fun i v H H' hi hp hy => ?_) (fun H hp => hd H (by rw [Array.length_toList]; exact hp))
  obtain ⟨rfl, c, hc, rfl⟩ := hy
  exact hs i c H' (by rw [Array.getElem?_toList]; exact hc) hp
/-! ### the text by places -/
def top (i : Nat) : Stmt := PySem.Challenge.pw_treewalks_k50_errors_of_nests.main.body.getD i (.Pass ⟨0, 0, 0, 0⟩)
abbrev s_is_whole_number : Stmt := top 8
abbrev s_is_index : Stmt := top 9
abbrev s_spots_of : Stmt := top 12
abbrev s_add_spots : Stmt := top 13
abbrev s_counts_in : Stmt := top 14
abbrev s_count_label : Stmt := top 15
abbrev s_turned : Stmt := top 16
abbrev s_way_to : Stmt := top 17
abbrev s_place_on : Stmt := top 18
abbrev s_label_on : Stmt := top 19
abbrev s_way_at : Stmt := top 20
abbrev s_label_in : Stmt := top 21
abbrev s_other_place : Stmt := top 22
abbrev s_nth_label : Stmt := top 23
abbrev s__law_deck : Stmt := top 25
abbrev s__law_draw : Stmt := top 26
abbrev s__law_pick : Stmt := top 27
abbrev s__law_same : Stmt := top 28
abbrev s__law_mixed : Stmt := top 29
abbrev s__law_tree : Stmt := top 30
abbrev s__law_drawn_tree : Stmt := top 31
abbrev s__law_nodes : Stmt := top 32
abbrev s__law_open : Stmt := top 33
abbrev s__law_nest : Stmt := top 34
abbrev s__law_sizes : Stmt := top 35
abbrev s__law_small_nest : Stmt := top 36
abbrev s__law_whole : Stmt := top 37
abbrev s__law_odd : Stmt := top 38
abbrev s__law_call : Stmt := top 39
abbrev s__law_is_alone : Stmt := top 40
abbrev s__law_told : Stmt := top 41
abbrev s_law : Stmt := top 42
abbrev s_NoPath___init__ : Stmt := inClass (top 1) 0
abbrev s_NoKind___init__ : Stmt := inClass (top 2) 0
abbrev s_NoPlace___init__ : Stmt := inClass (top 3) 0
abbrev s_NoIndex___init__ : Stmt := inClass (top 4) 0
abbrev s_NoVersion___init__ : Stmt := inClass (top 5) 0
theorem sc_is_whole_number : FnScope ["value"] ["value"] (defScope s_is_whole_number) := ⟨rfl, rfl, rfl, by decide +kernel, rfl, by decide +kernel, by decide +kernel⟩
theorem sc_is_index : FnScope ["value", "many"] ["value", "many"] (defScope s_is_index) := ⟨rfl, rfl, rfl, by decide +kernel, rfl, by decide +kernel, by decide +kernel⟩
theorem sc_spots_of : FnScope ["nest", "spots", "roots", "tree", "links", "path", "index", "hung"] ["nest"] (defScope s_spots_of) := ⟨rfl, rfl, rfl, by decide +kernel, rfl, by decide +kernel, by decide +kernel⟩
theorem sc_add_spots : FnScope ["spots", "tree", "path", "hung", "left", "right"] ["spots", "tree", "path", "hung"] (defScope s_add_spots) := ⟨rfl, rfl, rfl, by decide +kernel, rfl, by decide +kernel, by decide +kernel⟩
theorem sc_counts_in : FnScope ["spots", "letters", "counts", "left", "label", "right"] ["spots", "letters"] (defScope s_counts_in) := ⟨rfl, rfl, rfl, by decide +kernel, rfl, by decide +kernel, by decide +kernel⟩
theorem sc_count_label : FnScope ["nest", "label"] ["nest", "label"] (defScope s_count_label) := ⟨rfl, rfl, rfl, by decide +kernel, rfl, by decide +kernel, by decide +kernel⟩
theorem sc_turned : FnScope ["spots", "counts", "at", "turn", "left", "label", "right", "side"] ["spots", "counts", "at", "turn"] (defScope s_turned) := ⟨rfl, rfl, rfl, by decide +kernel, rfl, by decide +kernel, by decide +kernel⟩
theorem sc_way_to : FnScope ["spots", "counts", "kind", "index", "way", "rest", "at", "turn", "side", "many"] ["spots", "counts", "kind", "index"] (defScope s_way_to) := ⟨rfl, rfl, rfl, by decide +kernel, rfl, by decide +kernel, by decide +kernel⟩
theorem sc_place_on : FnScope ["spots", "sizes", "kind", "way", "place", "at", "step", "turn", "side", "many"] ["spots", "sizes", "kind", "way"] (defScope s_place_on) := ⟨rfl, rfl, rfl, by decide +kernel, rfl, by decide +kernel, by decide +kernel⟩
theorem sc_label_on : FnScope ["spots", "way", "at", "step", "left", "label", "right"] ["spots", "way"] (defScope s_label_on) := ⟨rfl, rfl, rfl, by decide +kernel, rfl, by decide +kernel, by decide +kernel⟩
theorem sc_way_at : FnScope ["spots", "sizes", "kind", "place"] ["spots", "sizes", "kind", "place"] (defScope s_way_at) := ⟨rfl, rfl, rfl, by decide +kernel, rfl, by decide +kernel, by decide +kernel⟩
theorem sc_label_in : FnScope ["nest", "kind", "place", "spots", "sizes"] ["nest", "kind", "place"] (defScope s_label_in) := ⟨rfl, rfl, rfl, by decide +kernel, rfl, by decide +kernel, by decide +kernel⟩
theorem sc_other_place : FnScope ["nest", "kind", "place", "other", "spots", "sizes"] ["nest", "kind", "place", "other"] (defScope s_other_place) := ⟨rfl, rfl, rfl, by decide +kernel, rfl, by decide +kernel, by decide +kernel⟩
theorem sc_nth_label : FnScope ["nest", "kind", "label", "index", "spots", "counts"] ["nest", "kind", "label", "index"] (defScope s_nth_label) := ⟨rfl, rfl, rfl, by decide +kernel, rfl, by decide +kernel, by decide +kernel⟩
theorem sc__law_deck : FnScope ["_law_script", "_law_cells", "_law_cell"] ["_law_script"] (defScope s__law_deck) := ⟨rfl, rfl, rfl, by decide +kernel, rfl, by decide +kernel, by decide +kernel⟩
theorem sc__law_draw : FnScope ["_law_deck_here", "_law_many", "_law_cells", "_law_count", "_law_rests", "_law_seat", "_law_digits", "_law_mixed_here"] ["_law_deck_here", "_law_many"] (defScope s__law_draw) := ⟨rfl, rfl, rfl, by decide +kernel, rfl, by decide +kernel, by decide +kernel⟩
theorem sc__law_pick : FnScope ["_law_deck_here", "_law_items"] ["_law_deck_here", "_law_items"] (defScope s__law_pick) := ⟨rfl, rfl, rfl, by decide +kernel, rfl, by decide +kernel, by decide +kernel⟩
theorem sc__law_same : FnScope ["_law_found", "_law_due"] ["_law_found", "_law_due"] (defScope s__law_same) := ⟨rfl, rfl, rfl, by decide +kernel, rfl, by decide +kernel, by decide +kernel⟩
theorem sc__law_mixed : FnScope ["_law_deck_here", "_law_items", "_law_pool", "_law_found"] ["_law_deck_here", "_law_items"] (defScope s__law_mixed) := ⟨rfl, rfl, rfl, by decide +kernel, rfl, by decide +kernel, by decide +kernel⟩
theorem sc__law_tree : FnScope ["_law_deck_here", "_law_size", "_law_style", "_law_letters", "_law_left", "_law_label"] ["_law_deck_here", "_law_size", "_law_style", "_law_letters"] (defScope s__law_tree) := ⟨rfl, rfl, rfl, by decide +kernel, rfl, by decide +kernel, by decide +kernel⟩
theorem sc__law_drawn_tree : FnScope ["_law_deck_here", "_law_limit", "_law_letters"] ["_law_deck_here", "_law_limit"] (defScope s__law_drawn_tree) := ⟨rfl, rfl, rfl, by decide +kernel, rfl, by decide +kernel, by decide +kernel⟩
theorem sc__law_nodes : FnScope ["_law_tree_here", "_law_path", "_law_left", "_law_label", "_law_right"] ["_law_tree_here", "_law_path"] (defScope s__law_nodes) := ⟨rfl, rfl, rfl, by decide +kernel, rfl, by decide +kernel, by decide +kernel⟩
theorem sc__law_open : FnScope ["_law_tree_here", "_law_path", "_law_label", "_law_known", "_law_found", "_law_side"] ["_law_tree_here"] (defScope s__law_open) := ⟨rfl, rfl, rfl, by decide +kernel, rfl, by decide +kernel, by decide +kernel⟩
theorem sc__law_nest : FnScope ["_law_deck_here", "_law_entries", "_law_limit", "_law_few", "_law_found", "_law_seat", "_law_tree_here", "_law_links", "_law_path", "_law_index"] ["_law_deck_here", "_law_entries", "_law_limit", "_law_few"] (defScope s__law_nest) := ⟨rfl, rfl, rfl, by decide +kernel, rfl, by decide +kernel, by decide +kernel⟩
theorem sc__law_sizes : FnScope ["_law_nest_here", "_law_found", "_law_tree_here", "_law_links", "_law_path", "_law_index"] ["_law_nest_here"] (defScope s__law_sizes) := ⟨rfl, rfl, rfl, by decide +kernel, rfl, by decide +kernel, by decide +kernel⟩
theorem sc__law_small_nest : FnScope ["_law_deck_here", "_law_limit", "_law_nest_here"] ["_law_deck_here", "_law_limit"] (defScope s__law_small_nest) := ⟨rfl, rfl, rfl, by decide +kernel, rfl, by decide +kernel, by decide +kernel⟩
theorem sc__law_whole : FnScope ["_law_value", "_law_low", "_law_high"] ["_law_value", "_law_low", "_law_high"] (defScope s__law_whole) := ⟨rfl, rfl, rfl, by decide +kernel, rfl, by decide +kernel, by decide +kernel⟩
theorem sc__law_odd : FnScope ["_law_deck_here", "_law_some"] ["_law_deck_here"] (defScope s__law_odd) := ⟨rfl, rfl, rfl, by decide +kernel, rfl, by decide +kernel, by decide +kernel⟩
theorem sc__law_call : FnScope ["_law_door", "_law_nest_here", "_law_value", "_law_letter"] ["_law_door", "_law_nest_here", "_law_value", "_law_letter"] (defScope s__law_call) := ⟨rfl, rfl, rfl, by decide +kernel, rfl, by decide +kernel, by decide +kernel⟩
theorem sc__law_is_alone : FnScope ["_law_error"] ["_law_error"] (defScope s__law_is_alone) := ⟨rfl, rfl, rfl, by decide +kernel, rfl, by decide +kernel, by decide +kernel⟩
theorem sc__law_told : FnScope ["_law_door", "_law_nest_here", "_law_value", "_law_letter", "_law_error"] ["_law_door", "_law_nest_here", "_law_value", "_law_letter"] (defScope s__law_told) := ⟨rfl, rfl, rfl, by decide +kernel, rfl, by decide +kernel, by decide +kernel⟩
theorem sc_law : FnScope ["_law_script", "_law_deck_here", "_law_turn", "_law_nest_here", "_law_size", "_law_kept", "_law_letter", "_law_many", "_law_values", "_law_value", "_law_due", "_law_door"] ["_law_script"] (defScope s_law) := ⟨rfl, rfl, rfl, by decide +kernel, rfl, by decide +kernel, by decide +kernel⟩
theorem sc_NoPath___init__ : FnScope ["self", "value"] ["self", "value"] (defScope s_NoPath___init__) := ⟨rfl, rfl, rfl, by decide +kernel, rfl, by decide +kernel, by decide +kernel⟩
theorem sc_NoKind___init__ : FnScope ["self", "value"] ["self", "value"] (defScope s_NoKind___init__) := ⟨rfl, rfl, rfl, by decide +kernel, rfl, by decide +kernel, by decide +kernel⟩
theorem sc_NoPlace___init__ : FnScope ["self", "value"] ["self", "value"] (defScope s_NoPlace___init__) := ⟨rfl, rfl, rfl, by decide +kernel, rfl, by decide +kernel, by decide +kernel⟩
theorem sc_NoIndex___init__ : FnScope ["self", "value"] ["self", "value"] (defScope s_NoIndex___init__) := ⟨rfl, rfl, rfl, by decide +kernel, rfl, by decide +kernel, by decide +kernel⟩
theorem sc_NoVersion___init__ : FnScope ["self", "value"] ["self", "value"] (defScope s_NoVersion___init__) := ⟨rfl, rfl, rfl, by decide +kernel, rfl, by decide +kernel, by decide +kernel⟩
/-! ### sorted(set(text)) -/
section
open PySem.Froz
/-- the set of texts at a: its members are l; its table rises and can be walked -/
def SetX (P : Program) (w : World) (h : Heap) (a : Addr) (l : List Str) : Prop :=
  ∃ D : SD, h.get? a = some (sObj "set" D) ∧ TxOk P w D l ∧ Ris D.2.2.place.toList ∧ (w.params.followText "set-order" = true ∨ D.2.2.led = true)
theorem SetX.at {P : Program} {w : World} {h h' : Heap} {a : Addr} {l : List Str} (R : SetX P w h a l) (k : ∀ o, h.get? a = some o → h'.get? a = some o) : SetX P w h' a l := by
  obtain ⟨D, ho, r⟩ := R
  exact ⟨D, k _ ho, r⟩
theorem add_tab {w : World} {h : Int} {v : Value} {D : SD} (r : Ris D.2.2.place.toList) (l : w.params.followText "set-order" = true ∨ D.2.2.led = true) :
    Ris (addTx h v D).2.2.place.toList ∧ (w.params.followText "set-order" = true ∨ (addTx h v D).2.2.led = true) := by
  obtain ⟨es, ep, t⟩ := D
  have r1 := layNew_ris t es h v r
  have l1 := layNew_led t es h v
  unfold addTx
  dsimp only at l ⊢
  generalize layNew t es h v = L at r1 l1 ⊢
  obtain ⟨es1, t1, wd, gv⟩ := L
  dsimp only at r1 l1 ⊢
  generalize ht2 : (if t1.plain = true then ({ t1 with plain := false } : SetTable) else t1) = t2
  have r2 : Ris t2.place.toList ∧ t2.led = t1.led := by
    rw [← ht2]
    split
    · exact ⟨r1, rfl⟩
    · exact ⟨r1, rfl⟩
  unfold tailTx
  split
  · exact ⟨relayAll_ris t2 es1 _, l.imp id fun z => by show (relayAll t2 es1 _).2.1.led = true; rw [relayAll_led, r2.2, l1]; exact z⟩
  · exact ⟨r2.1, l.imp id fun z => by show t2.led = true; rw [r2.2, l1]; exact z⟩
section
variable {P : Program} {w : World} {A : Around} {E : Value → Shared → Prop} {s : Shared}
theorem setX_add {a : Addr} {l : List Str} {k : Str} {u : Tok} {Q : Bool → Shared → Prop} (R : SetX P w s.heap a l) (hb : l.length + 1 < scanBound)
    (h : ∀ (h' : Heap) (b : Bool), Heap.SameBut a s.heap h' → SetX P w h' a (if k ∈ l then l else k :: l) → Q b { s with heap := h' }) : wpAny (model P w) A (setAddHashed a (.str k u) (hashStr w k)) Q E s := by
  obtain ⟨D, ho, F, ris, led⟩ := R
  by_cases hk : k ∈ l
  · rw [if_pos hk] at h
    have h1 : ∀ b, Q b s := fun b => h s.heap b (Heap.SameBut.refl a s.heap) ⟨D, ho, F, ris, led⟩
    obtain ⟨es, ep, t⟩ := D
    have hd : (sObj "set" (es, ep, t)).data = .set es ep t := rfl
    have hf : t.fits es.size = true := F.fit
    have hel : ElemsOf (PySem.strKind P w) es.toList := F.el
    have hsz : es.size = l.length := F.sz
    obtain ⟨e, he, ke⟩ := (F.mem k).mp hk
    unfold setAddHashed setAddHashedIn
    refine wpAny_holding (wpAny_bind (wpAny_setState_of ho hd hf ?_))
    dsimp only
    rw [byScan_of (x := Value.str k u) rfl (by omega) hel]
    simp only [↓reduceIte]
    unfold setAddByScan
    refine wpAny_bind ?_
    refine wpAny_bind (wpAny_rule ?_)
    refine wpAny_bind (wpAny_setScan_of (knd := PySem.strKind P w) (k := k) (is_str k u) ho hd hf hel ?_)
    cases hfi : List.findIdx? (fun e => (PySem.strKind P w).is k e.2) es.toList with
    | none =>
      have c := List.findIdx?_eq_none_iff.mp hfi e he
      rw [ke] at c
      cases c
    | some j =>
      dsimp only
      exact wpAny_pure (wpAny_pure (h1 _))
  · rw [if_neg hk] at h
    obtain ⟨t1, t2⟩ := add_tab (w := w) (h := hashStr w k) (v := .str k u) ris led
    exact add_x ho F hk hb (h _ true (Heap.SameBut.update s.heap a _) ⟨_, get_upd _ ho rfl, add_ok u F, t1, t2⟩)
theorem setX_loop {I : Addr} {fp wr : List Addr} {G : Array GenState → Array GenState → Prop} {n : Nat} {Pv : Nat → Value → Prop} {St : Nat → Shared → Prop} {R : Result → Shared → Prop}
    (W : WalksS P w A.in1 I fp wr G n Pv St) (S : Addr) (hSf : S ∉ fp) (cs : List Nat) (hn : n = cs.length) (hb : cs.length + 1 < scanBound) (hval : ∀ i v, Pv i v → ∃ c t, cs[i]? = some c ∧ v = .str (ch c) t) :
    ∀ (k i : Nat) (s : Shared), n - i = k → i ≤ n → St i s → (∃ l, SetX P w s.heap S l ∧ l.length ≤ i ∧ l.Nodup ∧ ∀ x, x ∈ l ↔ x ∈ (cs.take i).map ch) →
      (∀ s' l, Moved (S :: wr) G s s' → SetX P w s'.heap S l → l.length ≤ n → l.Nodup → (∀ x, x ∈ l ↔ x ∈ cs.map ch) → R (.ok (.ret .none)) s') →
      codeAny (model P w) A (.builtin "set.update.loop" ⟨[.ref S, .ref I], []⟩) R s := by
  have hSw : S ∉ wr := fun h => hSf (W.sub _ h)
  have up : ∀ b ∈ wr, b ∈ S :: wr := fun b hb => List.mem_cons_of_mem _ hb
  intro k
  induction k with
  | zero =>
    intro i s hk' hi hst ⟨l, hS, hl, nd, mem⟩ hR
    have hin : i = n := by omega
    subst hin
    refine codeAny_builtin PyProof.Rows.F.entry_set_update_loop ?_
    rw [Around.under_plainId PyProof.Rows.F.plain_set_update_loop _]
    show wpAny _ A.in1 (pyNext (.ref I) >>= _) _ _ s
    refine wpAny_bind (W.done s _ _ hst fun s' hm => ?_)
    show wpAny _ A.in1 (ret Value.none) _ _ s'
    rw [List.take_of_length_le (by omega)] at mem
    exact wpAny_pure (hR s' l (hm.mono up) (hS.at fun o e => hm.heap S o hSw e) hl nd mem)
  | succ k ih =>
    intro i s hk' hi hst ⟨l, hS, hl, nd, mem⟩ hR
    have hlt : i < n := by omega
    refine codeAny_builtin PyProof.Rows.F.entry_set_update_loop ?_
    rw [Around.under_plainId PyProof.Rows.F.plain_set_update_loop _]
    show wpAny _ A.in1 (pyNext (.ref I) >>= _) _ _ s
    refine wpAny_bind (W.item i s _ _ hlt hst fun v s' hP hst' hm => ?_)
    obtain ⟨c, t, hc, rfl⟩ := hval i v hP
    have hS' : SetX P w s'.heap S l := hS.at fun o e => hm.heap S o hSw e
    show wpAny _ A.in1 (holding [Value.str (ch c) t] (setAdd S (.str (ch c) t)) >>= _) _ _ s'
    refine wpAny_bind (wpAny_holding ?_)
    unfold setAdd
    refine wpAny_holding ?_
    refine wpAny_bind ((PySem.strKind P w).pyHash (k := ch c) (is_str _ _) ?_)
    refine setX_add (s := { s' with toks := s'.toks + 1 }) hS' (by omega) fun h' b hsb hS2 => ?_
    have tk : (cs.take (i + 1)).map ch = (cs.take i).map ch ++ [ch c] := by
      rw [List.take_succ, hc, List.map_append]
      rfl
    refine wpAny_pure ⟨plainId_quiet PyProof.Rows.F.plain_set_update_loop _, ih (i + 1) _ (by omega) hlt (W.frame _ s' _ _ hst' (Nat.le_succ _) fun b hb o e => ?_) ⟨_, hS2, ?_, ?_, ?_⟩ fun s'' l2 hm'' hS'' hl'' nd'' mem'' => ?_⟩
    · rw [hsb.2 b (fun h : b = S => hSf (by rw [← h]; exact hb))]; exact e
    · split
      · omega
      · rw [List.length_cons]; omega
    · split
      · exact nd
      · exact List.nodup_cons.mpr ⟨by assumption, nd⟩
    · intro x
      rw [tk, List.mem_append, List.mem_singleton, ← mem x]
      split
      · rename_i hm
        constructor
        · exact .inl
        · rintro (h | rfl)
          · exact h
          · exact hm
      · rw [List.mem_cons]
        exact Or.comm
    · refine hR s'' l2 (Moved.trans W.gtrans ((hm.mono up).then_heap (Nat.le_succ _) fun b o hb e => ?_) hm'') hS'' hl'' nd'' mem''
      rw [hsb.2 b (fun h : b = S => hb (by rw [h]; exact List.mem_cons_self))]; exact e
end
end
/-! ### set(text), sorted of it -/
section
open PySem.Froz
abbrev freshS (w : World) : Obj := { cls := .type "set", dict := none, data := .set #[] 0 (.fresh 0 0 (!w.params.followText "set-order")) }
theorem setX_fresh {P : Program} {w : World} {h : Heap} {a : Addr} (ho : h.get? a = some (freshS w)) : SetX P w h a [] := by
  refine ⟨(#[], 0, .fresh 0 0 (!w.params.followText "set-order")), ho, .nil (by rfl), List.Pairwise.nil, ?_⟩
  show _ ∨ (!w.params.followText "set-order") = true
  cases w.params.followText "set-order"
  · exact .inr rfl
  · exact .inl rfl
section
variable {P : Program} {w : World} {A : Around} {E : Value → Shared → Prop} {s : Shared}
set_option maxHeartbeats 4000000 in
theorem call_setX {x : Str} {t : Tok} {Q : Value → Shared → Prop} (hh : A.handled = none) (hb : x.cps.size + 1 < scanBound)
    (h : ∀ (h' : Heap) (tk : Nat) (l : List Str), SetX P w h' s.heap.objs.size l → l.length ≤ x.cps.size → l.Nodup → (∀ y, y ∈ l ↔ y ∈ x.cps.toList.map ch) → (∀ b o, s.heap.get? b = some o → h'.get? b = some o) → Q (.ref s.heap.objs.size) { s with heap := h', toks := tk }) :
    wpAny (model P w) A (call (.type "set") [.str x t]) Q E s := by
  obtain ⟨c, tl, hmro⟩ := F.called_set.mro
  have hmade := F.called_set.made
  have hsub := F.called_set.sub
  refine wpAny_call (codeAny_of_tree ?_)
  show wpAny _ _ (callAny (.type "set") _) _ _ _
  refine wpAny_pure ⟨Code.quiet_builtin _ (by decide +kernel), codeAny_builtin F.entry_type_call ?_⟩
  rw [Around.under_plain (weight_type_call_type "set" [.str x t] []) rfl]
  have h1 := F.called_set.notType
  have h2 := F.called_set.canCreate
  have hct := F.typeCall_set_1 (.str x t)
  repeat (any_goals (first | assumption | wp_step))
  refine codeAny_mono (code_set_led1 (.str x t) (E := E) (Q₁ := fun obj s₁ => obj = .ref s.heap.objs.size ∧ s₁ = { s with heap := s.heap.push (freshS w) }) ⟨rfl, rfl⟩) fun r s₁ hr => ?_
  match r, hr with
  | .error e, hr => exact hr
  | .ok .next, hr => exact hr.elim
  | .ok .brk, hr => exact hr.elim
  | .ok .cont, hr => exact hr.elim
  | .ok (.ret obj), hr =>
    obtain ⟨rfl, rfl⟩ := hr
    have hS : (s.heap.push (freshS w)).get? s.heap.objs.size = some (freshS w) := Heap.get?_push_size _ rfl
    have hT : Shared.TypeIs { s with heap := s.heap.push (freshS w) } (.ref s.heap.objs.size) "set" := ⟨_, hS, rfl⟩
    have hli := F.called_set.init.lookup
    have hbi := F.called_set.init.bind (.ref s.heap.objs.size)
    repeat (any_goals (first | assumption | wp_step))
    refine codeAny_mono (codeAny_call_builtin (R := wants (fun r s₂ => r = .none ∧ ∃ h' tk l, s₂ = { s with heap := h', toks := tk } ∧ SetX P w h' s.heap.objs.size l ∧ l.length ≤ x.cps.size ∧ l.Nodup ∧ (∀ y, y ∈ l ↔ y ∈ x.cps.toList.map ch) ∧
        (∀ b o, s.heap.get? b = some o → h'.get? b = some o)) E) F.called_set.init.plain F.entry_set_init (check_set_init_1 hT ?_)) fun r₂ s₂ hr₂ => ?_
    · have hsls : isSubtype (.type "str") (.type "set") = pure false := by rw [isSubtype_type]; kernel_rfl
      have hslf : isSubtype (.type "str") (.type "frozenset") = pure false := by rw [isSubtype_type]; kernel_rfl
      have hne : (Value.type "str" == Value.type "dict") = false := by decide
      unfold Builtin.«set.__init__» noKeywords Builtin.Frozenset.updateFrom
      generalize hPI : pyIter = PI
      wp_walk
      subst hPI
      refine wpAny_pyIter_str fun o St W hst => ?_
      refine wpAny_bind (wpAny_runValue ?_)
      have hh3 : A.in1.in1.in1.handled = none := by simp [hh]
      have hSf : s.heap.objs.size ∉ [(s.heap.push (freshS w)).objs.size] := by
        rw [Heap.size_push]; simp only [List.mem_singleton]
        exact Nat.ne_of_lt (Nat.lt_succ_self _)
      have hval : ∀ (i : Nat) (v : Value), SignAt x i v → ∃ c t, x.cps.toList[i]? = some c ∧ v = .str (ch c) t := fun i v ⟨c, u, hc, e⟩ => ⟨c, u, by rw [Array.getElem?_toList]; exact hc, e⟩
      refine setX_loop ((W _ hh3).toS) s.heap.objs.size hSf x.cps.toList (Array.length_toList).symm (by rw [Array.length_toList]; exact hb) hval (x.cps.size - 0) 0 _ rfl (Nat.zero_le _) hst
        ⟨[], setX_fresh (Heap.get?_push_of_some _ hS), Nat.le_refl 0, List.nodup_nil, fun y => by simp⟩ fun s' l hm hS' hl nd mem => ?_
      obtain ⟨h', g2, d', tk', os'⟩ := s'
      have eg : g2 = s.gens := hm.gens
      have ed : d' = s.drawn := hm.drawn
      have eo : os' = s.os := hm.os
      subst eg; subst ed; subst eo
      show wpAny _ _ _ _ _ _
      refine wpAny_pure ?_
      show wpAny _ _ (ret Value.none) _ _ _
      refine wpAny_pure ⟨rfl, h', tk', l, rfl, hS', hl, nd, mem, fun b o e => ?_⟩
      have hb0 : b < s.heap.objs.size := Heap.lt_size e
      have hb1 : b ≠ s.heap.objs.size := Nat.ne_of_lt hb0
      have hb2 : b ≠ (s.heap.push (freshS w)).objs.size := by
        rw [Heap.size_push]; exact Nat.ne_of_lt (Nat.lt_succ_of_lt hb0)
      exact hm.heap b o (by simp only [List.mem_cons, List.mem_singleton, List.not_mem_nil, or_false, not_or]; exact ⟨hb1, hb2⟩) (Heap.get?_push_of_some _ (Heap.get?_push_of_some _ e))
    · match r₂, hr₂ with
      | .error e, hr₂ => exact hr₂
      | .ok .next, hr₂ => exact hr₂.elim
      | .ok .brk, hr₂ => exact hr₂.elim
      | .ok .cont, hr₂ => exact hr₂.elim
      | .ok (.ret r), hr₂ =>
        obtain ⟨rfl, h', tk, l, rfl, hS', hl, nd, mem, hk'⟩ := hr₂
        repeat (any_goals (first | assumption | wp_step))
        exact h _ _ _ hS' hl nd mem hk'
end
end
theorem perm_of_sub {α : Type} [DecidableEq α] : ∀ (l ss : List α), l.Nodup → (∀ x ∈ l, x ∈ ss) → ss.length ≤ l.length → ss.Perm l
  | [], ss, _, _, h => by
    have : ss = [] := List.eq_nil_of_length_eq_zero (Nat.le_zero.mp h)
    rw [this]
  | x :: l, ss, nd, sub, h => by
    obtain ⟨n1, n2⟩ := List.nodup_cons.mp nd
    have hx := sub x List.mem_cons_self
    have p := List.perm_cons_erase hx
    refine p.trans (List.Perm.cons x (perm_of_sub l (ss.erase x) n2 (fun y hy => ?_) ?_))
    · exact (List.mem_erase_of_ne (fun z : y = x => n1 (z ▸ hy))).mpr (sub y (List.mem_cons_of_mem _ hy))
    · rw [List.length_erase_of_mem hx]
      rw [List.length_cons] at h
      omega
section
open PySem.Froz
section
variable {P : Program} {w : World} {A : Around} {E : Value → Shared → Prop} {s : Shared}
theorem sorted_setX {a : Addr} {l : List Str} {Q : Value → Shared → Prop} (R : SetX P w s.heap a l) (nd : l.Nodup) (hh : A.handled = none) (h64 : l.length < 64)
    (hQ : ∀ s' p (out : Array Value) (c : Nat) (ys : List Str), (∀ b o, s.heap.get? b = some o → s'.heap.get? b = some o) → s'.gens = s.gens → s'.os = s.os → s.heap.objs.size ≤ p →
      s'.heap.get? p = some (seqObj "list" out c) → StrsAre out.toList ys → ys.Perm l → sortedS ys = true → Q (.ref p) s') :
    wpAny (model P w) A (call (.builtin "sorted") [.ref a]) Q E s := by
  obtain ⟨⟨es, ep, t⟩, ho, F, ris, led⟩ := R
  have hsz : es.size = l.length := F.sz
  have hsb : es.size < scanBound := by unfold scanBound; omega
  refine Calls.call_function_entry kind_sorted plain_sorted entry_sorted (args_sorted1 _) ?_
  unfold Builtin.«sorted»
  refine wpAny_bind (m := checkCount "sorted" 1 1 _) (wpAny_pure ?_)
  refine wpAny_bind (collect_set (A := A.in1) hh ⟨_, ho, rfl, rfl⟩ F.fit hsb ris led fun s1 vs k1 hz g1 o1 pm => ?_)
  have str : ∀ v ∈ vs, ∃ x t, v = Value.str x t := fun v hv => by
    obtain ⟨e, he, rfl⟩ := List.mem_map.mp (pm.mem_iff.mp hv)
    obtain ⟨⟨k, hk, _⟩, _⟩ := F.el e he
    have hk : Value.isStrOf k e.2 = true := hk
    cases h : e.2 <;> rw [h] at hk <;> first | exact ⟨_, _, rfl⟩ | exact absurd hk (by simp [Value.isStrOf])
  have hS : StrsAre vs (vs.map strOf) := strsAre_map vs str
  have hvl : vs.length = l.length := by rw [pm.length_eq, List.length_map, Array.length_toList]; exact hsz
  have pl : (vs.map strOf).Perm l := by
    refine perm_of_sub l _ nd (fun k hk => ?_) (by rw [List.length_map, hvl]; exact Nat.le_refl _)
    obtain ⟨e, he, q⟩ := (F.mem k).mp hk
    have q : Value.isStrOf k e.2 = true := q
    have hm : e.2 ∈ vs := pm.mem_iff.mpr (List.mem_map.mpr ⟨e, he, rfl⟩)
    refine List.mem_map.mpr ⟨e.2, hm, ?_⟩
    obtain ⟨x, u, hx⟩ := str _ hm
    rw [hx] at q ⊢
    have : x = k := by simpa [Value.isStrOf] using q
    exact this
  refine wpAny_bind (wpAny_newList ?_ (by rw [hvl, sizeLine_eq]; omega))
  have hoL : (s1.heap.push (seqObj "list" vs.toArray 0)).get? s1.heap.objs.size = some (seqObj "list" vs.toArray 0) := Heap.get?_push_size _ rfl
  refine wpAny_bind (wpAny_holding (wpAny_call_entry slot_list_sort ⟨_, hoL, rfl⟩ entry_list_sort (list_sort_treeK strKind_oneLt hoL hS.keysOf (fun v₁ v₂ rest e => keyKind_strs (by rw [← e]; exact hS)) (by rw [hvl]; exact h64) fun st' a1 a2 => ⟨_, rfl, ?_⟩) (args_list_sort _)))
  obtain ⟨ys, b1, b2, b3⟩ := sorted_out_str hS a1 a2
  generalize (arrOf st').map (·.2) = out at b1 ⊢
  obtain ⟨c, hc⟩ := sortedHeap_at (vs := vs) (out := out) hoL
  refine wpAny_pure ⟨_, rfl, hQ _ s1.heap.objs.size out c ys (fun b u e => ?_) g1 o1 hz hc b1 (b2.trans pl) b3⟩
  have q := k1 b u e
  have hlt := Heap.lt_size q
  show (sortedHeap (s1.heap.push (seqObj "list" vs.toArray 0)) s1.heap.objs.size vs out).get? b = some u
  rw [sortedHeap_old (Nat.ne_of_lt hlt) (by rw [size_push']; exact Nat.lt_succ_of_lt hlt)]
  exact Heap.get?_push_of_some _ q
end
def SetXO (P : Program) (w : World) (a : Addr) (l : List Str) : HO := .ext fun h => SetX P w h a l
section
variable {X : Cx}
theorem setXO_new {w : World} {P : Program} {H : Hp} {h : Heap} {a : Addr} {l : List Str} (R : SetX P w h a l) : ObjOk P w H h a (SetXO P w a l) := by
  have ⟨D, ho, _⟩ := R
  exact ⟨R, ⟨_, ho⟩, fun h1 h2 p k => SetX.at p k⟩
def rSetX (P : Program) (w : World) : List V → Hp → VK → Prop := fun xs H Q => ∃ cs : List Nat, xs = [.str (tx cs)] ∧ cs.length < 64 ∧
  ∀ (a : Addr) (l : List Str), H a = none → l.Nodup → (∀ y, y ∈ l ↔ y ∈ cs.map ch) → l.length < 64 → Q (.ref a) (upd H a (SetXO P w a l))
theorem cr_setX (hc : X.calm = true) : CallR X (.type "set") (rSetX X.prog X.w) := by
  intro pins s σ H xs us Q I r h
  obtain ⟨cs, rfl, hz, q⟩ := h
  obtain ⟨u, rfl, t, rfl⟩ := vals1 r
  have hz' : (tx cs).cps.size = cs.length := rfl
  refine call_setX (P := X.prog) (w := X.w) (I.ok.hd hc) (by rw [hz']; unfold scanBound; omega) fun h' tk l R hl nd mem k => ?_
  exact ⟨.ref s.heap.objs.size, upd H s.heap.objs.size (SetXO X.prog X.w s.heap.objs.size l), I.laid (t' := tk) k (Nat.le_refl _) (setXO_new R), rfl, q _ l (I.hok.fresh (Nat.le_refl _)) nd mem (by omega)⟩
def rSortX (P : Program) (w : World) : List V → Hp → VK → Prop := fun vs H Q => ∃ (a : Addr) (l : List Str), vs = [V.ref a] ∧ H a = some (SetXO P w a l) ∧ l.Nodup ∧ l.length < 64 ∧
  ∀ (ys : List Str) (p : Addr), ys.Perm l → sortedS ys = true → H p = none → Q (.ref p) (upd H p (.lst (ys.map V.str)))
theorem cr_sortX (hc : X.calm = true) : CallR X (.builtin "sorted") (rSortX X.prog X.w) := by
  intro pins s σ H vs us Q I r h
  obtain ⟨a, l, rfl, ha, nd, h64, q⟩ := h
  have R : SetX X.prog X.w s.heap a l := (I.hok a _ ha).1
  rw [Vals.ref1 r]
  refine sorted_setX R nd (I.ok.hd hc) h64 fun s' p out c ys k g o hp hg hi hs hm => ?_
  have hlen : (ys.map V.str).length ≤ sizeLine := by rw [List.length_map, hs.length_eq, sizeLine_eq]; omega
  have hn : H p = none := I.hok.fresh hp
  have J : Inv X pins σ (upd H p (.lst (ys.map V.str))) { s with heap := s'.heap, gens := s'.gens, drawn := s'.drawn, toks := s'.toks } :=
    I.call (ch := []) (Un.laid k hp hn) (I.hok.laid k hp ⟨hlen, out.toList, c, vals_of_strs hi, hg⟩) (by rw [g]; exact I.bare) (fun _ z => nomatch z)
  have e : s' = { s with heap := s'.heap, gens := s'.gens, drawn := s'.drawn, toks := s'.toks } := by
    cases s'
    cases s
    cases o
    rfl
  rw [e]
  exact ⟨.ref p, _, J, rfl, q ys p hs hm hn⟩
end
end
/-! ### [*text, ..] -/
section
variable {X : Cx} {e : Expr} {es : List Expr} {te : TE} {t : TA} {p : Pos}
theorem pa_starS (hc : X.calm = true) (he : PE X e te) (hr : PA X es t) (hs : starEach (.Starred e p :: es) X.env = (true, eval e X.env) :: starEach es X.env := by rfl) :
    PA X (.Starred e p :: es) (fun σ H Q => te σ H fun x H1 => ∃ z : Str, x = .str z ∧ z.cps.size ≤ 1000 ∧ t σ H1 fun ys H2 => Q ((z.cps.toList.map fun c => V.str ⟨#[c]⟩) ++ ys) H2) := by
  refine ⟨fun pos pins s σ H Q I h => ?_⟩
  refine PySem.W.items_star (thn (he.run pins s σ H _ I h) fun v s1 ⟨y, H1, I1, ry, z, ey, hz, q⟩ => ?_) hs
  subst ey
  obtain ⟨tk, rfl⟩ := ry
  have step : wpAny (model X.prog X.w) X.A (collect (.str z tk)) (fun us s2 => wpAny (model X.prog X.w) X.A (spliced (backTo pos (starEach es X.env))) (fun vs s3 => ∃ xs H3, Inv X pins σ H3 s3 ∧ Vals xs (us ++ vs) ∧ Q xs H3) X.xe s2) X.xe s1 := by
    refine wpAny_collect_str (I1.ok.hd hc) z tk (fun s' acc hk hg hd ho hacc => ?_) (small hz)
    have e0 : s' = { s1 with heap := s'.heap, toks := s'.toks } := by
      cases s'
      cases s1
      simp_all
    have hv : Vals (z.cps.toList.map fun c => V.str ⟨#[c]⟩) acc.toList := vals_signs _ _ (by rw [Array.length_toList, Array.length_toList]; exact hacc.1) fun j v e => by
      obtain ⟨c, u, h1, h2⟩ := hacc.2 j v (by rw [← Array.getElem?_toList]; exact e)
      exact ⟨c, u, by rw [Array.getElem?_toList]; exact h1, h2⟩
    have I2 : Inv X pins σ H1 s' := by
      rw [e0]
      exact I1.kept hk
    exact thn (hr.run pos pins s' σ H1 _ I2 q) fun ws s3 ⟨vs, H3, I3, r3, q3⟩ => ⟨_, H3, I3, hv.append r3, q3⟩
  unfold PySem.W.StarOf notIterableAtAll
  exact wpAny_bind (wpAny_specialOf (typeIs_str s1 z tk) PySem.F.slot_str_iter.lookup (wpAny_pure ⟨rfl, step⟩))
end
/-! ### xs != [], xs == [] -/
section
variable {X : Cx}
theorem op_neL (hu : X.A.units < cLine) : OpR X (compareOp .NotEq) (fun x y H Q => ∃ a b xs, x = .ref a ∧ y = .ref b ∧ SqL X.K H a xs ∧ SqL X.K H b [] ∧ Q (.bl (!xs.isEmpty)) H) := by
  intro pins s σ H x y v u Q I rx ry h
  obtain ⟨a, b, xs, rfl, rfl, hx, hy, q⟩ := h
  cases rx
  cases ry
  obtain ⟨its, r1, t1, _⟩ := I.list hx
  obtain ⟨its2, r2, t2, _⟩ := I.list hy
  cases r2
  cases r1 with
  | nil =>
    have rc := SeqAt.RcNeAt.lists (A := X.A) (s := s) (items := ([] : List Value).toArray) (items2 := ([] : List Value).toArray) (e := fun _ => true) t1.isList t2.isList rfl hu (fun j h1 _ => absurd h1 (by simp))
    exact rc X.prog X.w X.xe _ ⟨.bl _, H, I, rfl, q⟩
  | cons _ _ =>
    have rc := SeqAt.RcNeAt.lists_lengths (A := X.A) (s := s) t1.isList t2.isList (by simp) hu
    exact rc X.prog X.w X.xe _ ⟨.bl _, H, I, rfl, q⟩
theorem cmpOf_ltS {prog : Program} {w : World} {A : Around} (x y : Str) (t u : Tok) :
    CmpOf prog w A .Lt (fun i v => (#[Value.str x t, Value.str y u])[i]? = some v) (fun i j => decide (([x, y].getD i x).cps.toList < ([x, y].getD j x).cps.toList)) := fun i j vi vj s Q E hi hj h => by
  have one : ∀ (i : Nat) (v : Value), (#[Value.str x t, Value.str y u])[i]? = some v → ∃ tk, v = .str ([x, y].getD i x) tk := fun i v e => by
    match i with
    | 0 => exact ⟨t, by simpa using e.symm⟩
    | 1 => exact ⟨u, by simpa using e.symm⟩
    | n + 2 => simp at e
  obtain ⟨t1, rfl⟩ := one i vi hi
  obtain ⟨t2, rfl⟩ := one j vj hj
  exact lt_str h
theorem cmpOf_gtS {prog : Program} {w : World} {A : Around} (x y : Str) (t u : Tok) :
    CmpOf prog w A .Gt (fun i v => (#[Value.str x t, Value.str y u])[i]? = some v) (fun i j => decide (([x, y].getD j x).cps.toList < ([x, y].getD i x).cps.toList)) := fun i j vi vj s Q E hi hj h => by
  have one : ∀ (i : Nat) (v : Value), (#[Value.str x t, Value.str y u])[i]? = some v → ∃ tk, v = .str ([x, y].getD i x) tk := fun i v e => by
    match i with
    | 0 => exact ⟨t, by simpa using e.symm⟩
    | 1 => exact ⟨u, by simpa using e.symm⟩
    | n + 2 => simp at e
  obtain ⟨t1, rfl⟩ := one i vi hi
  obtain ⟨t2, rfl⟩ := one j vj hj
  exact PySem.P.gt_str h
theorem argBest1 (bt : Nat → Nat → Bool) : argBest bt 1 = if bt 1 0 = true then 1 else 0 := rfl
theorem max_two_str {prog : Program} {w : World} {A : Around} {E : Value → Shared → Prop} {s : Shared} {Q : Value → Shared → Prop} {x y : Str} {t u : Tok} (hh : A.handled = none)
    (h : ∀ h' tk, (∀ c o, s.heap.get? c = some o → h'.get? c = some o) → Q (if x.cps.toList < y.cps.toList then .str y u else .str x t) { s with heap := h', toks := tk }) :
    wpAny (model prog w) A (call (.builtin "max") [.str x t, .str y u]) Q E s := by
  have hT : (s.heap.push { cls := .type "tuple", data := .seq #[.str x t, .str y u] }).IsTuple s.heap.objs.size #[.str x t, .str y u] := ⟨_, Heap.get?_push_size _ rfl, rfl, 0, rfl⟩
  refine call_max_two (wpAny_pyIter_tuple hT ?_)
  have hsz : (s.heap.push { cls := .type "tuple", data := .seq #[.str x t, .str y u] }).objs.size = s.heap.objs.size + 1 := Heap.size_push ..
  refine ⟨_, [_, s.heap.objs.size], [_], _, _, _, _, rfl, Walks.tuple (A := A.in1) hh _ s.heap.objs.size (by rw [hsz]; exact Nat.ne_of_lt (Nat.lt_succ_self _)) #[.str x t, .str y u],
    ⟨⟨_, Heap.get?_push_size _ rfl, rfl, rfl⟩, hT.push _⟩, fun c hc => ?_, by simp, cmpOf_gtS x y t u, fun v h' tk hP hk => ?_⟩
  · show c < ((s.heap.push _).push _).objs.size
    rw [Heap.size_push, hsz]
    rcases List.mem_cons.mp hc with rfl | hc
    · rw [hsz]; exact Nat.lt_succ_self _
    · rcases List.mem_cons.mp hc with rfl | hc
      · exact Nat.lt_succ_of_lt (Nat.lt_succ_self _)
      · cases hc
  · have hold : ∀ c o, s.heap.get? c = some o → h'.get? c = some o := fun c o e => by
      refine hk c o (fun hm => ?_) (Heap.get?_push_of_some _ (Heap.get?_push_of_some _ e))
      rcases List.mem_cons.mp hm with e1 | hm
      · have := Heap.lt_size e; rw [e1, hsz] at this; exact Nat.lt_irrefl _ (Nat.lt_of_succ_lt this)
      · cases hm
    have := h h' tk hold
    have hv : v = if x.cps.toList < y.cps.toList then .str y u else .str x t := by
      rw [show #[Value.str x t, Value.str y u].size - 1 = 1 from rfl, argBest1] at hP
      replace hP : #[Value.str x t, Value.str y u][if decide (x.cps.toList < y.cps.toList) = true then 1 else 0]? = some v := hP
      by_cases hc : x.cps.toList < y.cps.toList
      · rw [if_pos (decide_eq_true hc)] at hP
        rw [if_pos hc]
        exact (Option.some.inj hP).symm
      · rw [if_neg (fun z => hc (of_decide_eq_true z))] at hP
        rw [if_neg hc]
        exact (Option.some.inj hP).symm
    rw [hv]; exact this
theorem min_two_str {prog : Program} {w : World} {A : Around} {E : Value → Shared → Prop} {s : Shared} {Q : Value → Shared → Prop} {x y : Str} {t u : Tok} (hh : A.handled = none)
    (h : ∀ h' tk, (∀ c o, s.heap.get? c = some o → h'.get? c = some o) → Q (if y.cps.toList < x.cps.toList then .str y u else .str x t) { s with heap := h', toks := tk }) :
    wpAny (model prog w) A (call (.builtin "min") [.str x t, .str y u]) Q E s := by
  have hT : (s.heap.push { cls := .type "tuple", data := .seq #[.str x t, .str y u] }).IsTuple s.heap.objs.size #[.str x t, .str y u] := ⟨_, Heap.get?_push_size _ rfl, rfl, 0, rfl⟩
  refine call_min_two (wpAny_pyIter_tuple hT ?_)
  have hsz : (s.heap.push { cls := .type "tuple", data := .seq #[.str x t, .str y u] }).objs.size = s.heap.objs.size + 1 := Heap.size_push ..
  refine ⟨_, [_, s.heap.objs.size], [_], _, _, _, _, rfl, Walks.tuple (A := A.in1) hh _ s.heap.objs.size (by rw [hsz]; exact Nat.ne_of_lt (Nat.lt_succ_self _)) #[.str x t, .str y u],
    ⟨⟨_, Heap.get?_push_size _ rfl, rfl, rfl⟩, hT.push _⟩, fun c hc => ?_, by simp, cmpOf_ltS x y t u, fun v h' tk hP hk => ?_⟩
  · show c < ((s.heap.push _).push _).objs.size
    rw [Heap.size_push, hsz]
    rcases List.mem_cons.mp hc with rfl | hc
    · rw [hsz]; exact Nat.lt_succ_self _
    · rcases List.mem_cons.mp hc with rfl | hc
      · exact Nat.lt_succ_of_lt (Nat.lt_succ_self _)
      · cases hc
  · have hold : ∀ c o, s.heap.get? c = some o → h'.get? c = some o := fun c o e => by
      refine hk c o (fun hm => ?_) (Heap.get?_push_of_some _ (Heap.get?_push_of_some _ e))
      rcases List.mem_cons.mp hm with e1 | hm
      · have := Heap.lt_size e; rw [e1, hsz] at this; exact Nat.lt_irrefl _ (Nat.lt_of_succ_lt this)
      · cases hm
    have := h h' tk hold
    have hv : v = if y.cps.toList < x.cps.toList then .str y u else .str x t := by
      rw [show #[Value.str x t, Value.str y u].size - 1 = 1 from rfl, argBest1] at hP
      replace hP : #[Value.str x t, Value.str y u][if decide (y.cps.toList < x.cps.toList) = true then 1 else 0]? = some v := hP
      by_cases hc : y.cps.toList < x.cps.toList
      · rw [if_pos (decide_eq_true hc)] at hP
        rw [if_pos hc]
        exact (Option.some.inj hP).symm
      · rw [if_neg (fun z => hc (of_decide_eq_true z))] at hP
        rw [if_neg hc]
        exact (Option.some.inj hP).symm
    rw [hv]; exact this
theorem call_max2S (hc : X.calm = true) : CallR X (.builtin "max") (fun xs H Q => ∃ a b : Nat, xs = [.str (ch a), .str (ch b)] ∧ Q (.str (ch (max a b))) H) := by
  intro pins s σ H xs us Q I r h
  obtain ⟨a, b, rfl, q⟩ := h
  obtain ⟨u, w', rfl, ⟨t, rfl⟩, ⟨t', rfl⟩⟩ := vals2 r
  refine max_two_str (I.ok.hd hc) fun h' tk k => ⟨_, H, I.kept k, ?_, q⟩
  have e : ((ch a).cps.toList < (ch b).cps.toList) ↔ a < b := by
    have := ch_lt a b
    simpa using this
  by_cases hj : a < b
  · rw [if_pos (e.mpr hj), Nat.max_eq_right (Nat.le_of_lt hj)]; exact ⟨_, rfl⟩
  · rw [if_neg (fun z => hj (e.mp z)), Nat.max_eq_left (by omega)]; exact ⟨_, rfl⟩
theorem call_min2S (hc : X.calm = true) : CallR X (.builtin "min") (fun xs H Q => ∃ a b : Nat, xs = [.str (ch a), .str (ch b)] ∧ Q (.str (ch (min a b))) H) := by
  intro pins s σ H xs us Q I r h
  obtain ⟨a, b, rfl, q⟩ := h
  obtain ⟨u, w', rfl, ⟨t, rfl⟩, ⟨t', rfl⟩⟩ := vals2 r
  refine min_two_str (I.ok.hd hc) fun h' tk k => ⟨_, H, I.kept k, ?_, q⟩
  have e : ((ch b).cps.toList < (ch a).cps.toList) ↔ b < a := by
    have := ch_lt b a
    simpa using this
  by_cases hj : b < a
  · rw [if_pos (e.mpr hj), Nat.min_eq_right (Nat.le_of_lt hj)]; exact ⟨_, rfl⟩
  · rw [if_neg (fun z => hj (e.mp z)), Nat.min_eq_left (by omega)]; exact ⟨_, rfl⟩
end
/-! ### the deck -/
structure Deck where
  dk : Addr
  ca : Addr
  ra : Addr
structure DeckOk (H : Hp) (D : Deck) (n : Nat) : Prop where
  ex : ∃ cells rests : List Int, H D.dk = some (.lst [.ref D.ca, .int (n : Int), .ref D.ra]) ∧ H D.ca = some (.lst (cells.map V.int)) ∧ H D.ra = some (.lst (rests.map V.int)) ∧ 0 < cells.length ∧ rests.length = cells.length ∧ cells.length ≤ 60
  dc : D.dk ≠ D.ca
  dr : D.dk ≠ D.ra
  cr : D.ca ≠ D.ra
/-- all stands still but the deck's list and its rests -/
def SameD (D : Deck) (H H' : Hp) : Prop := ∀ b o, b ≠ D.dk → b ≠ D.ra → H b = some o → H' b = some o
theorem SameD.refl (D : Deck) (H : Hp) : SameD D H H := fun _ _ _ _ h => h
theorem SameD.trans {D : Deck} {H H1 H2 : Hp} (a : SameD D H H1) (b : SameD D H1 H2) : SameD D H H2 := fun c o h1 h2 h => b c o h1 h2 (a c o h1 h2 h)
theorem SameD.of {D : Deck} {H H' : Hp} (h : Same H H') : SameD D H H' := fun b o _ _ e => h b o e
theorem DeckOk.lists {H : Hp} {D : Deck} {n : Nat} (d : DeckOk H D n) : (∃ xs, H D.dk = some (.lst xs)) ∧ (∃ xs, H D.ra = some (.lst xs)) := by
  obtain ⟨c, r, h1, _, h3, _⟩ := d.ex
  exact ⟨⟨_, h1⟩, ⟨_, h3⟩⟩
theorem SameD.keepT {D : Deck} {H H' : Hp} {n : Nat} (h : SameD D H H') (d : DeckOk H D n) : KeepT H H' := fun b xs e => by
  obtain ⟨⟨x1, h1⟩, ⟨x2, h2⟩⟩ := d.lists
  exact h b _ (ne_of e h1 (by intro z; cases z)) (ne_of e h2 (by intro z; cases z)) e
theorem SameD.free {D : Deck} {H H' : Hp} {n : Nat} (h : SameD D H H') (d : DeckOk H' D n) {p : Addr} (e : H' p = none) : H p = none := by
  obtain ⟨⟨x1, h1⟩, ⟨x2, h2⟩⟩ := d.lists
  have n1 : p ≠ D.dk := fun z => by rw [z, h1] at e; cases e
  have n2 : p ≠ D.ra := fun z => by rw [z, h2] at e; cases e
  cases q : H p with
  | none => rfl
  | some o =>
    rw [h p o n1 n2 q] at e
    cases e
theorem DeckOk.same {H H' : Hp} {D : Deck} {n : Nat} (d : DeckOk H D n) (h : Same H H') : DeckOk H' D n := by
  obtain ⟨c, r, h1, h2, h3, h4⟩ := d.ex
  exact ⟨⟨c, r, h _ _ h1, h _ _ h2, h _ _ h3, h4⟩, d.dc, d.dr, d.cr⟩
structure Off (D : Deck) (p : Addr) : Prop where
  dk : p ≠ D.dk
  ca : p ≠ D.ca
  ra : p ≠ D.ra
theorem DeckOk.new {H : Hp} {D : Deck} {n : Nat} (d : DeckOk H D n) {p : Addr} (e : H p = none) : Off D p := by
  obtain ⟨c, r, h1, h2, h3, _⟩ := d.ex
  refine ⟨fun z => ?_, fun z => ?_, fun z => ?_⟩
  · rw [z, h1] at e
    cases e
  · rw [z, h2] at e
    cases e
  · rw [z, h3] at e
    cases e
theorem DeckOk.put {H : Hp} {D : Deck} {n : Nat} (d : DeckOk H D n) {p : Addr} (f : Off D p) (o : HO) : DeckOk (upd H p o) D n := by
  obtain ⟨c, r, h1, h2, h3, h4⟩ := d.ex
  exact ⟨⟨c, r, by rw [upd_ne f.dk.symm]; exact h1, by rw [upd_ne f.ca.symm]; exact h2, by rw [upd_ne f.ra.symm]; exact h3, h4⟩, d.dc, d.dr, d.cr⟩
theorem SameD.put {D : Deck} {H H' : Hp} {p : Addr} (s : SameD D H H') (e : H p = none) (o : HO) : SameD D H (upd H' p o) := fun b u h1 h2 h => by
  rw [upd_ne (ne_of_none h e)]
  exact s b u h1 h2 h
theorem SameD.at {D : Deck} {H H' : Hp} {p : Addr} {o : HO} (s : SameD D H H') (f : Off D p) (e : H p = some o) : H' p = some o := s p o f.dk f.ra e
theorem modB (z p : Int) (h0 : 0 < p) : 0 ≤ z % p ∧ z % p < p := ⟨Int.emod_nonneg z (by omega), Int.emod_lt_of_pos z h0⟩
def spDraw : Sp := fun vs H Q _ => ∃ (D : Deck) (n : Nat) (m : Int), vs = [.ref D.dk, .int m] ∧ DeckOk H D n ∧ n ≤ 1000000 ∧ 0 < m ∧ m < 10000000000000000000000000000000 ∧ ∀ (i : Int) (H' : Hp), 0 ≤ i → i < m → DeckOk H' D (n + 1) → SameD D H H' → Q (.int i) H'
theorem sq_le {n : Nat} (h : n ≤ 1000000) : 75025 * (n : Int) * (n : Int) ≤ 75025000000000000 ∧ 0 ≤ 75025 * (n : Int) * (n : Int) := by
  have h1 : (n : Int) * (n : Int) ≤ 1000000 * 1000000 := Int.mul_le_mul (by omega) (by omega) (by omega) (by omega)
  have h0 : 0 ≤ (n : Int) * (n : Int) := Int.mul_nonneg (by omega) (by omega)
  rw [Int.mul_assoc]
  omega
section
variable {P : Program} {w : World} {K : PySem.W.Frag} {mg : Str → Option Value} {base : Heap} {f : Addr} {fd : FuncData}
theorem ok_draw {k : Nat} (F : Fun K "_law_draw" "_law_draw" s__law_draw f fd) (M : Mgs mg) : FnOk P w K mg base CX0 (k + 1) f fd ["_law_deck_here", "_law_many"] spDraw := by
  refine F.ok sc__law_draw (fun vs H Q E h => ?_) (fun cdv A outer s H vs Q E hr h => ?_)
  · obtain ⟨D, n, m, rfl, _⟩ := h
    rfl
  obtain ⟨D, n, m, rfl, d, hn, m0, m1, q⟩ := h
  obtain ⟨cells, rests, e1, e2, e3, c0, cr, c1⟩ := d.ex
  refine ⟨_, (pss_cons (ps_asg (pv 0) (pg_unl rfl (pgs_cons (pg_name (i := 2) sc__law_draw.nd rfl (.inl rfl)) (pgs_cons (pg_name (i := 3) sc__law_draw.nd rfl (.inl rfl)) (pgs_cons (pg_name (i := 4) sc__law_draw.nd rfl (.inl rfl)) pgs_nil)))))
    (pss_cons (ps_set (i := 5) sc__law_draw.nd rfl (.inl rfl) (pe_op op_mod (pv 3) (pe_callB call_len_seq rfl M.len PySem.boot_len (pa_cons (pv 2) pa_nil))))
    (pss_cons (ps_asg (pe_op op_add (pv 3) pe_int) (pg_sub (pv 0) pe_int set_list))
    (pss_cons (ps_if (pt_cmpR op_gt (pe_ix ix_list (pv 4) (pv 5) (fun _ _ => rfl)) pe_int (nomark _))
      (pss_cons (ps_set (i := 6) sc__law_draw.nd rfl (.inl rfl) (pe_ix ix_list (pv 4) (pv 5) (fun _ _ => rfl)))
    (pss_cons (ps_asg (pe_op op_fdivW (pv 6) (pv 1)) (pg_sub (pv 4) (pv 5) set_list))
    (pss_one (ps_ret (pe_op op_mod (pv 6) (pv 1)))))) pss_nil)
    (pss_cons (ps_set (i := 7) sc__law_draw.nd rfl (.inl rfl) (pe_op op_add (pe_op op_mod (pe_ix ix_list (pv 2) (pv 5) (fun _ _ => rfl)) pe_int) (pe_op op_mul (pe_op op_mul pe_int (pv 3)) (pv 3))))
    (pss_cons (ps_set (i := 7) sc__law_draw.nd rfl (.inl rfl) (pe_op op_mod (pe_op op_pow (pe_op op_add (pe_op op_add (pv 7) (pe_op op_mul pe_int (pv 3))) pe_int) pe_int) pe_int))
    (pss_cons (ps_set (i := 7) sc__law_draw.nd rfl (.inl rfl) (pe_op op_mod (pe_op op_pow (pe_op op_add (pv 7) (pe_op op_mul pe_int (pv 3))) pe_int) pe_int))
    (pss_one (ps_ret (pe_op op_mod (pe_op op_fdiv (pv 7) pe_int) (pv 1))))))))))), ?_⟩
  refine ⟨_, rfl, D.dk, _, rfl, SqL.of e1, rfl, _, _, rfl, _, _, rfl, _, _, rfl, rfl, ?_⟩
  have cl : ((cells.map V.int).length : Int) = (cells.length : Int) := by rw [List.length_map]
  refine ⟨_, rfl, _, rfl, D.ca, _, rfl, .inl (SqL.of e2), _, _, rfl, rfl, (by show (0 : Int) < ((cells.map V.int).length : Int); rw [cl]; omega), ?_⟩
  have i0 : 0 ≤ (n : Int) % ((cells.map V.int).length : Int) := Int.emod_nonneg _ (by rw [cl]; omega)
  have i1 : (n : Int) % ((cells.map V.int).length : Int) < (cells.length : Int) := by
    rw [cl]
    exact Int.emod_lt_of_pos _ (by omega)
  refine ⟨_, rfl, _, _, rfl, rfl, _, rfl, D.dk, _, _, 1, rfl, rfl, e1, rfl, ?_⟩
  have x2 : (upd H D.dk (.lst [.ref D.ca, .int ((n : Int) + 1), .ref D.ra])) D.ca = some (.lst (cells.map V.int)) := by rw [upd_ne d.dc.symm]; exact e2
  have x3 : (upd H D.dk (.lst [.ref D.ca, .int ((n : Int) + 1), .ref D.ra])) D.ra = some (.lst (rests.map V.int)) := by rw [upd_ne d.dr.symm]; exact e3
  have x1 : (upd H D.dk (.lst [.ref D.ca, .int ((n : Int) + 1), .ref D.ra])) D.dk = some (.lst [.ref D.ca, .int ((n + 1 : Nat) : Int), .ref D.ra]) := upd_same
  have sd : SameD D H (upd H D.dk (.lst [.ref D.ca, .int ((n : Int) + 1), .ref D.ra])) := fun b o h1 _ e => by rw [upd_ne h1]; exact e
  have rl : ((rests.map V.int).length : Int) = (cells.length : Int) := by rw [List.length_map, cr]
  have l1 : ((n : Int) % ((cells.map V.int).length : Int)).toNat < rests.length := by omega
  have l2 : ((n : Int) % ((cells.map V.int).length : Int)).toNat < cells.length := by omega
  have a1 := at_map (f := V.int) i0 (List.getElem?_eq_getElem l1)
  have a2 := at_map (f := V.int) i0 (List.getElem?_eq_getElem l2)
  refine ⟨_, rfl, _, rfl, D.ra, _, _, _, rfl, rfl, SqL.of x3, a1, _, _, rfl, rfl, _, rfl, ite2 (fun _ => ?_) (fun _ => ?_)⟩
  · refine ⟨_, rfl, _, rfl, D.ra, _, _, _, rfl, rfl, SqL.of x3, a1, ?_⟩
    refine ⟨_, rfl, _, rfl, _, _, rfl, rfl, wide_div (b := 110) m0 (Nat.lt_of_lt_of_le (show m.natAbs < 10000000000000000000000000000000 by omega) (by decide)) (by decide) (by decide), ?_⟩
    refine ⟨_, rfl, _, rfl, D.ra, _, _, _, rfl, rfl, x3, ixN_nat i0 (by rw [rl]; exact i1), ?_⟩
    refine ⟨_, rfl, _, rfl, _, _, rfl, rfl, m0, ?_⟩
    refine q _ _ (Int.emod_nonneg _ (by omega)) (Int.emod_lt_of_pos _ m0) ⟨⟨cells, rests.set ((n : Int) % ((cells.map V.int).length : Int)).toNat (rests[((n : Int) % ((cells.map V.int).length : Int)).toNat] / m), ?_, ?_, ?_, c0, ?_, c1⟩, d.dc, d.dr, d.cr⟩ ?_
    · rw [upd_ne d.dr]; exact x1
    · rw [upd_ne d.cr]; exact x2
    · rw [upd_same, List.map_set]
    · rw [List.length_set]; exact cr
    · exact sd.trans fun b o _ h2 e => by rw [upd_ne h2]; exact e
  · have b1 := modB cells[((n : Int) % ((cells.map V.int).length : Int)).toNat] 2147483563 (by decide)
    have b2 := sq_le hn
    refine ⟨_, rfl, _, rfl, D.ca, _, _, _, rfl, rfl, SqL.of x2, a2, _, _, rfl, rfl, (show (0 : Int) < 2147483563 by decide), _, rfl, _, _, rfl, rfl, .inl ⟨by decide, by decide⟩, _, rfl, _, _, rfl, rfl, .inr ⟨by omega, by omega⟩, _, _, rfl, rfl, ?_⟩
    refine ⟨_, rfl, _, rfl, _, _, rfl, rfl, .inl ⟨by decide, by decide⟩, _, _, rfl, rfl, _, _, rfl, rfl, _, _, rfl, rfl, ⟨by decide, by decide, by omega⟩, _, _, rfl, rfl, (show (0 : Int) < 2305843009213693921 by decide), ?_⟩
    generalize (cells[((n : Int) % ((cells.map V.int).length : Int)).toNat] % 2147483563 + 75025 * (n : Int) * (n : Int) + 10946 * (n : Int) + 53) ^ Int.toNat 3 = y1
    have b3 := modB y1 2305843009213693921 (by decide)
    refine ⟨_, rfl, _, rfl, _, _, rfl, rfl, .inl ⟨by decide, by decide⟩, _, _, rfl, rfl, _, _, rfl, rfl, ⟨by decide, by decide, by omega⟩, _, _, rfl, rfl, (show (0 : Int) < 2305843009213693951 by decide), ?_⟩
    refine ⟨_, rfl, _, _, rfl, rfl, ⟨by decide, by decide⟩, _, rfl, _, _, rfl, rfl, m0, ?_⟩
    exact q _ _ (Int.emod_nonneg _ (by omega)) (Int.emod_lt_of_pos _ m0) ⟨⟨cells, rests, x1, x2, x3, c0, cr, c1⟩, d.dc, d.dr, d.cr⟩ sd
end
/-! ### _law_deck -/
theorem rep_flat {α : Type} (a : α) : ∀ m : Nat, (List.replicate m [a]).flatten = List.replicate m a
  | 0 => rfl
  | m + 1 => by
    rw [List.replicate_succ, List.replicate_succ, List.flatten_cons, rep_flat a m]
    rfl
def spDeck (K : PySem.W.Frag) : Sp := fun vs H Q _ => ∃ (a : Addr) (ns : List Int), vs = [.ref a] ∧ SqL K H a (ns.map V.int) ∧ ∀ (D : Deck) (H' : Hp), DeckOk H' D 0 → Same H H' → Q (.ref D.dk) H'
section
variable {P : Program} {w : World} {K : PySem.W.Frag} {mg : Str → Option Value} {base : Heap} {f : Addr} {fd : FuncData}
theorem ok_deck {k : Nat} (F : Fun K "_law_deck" "_law_deck" s__law_deck f fd) (M : Mgs mg) : FnOk P w K mg base CX0 (k + 1) f fd ["_law_script"] (spDeck K) := by
  refine F.ok sc__law_deck (fun vs H Q E h => ?_) (fun cdv A outer s H vs Q E hr h => ?_)
  · obtain ⟨a, ns, rfl, _⟩ := h
    rfl
  obtain ⟨a, ns, rfl, hS, q⟩ := h
  refine ⟨_, (pss_cons (ps_set (i := 1) sc__law_deck.nd rfl (.inl rfl) (pe_op op_cat (pe_callTy call_list_of rfl M.list (by decide +kernel) (pa_cons (pe_slice sl_list (pv 0) po_none (po_some pe_int)) pa_nil)) (pe_op op_rep (pe_lst (pa_cons pe_int pa_nil)) (pe_callTy call_int1 rfl M.int (by decide +kernel) (pa_cons (pe_cmpR op_eq (pe_callB call_len_seq rfl M.len PySem.boot_len (pa_cons (pv 0) pa_nil)) pe_int (nomark _)) pa_nil)))))
    (pss_one (ps_ret (pe_lst (pa_cons (pv 1) (pa_cons pe_int (pa_cons (pe_lc (own := [("_law_cell", 2)]) (g := gName 2) (tt := tYes) rfl sc__law_deck.nd (pi_list (pv 1)) (blkOk_by (N := ["_law_script", "_law_cells", "_law_cell"]) (sc := defScope s__law_deck) (by decide +kernel)) (fun _ _ _ _ _ => (pg_name (i := 2) sc__law_deck.nd rfl (.inl rfl))) (fun _ _ _ _ _ => pts_nil) (fun _ _ _ _ _ => (pe_op op_mul (pv 2) (pe_callTy call_int1 rfl M.int (by decide +kernel) (pa_cons (pe_cmpR op_ge (pv 2) (pe_op op_pow pe_int pe_int) (nomark _)) pa_nil))))) pa_nil))))))), ?_⟩
  refine ⟨.ref a, rfl, 60, rfl, a, ns.map V.int, rfl, hS, fun c nc => ?_⟩
  rw [show (60 : Int) = ((60 : Nat) : Int) from rfl, cut_to, ← List.map_take]
  have s1 := same_new nc (.lst ((ns.take 60).map V.int))
  have ec := upd_same (H := H) (a := c) (o := .lst ((ns.take 60).map V.int))
  generalize upd H c (.lst ((ns.take 60).map V.int)) = H1 at s1 ec
  refine ⟨c, _, rfl, .inl (SqL.of ec), fun c2 nc2 => ?_⟩
  have s2 := same_new nc2 (.lst ((ns.take 60).map V.int))
  have ec2 := upd_same (H := H1) (a := c2) (o := .lst ((ns.take 60).map V.int))
  generalize upd H1 c2 (.lst ((ns.take 60).map V.int)) = H2 at s2 ec2
  refine ⟨(by show 1 ≤ sizeLine; decide), fun z nz => ?_⟩
  have s3 := same_new nz (.lst [.int 6])
  have ez := upd_same (H := H2) (a := z) (o := .lst [.int 6])
  have ec3 := s3 _ _ ec2
  generalize upd H2 z (.lst [.int 6]) = H3 at s3 ez ec3
  have sH := (s1.trans s2).trans s3
  refine ⟨.ref a, rfl, a, _, rfl, .inl (sH.seq hS), rfl, .inr ⟨_, rfl, z, _, _, rfl, rfl, ez, ?_, ?_, ?_, fun y ny => ?_⟩⟩
  · split <;> decide
  · split <;> decide
  · split <;> decide
  have s4 := same_new ny (.lst (List.replicate (Int.toNat (if decide (V.int ((ns.map V.int).length : Int) = V.int 0) = true then 1 else 0)) [V.int 6]).flatten)
  obtain ⟨ex, hex, hexl⟩ : ∃ ex : List Int, (List.replicate (Int.toNat (if decide (V.int ((ns.map V.int).length : Int) = V.int 0) = true then 1 else 0)) [V.int 6]).flatten = ex.map V.int ∧ 0 < (ns.take 60).length + ex.length ∧ (ns.take 60).length + ex.length ≤ 60 := by
    by_cases h0 : ns.length = 0
    · refine ⟨[6], ?_, Nat.succ_pos _, ?_⟩
      · rw [show (decide (V.int ((ns.map V.int).length : Int) = V.int 0)) = true by rw [List.length_map, h0]; rfl]
        rfl
      · rw [List.length_take, h0]
        decide
    · refine ⟨[], ?_, ?_, ?_⟩
      · rw [show (decide (V.int ((ns.map V.int).length : Int) = V.int 0)) = false by
          apply decide_eq_false
          intro z
          have z' := V.int.inj z
          rw [List.length_map] at z'
          omega]
        rfl
      · rw [List.length_take, List.length_nil]; omega
      · rw [List.length_take, List.length_nil]; omega
  refine ⟨c2, y, _, _, rfl, rfl, s4 _ _ ec3, upd_same, ?_, fun p np => ?_⟩
  · rw [hex, List.length_map, List.length_map]
    exact small (by omega)
  have s5 := same_new np (.lst ((ns.take 60).map V.int ++ (List.replicate (Int.toNat (if decide (V.int ((ns.map V.int).length : Int) = V.int 0) = true then 1 else 0)) [V.int 6]).flatten))
  have s6 := sH.trans (s4.trans s5)
  refine ⟨.ref p, rfl, _, rfl, p, rfl, ⟨_, SqL.of upd_same⟩, fun r nr => ?_⟩
  rw [hex, ← List.map_append] at s5 s6 nr ⊢
  generalize hH2 : upd (upd H3 y (.lst (ex.map V.int))) p (.lst ((ns.take 60 ++ ex).map V.int)) = H4 at s5 s6 nr ⊢
  have ep : H4 p = some (.lst ((ns.take 60 ++ ex).map V.int)) := by rw [← hH2]; exact upd_same
  have hpr : p ≠ r := ne_of_none ep nr
  refine lc_list (K := K) (a := p) (xs := (ns.take 60 ++ ex).map V.int) (fun i H' => Same H4 H' ∧ ∃ ys : List Int, ys.length = i ∧ H' r = some (.lst (ys.map V.int))) ⟨same_new nr _, [], rfl, upd_same⟩ (fun i H' _ hp => SqL.of (hp.1 _ _ ep)) (fun i x H' hx hp => ?_) (fun H5 hp => ?_)
  · obtain ⟨sm, ys, hy, hd⟩ := hp
    rw [List.getElem?_map] at hx
    obtain ⟨v, hv, rfl⟩ := Option.map_eq_some_iff.mp hx
    have hi : i < 61 := by
      have := (List.getElem?_eq_some_iff.mp hv).1
      rw [List.length_append] at this
      omega
    refine ⟨rfl, kept ?_⟩
    refine ⟨_, rfl, _, rfl, _, _, rfl, rfl, ⟨by decide, by decide, by decide⟩, _, _, rfl, rfl, .inr ⟨_, rfl, _, _, rfl, rfl, .inr ?_, _, hd, by rw [List.length_map]; exact small1000 (by omega), fun b o e => ?_, ys ++ [v * (if decide (v ≥ (10 : Int) ^ Int.toNat 18) = true then 1 else 0)], by rw [List.length_append, hy]; rfl, ?_⟩⟩
    · split <;> decide
    · rw [upd_ne (ne_of_none e nr)]
      exact sm _ _ e
    · rw [upd_same, List.map_append]
      rfl
  · obtain ⟨sm, ys, hy, hd⟩ := hp
    refine ⟨(by show 3 ≤ sizeLine; decide), fun t nt => ?_⟩
    have s9 := same_new nt (.lst [.ref p, .int 0, .ref r])
    have ep3 := sm _ _ ep
    refine q ⟨t, p, r⟩ _ ⟨⟨ns.take 60 ++ ex, ys, upd_same, s9 _ _ ep3, s9 _ _ hd, ?_, ?_, ?_⟩, (ne_of_none ep3 nt).symm, (ne_of_none hd nt).symm, hpr⟩ (s6.trans (sm.trans s9))
    · rw [List.length_append]; omega
    · rw [hy, List.length_map]
    · rw [List.length_append]; omega
end
/-! ### _law_pick, _law_mixed -/
abbrev vc (c : Nat) : V := .str (ch c)
abbrev vt (z : List Nat) : V := .str (tx z)
theorem at_ge {α : Type} {xs : List α} {i : Int} (h0 : 0 ≤ i) (h : i.toNat < xs.length) : atI xs i = some xs[i.toNat] := by
  have e := atI_nat (xs := xs) (j := i.toNat) (List.getElem?_eq_getElem h)
  rwa [Int.toNat_of_nonneg h0] at e
theorem erase_perm {α : Type} : ∀ {l : List α} {i : Nat} (h : i < l.length), List.Perm (l[i] :: l.eraseIdx i) l
  | x :: l, 0, _ => List.Perm.refl _
  | x :: l, i + 1, h => by
    have := erase_perm (l := l) (i := i) (Nat.lt_of_succ_lt_succ h)
    show List.Perm (l[i]'(Nat.lt_of_succ_lt_succ h) :: x :: l.eraseIdx i) (x :: l)
    exact (List.Perm.swap _ _ _).trans (this.cons x)
def spPick (K : PySem.W.Frag) : Sp := fun vs H Q _ => ∃ (D : Deck) (n : Nat) (v : V), vs = [.ref D.dk, v] ∧ DeckOk H D n ∧ n ≤ 1000000 ∧
  ((∃ ls : List Nat, v = vt ls ∧ ls ≠ [] ∧ ls.length ≤ 60 ∧ ∀ (c : Nat) (H' : Hp), c ∈ ls → DeckOk H' D (n + 1) → SameD D H H' → Q (vc c) H') ∨
   (∃ (a : Addr) (xs : List V), v = .ref a ∧ H a = some (.lst xs) ∧ Off D a ∧ xs ≠ [] ∧ xs.length ≤ 60 ∧ ∀ (x : V) (H' : Hp), x ∈ xs → DeckOk H' D (n + 1) → SameD D H H' → Q x H'))
section
variable {P : Program} {w : World} {K : PySem.W.Frag} {mg : Str → Option Value} {base : Heap} {f : Addr} {fd : FuncData}
theorem ok_pick {k : Nat} (F : Fun K "_law_pick" "_law_pick" s__law_pick f fd) (M : Mgs mg) (D_law_draw : Df P w K mg base (k + 1) "_law_draw" ["_law_deck_here", "_law_many"] spDraw) : FnOk P w K mg base CX0 (k + 2) f fd ["_law_deck_here", "_law_items"] (spPick K) := by
  refine F.ok sc__law_pick (fun vs H Q E h => ?_) (fun cdv A outer s H vs Q E hr h => ?_)
  · obtain ⟨D, n, v, rfl, _⟩ := h
    rfl
  obtain ⟨D, n, v, rfl, d, hn, hc⟩ := h
  refine ⟨_, (pss_one (ps_ret (pe_ix ix_seq (pv 1) (pe_call D_law_draw.ok (hr.mono (by omega)) rfl D_law_draw.g D_law_draw.kp D_law_draw.b .nil pass0 (pa_cons (pv 0) (pa_cons (pe_callB call_len rfl M.len PySem.boot_len (pa_cons (pv 1) pa_nil)) pa_nil))) (fun _ _ => rfl)))), ?_⟩
  rcases hc with ⟨ls, rfl, ne, hl, q⟩ | ⟨a, xs, rfl, ea, oa, ne, hl, q⟩
  · have lz : (tx ls).length ≤ sizeLine := small (by rw [tx_len]; omega)
    have l0 : 0 < ls.length := List.length_pos_iff.mpr ne
    refine ⟨_, rfl, _, rfl, _, rfl, _, _, rfl, ⟨lz, rfl⟩, D, n, _, rfl, d, hn, by rw [tx_len]; omega, by rw [tx_len]; omega, fun i H1 i0 i1 d1 s1 => ?_⟩
    rw [tx_len] at i1
    have hi : i.toNat < ls.length := by omega
    have ai : atI (tx ls).cps.toList i = some ls[i.toNat] := at_ge (xs := ls) i0 hi
    exact .inr (.inr ⟨_, _, _, rfl, rfl, lz, ai, q _ H1 (List.getElem_mem hi) d1 s1⟩)
  · have l0 : 0 < xs.length := List.length_pos_iff.mpr ne
    refine ⟨_, rfl, _, rfl, _, rfl, _, _, rfl, .inl ⟨_, SqL.of ea, rfl⟩, D, n, _, rfl, d, hn, by omega, by omega, fun i H1 i0 i1 d1 s1 => ?_⟩
    have hi : i.toNat < xs.length := by omega
    have ai : atI xs i = some xs[i.toNat] := at_ge i0 hi
    exact .inl ⟨a, xs, _, _, rfl, rfl, SqL.of (s1.at oa ea), ai, q _ H1 (List.getElem_mem hi) d1 s1⟩
def spMixed : Sp := fun vs H Q _ => ∃ (D : Deck) (n : Nat) (a : Addr) (ls : List V), vs = [.ref D.dk, .ref a] ∧ DeckOk H D n ∧ n + ls.length ≤ 1000000 ∧ H a = some (.lst ls) ∧ Off D a ∧ ls.length ≤ 60 ∧
  ∀ (p : Addr) (zs : List V) (H' : Hp), DeckOk H' D (n + ls.length) → SameD D H H' → H p = none → H' p = some (.lst zs) → zs.Perm ls → Off D p → Q (.ref p) H'
theorem ok_mixed {k : Nat} (F : Fun K "_law_mixed" "_law_mixed" s__law_mixed f fd) (M : Mgs mg) (D_law_draw : Df P w K mg base (k + 1) "_law_draw" ["_law_deck_here", "_law_many"] spDraw) : FnOk P w K mg base CX0 (k + 2) f fd ["_law_deck_here", "_law_items"] spMixed := by
  refine F.ok sc__law_mixed (fun vs H Q E h => ?_) (fun cdv A outer s H vs Q E hr h => ?_)
  · obtain ⟨D, n, a, ls, rfl, _⟩ := h
    rfl
  obtain ⟨D, n, a, ls, rfl, d, hn, ea, oa, hl, q⟩ := h
  refine ⟨_, (pss_cons (ps_set (i := 2) sc__law_mixed.nd rfl (.inl rfl) (pe_callTy call_list_of rfl M.list (by decide +kernel) (pa_cons (pv 1) pa_nil)))
    (pss_cons (ps_set (i := 3) sc__law_mixed.nd rfl (.inl rfl) (pe_lst pa_nil))
    (pss_cons (ps_while PassesOwn.never (pt_cmpR (op_neL hr.units0) (pv 2) (pe_lst pa_nil) (nomark _))
      (pss_one (ps_expr (pe_bm PySem.F.plainAttrs_list PySem.F.slot_list_append PySem.F.type_list_append mt_append (pv 3) (pa_cons (pe_bm PySem.F.plainAttrs_list PySem.F.slot_list_pop PySem.F.type_list_pop mt_popAt (pv 2) (pa_cons (pe_call D_law_draw.ok (hr.mono (by omega)) rfl D_law_draw.g D_law_draw.kp D_law_draw.b .nil pass0 (pa_cons (pv 0) (pa_cons (pe_callB call_len_seq rfl M.len PySem.boot_len (pa_cons (pv 2) pa_nil)) pa_nil))) pa_nil)) pa_nil)))))
    (pss_one (ps_ret (pv 3)))))), ?_⟩
  refine ⟨_, rfl, a, _, rfl, .inl (SqL.of ea), fun ra nra => ?_⟩
  refine ⟨(by show 0 ≤ sizeLine; decide), fun fa nfa => ?_⟩
  have q1 := same_new nra (.lst ls)
  have q2 := same_new nfa (.lst [])
  have era := q2 _ _ (upd_same (H := H) (a := ra) (o := .lst ls))
  have nrf : ra ≠ fa := ne_of_none upd_same nfa
  have nfaH : H fa = none := by
    rw [upd_ne nrf.symm] at nfa
    exact nfa
  have ora := d.new nra
  have ofa := d.new nfaH
  refine while_by (fun σ H' => σ = [some (.ref D.dk), some (.ref a), some (.ref ra), some (.ref fa)] ∧ ∃ rest xs : List V, DeckOk H' D (n + xs.length) ∧ SameD D H H' ∧ H' ra = some (.lst rest) ∧ H' fa = some (.lst xs) ∧ (xs ++ rest).Perm ls) (fun σ H' => match H' ra with | some (.lst xs) => xs.length | _ => 0)
    ⟨rfl, ls, [], (d.same q1).same q2, SameD.of (q1.trans q2), era, upd_same, List.Perm.refl _⟩ (fun σ H' hp => ?_) ?_
  · obtain ⟨rfl, rest, xs, d', s', er, ef, pm⟩ := hp
    have hlen : xs.length + rest.length = ls.length := by rw [← List.length_append]; exact pm.length_eq
    refine ⟨_, rfl, (by show 0 ≤ sizeLine; decide), fun el ne => ?_⟩
    have q3 := same_new ne (.lst [])
    refine ⟨ra, el, _, rfl, rfl, SqL.of (q3 _ _ er), SqL.of upd_same, _, rfl, ?_⟩
    have d1 := d'.same q3
    have s1 := s'.trans (SameD.of q3)
    have er1 := q3 _ _ er
    have ef1 := q3 _ _ ef
    generalize upd H' el (.lst []) = H1 at d1 s1 er1 ef1
    cases hg : rest with
    | nil =>
      refine iteF ?_
      subst hg
      rw [List.append_nil] at pm
      rw [List.length_nil, Nat.add_zero] at hlen
      rw [hlen] at d1
      exact ⟨_, rfl, q fa xs H1 d1 s1 nfaH ef1 pm ofa⟩
    | cons g0 gr =>
      refine iteT ?_
      have r0 : 0 < rest.length := by rw [hg]; exact Nat.succ_pos _
      refine ⟨_, rfl, .inl ⟨rfl, _, SqL.of ef1⟩, _, rfl, .inl ⟨rfl, _, SqL.of er1⟩, _, rfl, _, rfl, ra, _, rfl, .inl (SqL.of er1), D, _, _, rfl, d1, by omega, by omega, by omega, fun j H2 j0 j1 d2 s2 => ?_⟩
      have hj : j.toNat < rest.length := by omega
      have er2 := s2.at ora er1
      have ef2 := s2.at ofa ef1
      refine ⟨ra, _, j, j.toNat, rest[j.toNat], rfl, rfl, er2, by omega, by omega, (ixN_seq (ixN_nat j0 (by omega))).1, List.getElem?_eq_getElem hj, ?_⟩
      have ef3 : (upd H2 ra (.lst (rest.eraseIdx j.toNat))) fa = some (.lst xs) := by rw [upd_ne nrf.symm]; exact ef2
      refine ⟨fa, _, _, rfl, rfl, ef3, small1000 (by omega), ?_⟩
      refine ⟨⟨rfl, rest.eraseIdx j.toNat, xs ++ [rest[j.toNat]], ?_, ((s1.trans s2).put nra _).put nfaH _, ?_, upd_same, ?_⟩, ?_⟩
      · rw [List.length_append]
        exact (d2.put ora _).put ofa _
      · rw [upd_ne nrf, upd_same]
      · rw [List.append_assoc]
        exact (List.Perm.append_left xs (erase_perm hj)).trans pm
      · show (match (upd (upd H2 ra _) fa (.lst (xs ++ [rest[j.toNat]]))) ra with | some (.lst xs) => xs.length | _ => 0) < (match H' ra with | some (.lst xs) => xs.length | _ => 0)
        rw [upd_ne nrf, upd_same, er]
        show (rest.eraseIdx j.toNat).length < rest.length
        rw [List.length_eraseIdx_of_lt hj]
        omega
  · intro σ H' Q1 Q2 hQ h
    obtain ⟨v, e, h0, h⟩ := h
    refine ⟨v, e, h0, fun el ne => ?_⟩
    obtain ⟨a, b, zs, h1, h2, h3, h4, k, h5, h6⟩ := h el ne
    exact ⟨a, b, zs, h1, h2, h3, h4, k, h5, hQ _ _ h6⟩
end
/-! ### _law_tree, _law_drawn_tree -/
def ltB (t : B) : Prop := ∀ c ∈ t.pre, 97 ≤ c ∧ c ≤ 122
theorem iteI {i j : Int} {A B : Prop} (h : i = j) (a : A) : if decide (V.int i = V.int j) = true then A else B := by
  rw [if_pos (decide_eq_true (congrArg V.int h))]; exact a
theorem iteJ {i j : Int} {A B : Prop} (h : i ≠ j) (b : B) : if decide (V.int i = V.int j) = true then A else B := by
  rw [if_neg (fun z => h (V.int.inj (of_decide_eq_true z)))]; exact b
theorem pick_many {z : Int} {i way : Int} (z1 : 1 ≤ z) (i0 : 0 ≤ i) (i1 : i < z) (w0 : 0 ≤ way) (w1 : way ≤ 4) : ∃ m : Nat, atI [V.int i, V.int (z - 1), V.int 0, V.int ((z - 1) * (z % 2)), V.int ((z - 1) / 2)] way = some (.int (m : Int)) ∧ (m : Int) < z := by
  have h : way = ((0 : Nat) : Int) ∨ way = ((1 : Nat) : Int) ∨ way = ((2 : Nat) : Int) ∨ way = ((3 : Nat) : Int) ∨ way = ((4 : Nat) : Int) := by omega
  rcases h with rfl | rfl | rfl | rfl | rfl
  · exact ⟨i.toNat, by rw [Int.toNat_of_nonneg i0]; exact atI_nat rfl, by omega⟩
  · exact ⟨(z - 1).toNat, by rw [Int.toNat_of_nonneg (by omega)]; exact atI_nat rfl, by omega⟩
  · exact ⟨0, atI_nat rfl, by omega⟩
  · have h2 : z % 2 = 0 ∨ z % 2 = 1 := by omega
    rcases h2 with e | e
    · exact ⟨0, by rw [e, Int.mul_zero]; exact atI_nat rfl, by omega⟩
    · exact ⟨(z - 1).toNat, by rw [e, Int.mul_one, Int.toNat_of_nonneg (by omega)]; exact atI_nat rfl, by omega⟩
  · exact ⟨((z - 1) / 2).toNat, by rw [Int.toNat_of_nonneg (by omega)]; exact atI_nat rfl, by omega⟩
def spTree (N : Nat) : Sp := fun vs H Q _ => ∃ (D : Deck) (n z : Nat) (way : Int) (ls : List Nat), vs = [.ref D.dk, .int (z : Int), .int way, vt ls] ∧ DeckOk H D n ∧ n + 2 * z ≤ 1000000 ∧ z < N ∧ z ≤ 1000 ∧ 0 ≤ way ∧ way ≤ 4 ∧ ls ≠ [] ∧ ls.length ≤ 60 ∧
  ∀ (v : V) (t : B) (H' : Hp), DeckOk H' D (n + 2 * z) → SameD D H H' → BAt H' v t → t.size = z → (∀ c ∈ t.pre, c ∈ ls) → Q v H'
def spDrawn : Sp := fun vs H Q _ => ∃ (D : Deck) (n lim : Nat), vs = [.ref D.dk, .int (lim : Int)] ∧ DeckOk H D n ∧ n + 3 + 2 * lim ≤ 1000000 ∧ 1 ≤ lim ∧ lim ≤ 20 ∧
  ∀ (v : V) (t : B) (n' : Nat) (H' : Hp), DeckOk H' D n' → n' ≤ n + 3 + 2 * lim → SameD D H H' → BAt H' v t → 1 ≤ t.size → t.size ≤ lim → ltB t → Q v H'
section
variable {P : Program} {w : World} {K : PySem.W.Frag} {mg : Str → Option Value} {base : Heap} {f : Addr} {fd : FuncData}
theorem ok_tree (F : Fun K "_law_tree" "_law_tree" s__law_tree f fd) (b : Binds K fd ["_law_deck_here", "_law_size", "_law_style", "_law_letters"] []) (g : mg "_law_tree" = some (.ref f)) (D_law_draw : Df P w K mg base 1 "_law_draw" ["_law_deck_here", "_law_many"] spDraw) (D_law_pick : Df P w K mg base 2 "_law_pick" ["_law_deck_here", "_law_items"] (spPick K)) :
    ∀ N : Nat, FnOk P w K mg base CX0 (N + 3) f fd ["_law_deck_here", "_law_size", "_law_style", "_law_letters"] (spTree N)
  | 0 => by
    have no : ∀ vs H Q E, ¬ spTree 0 vs H Q E := fun vs H Q E h => by
      obtain ⟨D, n, z, way, ls, _, _, _, h1, _⟩ := h
      omega
    exact ⟨fun vs H Q E h => absurd h (no vs H Q E), fun A outer s H args us vs Q E _ _ _ _ h => absurd h (no vs H Q E)⟩
  | N + 1 => by
    have Dself : Df P w K mg base (N + 3) "_law_tree" ["_law_deck_here", "_law_size", "_law_style", "_law_letters"] (spTree N) := ⟨f, fd, ok_tree F b g D_law_draw D_law_pick N, b, F.kp, g⟩
    refine F.ok sc__law_tree (fun vs H Q E h => ?_) (fun cdv A outer s H vs Q E hr h => ?_)
    · obtain ⟨D, n, z, way, ls, rfl, _⟩ := h
      rfl
    obtain ⟨D, n, z, way, ls, rfl, d, hn, hz, hz1, w0, w1, lne, ll, q⟩ := h
    refine ⟨_, (pss_cons (ps_if (pt_cmpR op_eq (pv 1) pe_int (nomark _))
      (pss_one (ps_ret pe_non)) pss_nil)
    (pss_cons (ps_set (i := 4) sc__law_tree.nd rfl (.inl rfl) (pe_ix ix_list (pe_lst (pa_cons (pe_call D_law_draw.ok (hr.mono (by omega)) rfl D_law_draw.g D_law_draw.kp D_law_draw.b .nil pass0 (pa_cons (pv 0) (pa_cons (pv 1) pa_nil))) (pa_cons (pe_op op_sub (pv 1) pe_int) (pa_cons pe_int (pa_cons (pe_op op_mul (pe_op op_sub (pv 1) pe_int) (pe_op op_mod (pv 1) pe_int)) (pa_cons (pe_op op_fdiv (pe_op op_sub (pv 1) pe_int) pe_int) pa_nil)))))) (pv 2) (fun _ _ => rfl)))
    (pss_cons (ps_set (i := 5) sc__law_tree.nd rfl (.inl rfl) (pe_call D_law_pick.ok (hr.mono (by omega)) rfl D_law_pick.g D_law_pick.kp D_law_pick.b .nil pass0 (pa_cons (pv 0) (pa_cons (pv 3) pa_nil))))
    (pss_one (ps_ret (pe_tup (pa_cons (pe_call Dself.ok (hr.mono (by omega)) rfl Dself.g Dself.kp Dself.b .nil pass0 (pa_cons (pv 0) (pa_cons (pv 4) (pa_cons (pv 2) (pa_cons (pv 3) pa_nil))))) (pa_cons (pv 5) (pa_cons (pe_call Dself.ok (hr.mono (by omega)) rfl Dself.g Dself.kp Dself.b .nil pass0 (pa_cons (pv 0) (pa_cons (pe_op op_sub (pe_op op_sub (pv 1) pe_int) (pv 4)) (pa_cons (pv 2) (pa_cons (pv 3) pa_nil))))) pa_nil))))))))), ?_⟩
    by_cases e0 : z = 0
    · subst e0
      refine ⟨_, rfl, rfl, _, rfl, iteI rfl ?_⟩
      exact q .non .nil H d (SameD.refl D H) .nil rfl fun c hc => by cases hc
    · refine ⟨_, rfl, rfl, _, rfl, iteJ (by omega) ?_⟩
      refine ⟨_, rfl, _, rfl, D, n, _, rfl, d, by omega, by omega, by omega, fun i H1 i0 i1 d1 s1 => ?_⟩
      refine ⟨_, rfl, _, _, rfl, rfl, _, rfl, _, _, rfl, rfl, _, rfl, _, _, rfl, rfl, (show (0 : Int) < 2 by decide), _, _, rfl, rfl, .inl ⟨by omega, by omega⟩, ?_⟩
      refine ⟨_, rfl, _, _, rfl, rfl, _, _, rfl, rfl, ⟨by decide, by decide⟩, (by show 5 ≤ sizeLine; decide), fun l nl => ?_⟩
      obtain ⟨m, hm, ml⟩ := pick_many (show (1 : Int) ≤ (z : Int) by omega) i0 i1 w0 w1
      refine ⟨_, rfl, l, _, _, _, rfl, rfl, SqL.of upd_same, hm, ?_⟩
      have q1 := same_new nl (.lst [V.int i, V.int ((z : Int) - 1), V.int 0, V.int (((z : Int) - 1) * ((z : Int) % 2)), V.int (((z : Int) - 1) / 2)])
      have d2 := d1.same q1
      have s2 := s1.trans (SameD.of q1)
      refine ⟨_, rfl, _, rfl, D, n + 1, _, rfl, d2, by omega, .inl ⟨ls, rfl, lne, ll, fun c H3 hc d3 s3 => ?_⟩⟩
      refine ⟨_, rfl, _, rfl, _, rfl, _, rfl, D, n + 2, m, way, ls, rfl, d3, by omega, by omega, by omega, w0, w1, lne, ll, fun v1 t1 H4 d4 s4 a4 z4 c4 => ?_⟩
      refine ⟨_, rfl, _, rfl, _, rfl, _, _, rfl, rfl, _, rfl, _, _, rfl, rfl, _, rfl, _, rfl, ?_⟩
      have em : (z : Int) - 1 - (m : Int) = ((z - 1 - m : Nat) : Int) := by omega
      refine ⟨D, _, z - 1 - m, way, ls, by rw [← em]; rfl, d4, by omega, by omega, by omega, w0, w1, lne, ll, fun v2 t2 H5 d5 s5 a5 z5 c5 => ?_⟩
      refine ⟨(by show 3 ≤ sizeLine; decide), fun r nr => ?_⟩
      have q6 := same_new nr (.tup [v1, .str ⟨#[c]⟩, v2])
      refine q (.ref r) (.node t1 c t2) _ ?_ (((s2.trans s3).trans s4).trans (s5.trans (SameD.of q6))) (.node upd_same ((a4.keep (s5.keepT d4)).same q6) (a5.same q6)) ?_ ?_
      · rw [show n + 2 * z = n + 2 + 2 * m + 2 * (z - 1 - m) by omega]
        exact d5.same q6
      · show t1.size + 1 + t2.size = z
        omega
      · intro x hx
        rcases List.mem_cons.mp hx with rfl | hx
        · exact hc
        · rcases List.mem_append.mp hx with hx | hx
          · exact c4 x hx
          · exact c5 x hx
theorem some_letters {x : V} (h : x ∈ [V.str "a", V.str "ab", V.str "abcxyz", V.str "abcdefghijklmnopqrstuvwxyz"]) : ∃ ls : List Nat, x = vt ls ∧ ls ≠ [] ∧ ls.length ≤ 60 ∧ ∀ c ∈ ls, 97 ≤ c ∧ c ≤ 122 := by
  have go : ∀ s : Str, s.cps.toList ≠ [] → s.cps.toList.length ≤ 60 → (∀ c ∈ s.cps.toList, 97 ≤ c ∧ c ≤ 122) → ∃ ls : List Nat, V.str s = vt ls ∧ ls ≠ [] ∧ ls.length ≤ 60 ∧ ∀ c ∈ ls, 97 ≤ c ∧ c ≤ 122 := fun s h1 h2 h3 => ⟨s.cps.toList, by show V.str s = V.str ⟨s.cps.toList.toArray⟩; rw [Array.toArray_toList], h1, h2, h3⟩
  rcases List.mem_cons.mp h with rfl | h
  · exact go _ (by decide +kernel) (by decide +kernel) (by decide +kernel)
  rcases List.mem_cons.mp h with rfl | h
  · exact go _ (by decide +kernel) (by decide +kernel) (by decide +kernel)
  rcases List.mem_cons.mp h with rfl | h
  · exact go _ (by decide +kernel) (by decide +kernel) (by decide +kernel)
  rcases List.mem_cons.mp h with rfl | h
  · exact go _ (by decide +kernel) (by decide +kernel) (by decide +kernel)
  · cases h
theorem ok_drawn (F : Fun K "_law_drawn_tree" "_law_drawn_tree" s__law_drawn_tree f fd) (D_law_draw : Df P w K mg base 1 "_law_draw" ["_law_deck_here", "_law_many"] spDraw) (D_law_pick : Df P w K mg base 2 "_law_pick" ["_law_deck_here", "_law_items"] (spPick K))
    (D_law_tree : Df P w K mg base 33 "_law_tree" ["_law_deck_here", "_law_size", "_law_style", "_law_letters"] (spTree 30)) : FnOk P w K mg base CX0 34 f fd ["_law_deck_here", "_law_limit"] spDrawn := by
  refine F.ok sc__law_drawn_tree (fun vs H Q E h => ?_) (fun cdv A outer s H vs Q E hr h => ?_)
  · obtain ⟨D, n, lim, rfl, _⟩ := h
    rfl
  obtain ⟨D, n, lim, rfl, d, hn, l1, l2, q⟩ := h
  refine ⟨_, (pss_cons (ps_set (i := 2) sc__law_drawn_tree.nd rfl (.inl rfl) (pe_call D_law_pick.ok (hr.mono (by omega)) rfl D_law_pick.g D_law_pick.kp D_law_pick.b .nil pass0 (pa_cons (pv 0) (pa_cons (pe_lst (pa_cons pe_str (pa_cons pe_str (pa_cons pe_str (pa_cons pe_str pa_nil))))) pa_nil))))
    (pss_one (ps_ret (pe_call D_law_tree.ok (hr.mono (by omega)) rfl D_law_tree.g D_law_tree.kp D_law_tree.b .nil pass0 (pa_cons (pv 0) (pa_cons (pe_op op_add pe_int (pe_call D_law_draw.ok (hr.mono (by omega)) rfl D_law_draw.g D_law_draw.kp D_law_draw.b .nil pass0 (pa_cons (pv 0) (pa_cons (pv 1) pa_nil)))) (pa_cons (pe_call D_law_draw.ok (hr.mono (by omega)) rfl D_law_draw.g D_law_draw.kp D_law_draw.b .nil pass0 (pa_cons (pv 0) (pa_cons pe_int pa_nil))) (pa_cons (pv 2) pa_nil)))))))), ?_⟩
  refine ⟨_, rfl, (by show 4 ≤ sizeLine; decide), fun la nla => ?_⟩
  have q1 := same_new nla (.lst [V.str "a", V.str "ab", V.str "abcxyz", V.str "abcdefghijklmnopqrstuvwxyz"])
  refine ⟨D, n, _, rfl, d.same q1, by omega, .inr ⟨la, _, rfl, upd_same, d.new nla, List.cons_ne_nil _ _, by decide, fun x H1 hx d1 s1 => ?_⟩⟩
  obtain ⟨ls, rfl, lne, ll, lr⟩ := some_letters hx
  refine ⟨_, rfl, _, rfl, _, rfl, D, n + 1, _, rfl, d1, by omega, by omega, by omega, fun i H2 i0 i1 d2 s2 => ?_⟩
  refine ⟨_, _, rfl, rfl, _, rfl, D, n + 2, 5, rfl, d2, by omega, by decide, by decide, fun j H3 j0 j1 d3 s3 => ?_⟩
  refine ⟨_, rfl, ?_⟩
  have ei : (1 : Int) + i = ((1 + i.toNat : Nat) : Int) := by omega
  refine ⟨D, n + 3, 1 + i.toNat, j, ls, by rw [← ei]; rfl, d3, by omega, by omega, by omega, j0, by omega, lne, ll, fun v t H4 d4 s4 a4 z4 c4 => ?_⟩
  exact q v t _ H4 d4 (by omega) (((SameD.of q1).trans s1).trans ((s2.trans s3).trans s4)) a4 (by omega) (by omega) fun c hc => lr c (c4 c hc)
end
/-! ### walks -/
inductive Kd where
  | first
  | between
  | last
def Kd.str : Kd → Str
  | .first => "first"
  | .between => "between"
  | .last => "last"
def B.post : B → List Nat
  | .nil => []
  | .node l x r => l.post ++ r.post ++ [x]
def B.wk (k : Kd) (t : B) : List Nat := match k with
  | .first => t.pre
  | .between => t.mid
  | .last => t.post
def B.steps (k : Kd) : B → List Nat → List (List Nat × Nat)
  | .nil, _ => []
  | .node l x r, q => match k with
    | .first => [(q, x)] ++ l.steps k (q ++ [108]) ++ r.steps k (q ++ [114])
    | .between => l.steps k (q ++ [108]) ++ [(q, x)] ++ r.steps k (q ++ [114])
    | .last => l.steps k (q ++ [108]) ++ r.steps k (q ++ [114]) ++ [(q, x)]
theorem B.steps_wk (k : Kd) (t : B) : ∀ q : List Nat, (t.steps k q).map (·.2) = t.wk k := by
  induction t with
  | nil => intro q; cases k <;> rfl
  | node l x r h1 h2 =>
    intro q
    have a := h1 (q ++ [108])
    have b := h2 (q ++ [114])
    cases k
    · show ([(q, x)] ++ l.steps .first (q ++ [108]) ++ r.steps .first (q ++ [114])).map (·.2) = x :: (l.pre ++ r.pre)
      rw [List.map_append, List.map_append, a, b]; rfl
    · show (l.steps .between (q ++ [108]) ++ [(q, x)] ++ r.steps .between (q ++ [114])).map (·.2) = l.mid ++ x :: r.mid
      rw [List.map_append, List.map_append, a, b]
      show l.mid ++ [x] ++ r.mid = _
      rw [List.append_assoc]; rfl
    · show (l.steps .last (q ++ [108]) ++ r.steps .last (q ++ [114]) ++ [(q, x)]).map (·.2) = l.post ++ r.post ++ [x]
      rw [List.map_append, List.map_append, a, b]; rfl
theorem B.wk_len (k : Kd) (t : B) : (t.wk k).length = t.size := by
  cases k
  · exact t.pre_len
  · exact t.mid_len
  · show t.post.length = t.size
    induction t with
    | nil => rfl
    | node l x r h1 h2 =>
      show (l.post ++ r.post ++ [x]).length = l.size + 1 + r.size
      rw [List.length_append, List.length_append, h1, h2, List.length_cons, List.length_nil]
      omega
theorem B.steps_len (k : Kd) (t : B) (q : List Nat) : (t.steps k q).length = t.size := by
  rw [← t.wk_len k, ← t.steps_wk k q, List.length_map]
inductive StAt (H : Hp) : List V → List (List Nat × Nat) → Prop
  | nil : StAt H [] []
  | cons {a : Addr} {q : List Nat} {x : Nat} {vs : List V} {ss : List (List Nat × Nat)} : H a = some (.tup [.str (tx q), .str (ch x)]) → StAt H vs ss → StAt H (.ref a :: vs) ((q, x) :: ss)
theorem StAt.keep {H H' : Hp} (k : KeepT H H') {vs : List V} {ss : List (List Nat × Nat)} (h : StAt H vs ss) : StAt H' vs ss := by
  induction h with
  | nil => exact .nil
  | cons e _ ih => exact .cons (k _ _ e) ih
theorem StAt.same {H H' : Hp} (k : Same H H') {vs : List V} {ss : List (List Nat × Nat)} (h : StAt H vs ss) : StAt H' vs ss := h.keep (Tw.Same.keepT k)
theorem StAt.app {H : Hp} {vs us : List V} {ss ts : List (List Nat × Nat)} (h : StAt H vs ss) (g : StAt H us ts) : StAt H (vs ++ us) (ss ++ ts) := by
  induction h with
  | nil => exact g
  | cons e _ ih => exact .cons e ih
theorem StAt.len {H : Hp} {vs : List V} {ss : List (List Nat × Nat)} (h : StAt H vs ss) : vs.length = ss.length := by
  induction h with
  | nil => rfl
  | cons _ _ ih => rw [List.length_cons, List.length_cons, ih]
theorem StAt.get {H : Hp} {vs : List V} {ss : List (List Nat × Nat)} (h : StAt H vs ss) : ∀ {i : Nat} {v : V}, vs[i]? = some v → ∃ a q x, v = .ref a ∧ ss[i]? = some (q, x) ∧ H a = some (.tup [.str (tx q), .str (ch x)]) := by
  induction h with
  | nil => intro i v e; simp at e
  | cons e _ ih =>
    intro i v he
    cases i with
    | zero => cases he; exact ⟨_, _, _, rfl, rfl, e⟩
    | succ i => exact ih he
theorem str_l : Str.ofString "l" = tx [108] := by decide +kernel
theorem str_r : Str.ofString "r" = tx [114] := by decide +kernel
theorem str_0 : Str.ofString "" = tx [] := by decide +kernel

/-! ### parts and open paths -/
def B.at : B → List Nat → Option B
  | t, [] => some t
  | .nil, _ :: _ => none
  | .node l _ r, c :: w => if c = 108 then l.at w else if c = 114 then r.at w else none
theorem B.at_nil (t : B) : t.at [] = some t := by cases t <;> rfl
def B.op : B → List (List Nat)
  | .nil => [[]]
  | .node l _ r => l.op.map (108 :: ·) ++ r.op.map (114 :: ·)
theorem B.op_at (t : B) : ∀ w, w ∈ t.op ↔ t.at w = some .nil := by
  induction t with
  | nil =>
    intro w
    cases w with
    | nil => exact ⟨fun _ => rfl, fun _ => List.mem_singleton.mpr rfl⟩
    | cons c w => exact ⟨fun h => (by cases List.mem_singleton.mp h), fun h => (by cases h)⟩
  | node l x r h1 h2 =>
    intro w
    show w ∈ l.op.map (108 :: ·) ++ r.op.map (114 :: ·) ↔ _
    cases w with
    | nil =>
      refine ⟨fun h => ?_, fun h => (by cases h)⟩
      rcases List.mem_append.mp h with h | h
      · obtain ⟨_, _, e⟩ := List.mem_map.mp h; cases e
      · obtain ⟨_, _, e⟩ := List.mem_map.mp h; cases e
    | cons c w =>
      show _ ↔ (if c = 108 then l.at w else if c = 114 then r.at w else none) = some .nil
      rw [List.mem_append, List.mem_map, List.mem_map]
      by_cases c1 : c = 108
      · subst c1
        rw [if_pos rfl, ← h1 w]
        refine ⟨fun h => ?_, fun h => .inl ⟨w, h, rfl⟩⟩
        rcases h with ⟨u, hu, e⟩ | ⟨u, hu, e⟩
        · cases e; exact hu
        · cases e
      · rw [if_neg c1]
        by_cases c2 : c = 114
        · subst c2
          rw [if_pos rfl, ← h2 w]
          refine ⟨fun h => ?_, fun h => .inr ⟨w, h, rfl⟩⟩
          rcases h with ⟨u, hu, e⟩ | ⟨u, hu, e⟩
          · cases e
          · cases e; exact hu
        · rw [if_neg c2]
          refine ⟨fun h => ?_, fun h => (by cases h)⟩
          rcases h with ⟨u, hu, e⟩ | ⟨u, hu, e⟩
          · cases e; exact absurd rfl c1
          · cases e; exact absurd rfl c2
theorem nodup_cons_map (c : Nat) {L : List (List Nat)} (h : L.Nodup) : (L.map (c :: ·)).Nodup := List.Pairwise.map _ (fun _ _ ne e => ne (List.cons.inj e).2) h
theorem B.op_nodup (t : B) : t.op.Nodup := by
  induction t with
  | nil => exact List.nodup_cons.mpr ⟨by simp, List.nodup_nil⟩
  | node l x r h1 h2 =>
    show (l.op.map (108 :: ·) ++ r.op.map (114 :: ·)).Nodup
    refine List.nodup_append.mpr ⟨nodup_cons_map _ h1, nodup_cons_map _ h2, fun a ha b hb e => ?_⟩
    obtain ⟨_, _, rfl⟩ := List.mem_map.mp ha
    obtain ⟨_, _, rfl⟩ := List.mem_map.mp hb
    cases e
def isNode (o : Option B) : Prop := ∃ l x r, o = some (.node l x r)
theorem steps_mem (t : B) : ∀ (q p : List Nat), p ∈ (t.steps .first q).map (·.1) ↔ ∃ w, p = q ++ w ∧ isNode (t.at w) := by
  induction t with
  | nil =>
    intro q p
    refine ⟨fun h => (by cases h), ?_⟩
    rintro ⟨w, _, l, x, r, e⟩
    cases w with
    | nil => cases e
    | cons c w => cases e
  | node l x r h1 h2 =>
    intro q p
    show p ∈ ([(q, x)] ++ l.steps .first (q ++ [108]) ++ r.steps .first (q ++ [114])).map (·.1) ↔ _
    rw [List.map_append, List.map_append, List.mem_append, List.mem_append, h1, h2]
    constructor
    · rintro ((h | ⟨w, rfl, h⟩) | ⟨w, rfl, h⟩)
      · exact ⟨[], by rw [List.append_nil]; exact List.mem_singleton.mp h, _, _, _, rfl⟩
      · exact ⟨108 :: w, by rw [List.append_assoc]; rfl, h⟩
      · exact ⟨114 :: w, by rw [List.append_assoc]; rfl, h⟩
    · rintro ⟨w, rfl, h⟩
      cases w with
      | nil => exact .inl (.inl (List.mem_singleton.mpr (List.append_nil _)))
      | cons c w =>
        have h : isNode (if c = 108 then l.at w else if c = 114 then r.at w else none) := h
        by_cases c1 : c = 108
        · subst c1
          rw [if_pos rfl] at h
          exact .inl (.inr ⟨w, by rw [List.append_assoc]; rfl, h⟩)
        · rw [if_neg c1] at h
          by_cases c2 : c = 114
          · subst c2
            rw [if_pos rfl] at h
            exact .inr ⟨w, by rw [List.append_assoc]; rfl, h⟩
          · rw [if_neg c2] at h
            obtain ⟨_, _, _, e⟩ := h
            cases e
theorem steps_nodup (t : B) : ∀ q : List Nat, ((t.steps .first q).map (·.1)).Nodup := by
  induction t with
  | nil => intro q; exact List.nodup_nil
  | node l x r h1 h2 =>
    intro q
    show (([(q, x)] ++ l.steps .first (q ++ [108]) ++ r.steps .first (q ++ [114])).map (·.1)).Nodup
    rw [List.map_append, List.map_append]
    have ap : ∀ (c : Nat) (w : List Nat), q ≠ q ++ [c] ++ w := fun c w e => by
      have := congrArg List.length e
      simp only [List.length_append, List.length_cons, List.length_nil] at this
      omega
    refine List.nodup_append.mpr ⟨List.nodup_append.mpr ⟨List.nodup_cons.mpr ⟨by simp, List.nodup_nil⟩, h1 _, fun a ha b hb e => ?_⟩, h2 _, fun a ha b hb e => ?_⟩
    · obtain ⟨w, rfl, _⟩ := (steps_mem l _ b).mp hb
      rw [List.mem_singleton.mp ha] at e
      exact ap _ _ e
    · obtain ⟨w, rfl, _⟩ := (steps_mem r _ b).mp hb
      rcases List.mem_append.mp ha with ha | ha
      · rw [List.mem_singleton.mp ha] at e
        exact ap _ _ e
      · obtain ⟨u, rfl, _⟩ := (steps_mem l _ a).mp ha
        rw [List.append_assoc, List.append_assoc] at e
        have := List.append_cancel_left e
        cases this
theorem at_child {t : B} {w : List Nat} (h : isNode (t.at w)) {c : Nat} (hc : c = 108 ∨ c = 114) (hn : ¬ isNode (t.at (w ++ [c]))) : t.at (w ++ [c]) = some .nil := by
  induction w generalizing t with
  | nil =>
    obtain ⟨l, x, r, e⟩ := h
    have e : t = .node l x r := Option.some.inj ((B.at_nil t).symm.trans e)
    subst e
    rcases hc with rfl | rfl
    · show l.at [] = _
      cases l with
      | nil => rfl
      | node a b c => exact absurd ⟨a, b, c, rfl⟩ hn
    · show r.at [] = _
      cases r with
      | nil => rfl
      | node a b c => exact absurd ⟨a, b, c, rfl⟩ hn
  | cons d w ih =>
    cases t with
    | nil => obtain ⟨_, _, _, e⟩ := h; cases e
    | node l x r =>
      have h : isNode (if d = 108 then l.at w else if d = 114 then r.at w else none) := h
      have hn : ¬ isNode (if d = 108 then l.at (w ++ [c]) else if d = 114 then r.at (w ++ [c]) else none) := hn
      show (if d = 108 then l.at (w ++ [c]) else if d = 114 then r.at (w ++ [c]) else none) = _
      by_cases c1 : d = 108
      · rw [if_pos c1] at h hn ⊢; exact ih h hn
      · rw [if_neg c1] at h hn ⊢
        by_cases c2 : d = 114
        · rw [if_pos c2] at h hn ⊢; exact ih h hn
        · rw [if_neg c2] at h; obtain ⟨_, _, _, e⟩ := h; cases e
/-- the open paths below known ones, in the order of the known -/
def sidesOf (K : List (List Nat)) (q : List Nat) : List (List Nat) := [q ++ [108], q ++ [114]].filter fun p => decide (p ∉ K)
def opensOf (K : List (List Nat)) (L : List (List Nat)) : List (List Nat) := L.flatMap (sidesOf K)
theorem sides_mem {K : List (List Nat)} {q p : List Nat} : p ∈ sidesOf K q ↔ (∃ c, (c = 108 ∨ c = 114) ∧ p = q ++ [c]) ∧ p ∉ K := by
  unfold sidesOf
  rw [List.mem_filter, decide_eq_true_eq]
  constructor
  · rintro ⟨h, n⟩
    rcases List.mem_cons.mp h with rfl | h
    · exact ⟨⟨108, .inl rfl, rfl⟩, n⟩
    · rw [List.mem_singleton.mp h] at n ⊢
      exact ⟨⟨114, .inr rfl, rfl⟩, n⟩
  · rintro ⟨⟨c, rfl | rfl, rfl⟩, n⟩
    · exact ⟨List.mem_cons_self, n⟩
    · exact ⟨List.mem_cons_of_mem _ (List.mem_singleton.mpr rfl), n⟩
theorem opens_nodup (K : List (List Nat)) : ∀ {L : List (List Nat)}, L.Nodup → (opensOf K L).Nodup
  | [], _ => List.nodup_nil
  | q :: L, h => by
    obtain ⟨n1, n2⟩ := List.nodup_cons.mp h
    show (sidesOf K q ++ opensOf K L).Nodup
    refine List.nodup_append.mpr ⟨?_, opens_nodup K n2, fun a ha b hb e => ?_⟩
    · unfold sidesOf
      refine List.Nodup.sublist List.filter_sublist (List.nodup_cons.mpr ⟨fun z => ?_, List.nodup_cons.mpr ⟨by simp, List.nodup_nil⟩⟩)
      have := List.append_cancel_left (List.mem_singleton.mp z)
      cases this
    · obtain ⟨q2, hq2, hb⟩ := List.mem_flatMap.mp hb
      obtain ⟨⟨c, _, rfl⟩, _⟩ := sides_mem.mp ha
      obtain ⟨⟨d, _, e2⟩, _⟩ := sides_mem.mp hb
      rw [e2] at e
      have := (List.append_inj' e rfl).1
      exact n1 (this ▸ hq2)
theorem opens_open {t : B} {p : List Nat} (h : p ∈ opensOf ((t.steps .first []).map (·.1)) ((t.steps .first []).map (·.1))) : p ∈ t.op := by
  obtain ⟨q, hq, hp⟩ := List.mem_flatMap.mp h
  obtain ⟨⟨c, hc, rfl⟩, hn⟩ := sides_mem.mp hp
  obtain ⟨w, e, hw⟩ := (steps_mem t [] q).mp hq
  have e : q = w := e
  subst e
  exact (t.op_at _).mpr (at_child hw hc fun hn' => hn ((steps_mem t [] _).mpr ⟨q ++ [c], rfl, hn'⟩))
theorem opens_len (K : List (List Nat)) : ∀ L : List (List Nat), (opensOf K L).length ≤ 2 * L.length
  | [] => Nat.le_refl _
  | q :: L => by
    have h := opens_len K L
    have h2 : (sidesOf K q).length ≤ 2 := Nat.le_trans (List.length_filter_le _ _) (Nat.le_refl 2)
    show (sidesOf K q ++ opensOf K L).length ≤ 2 * (L.length + 1)
    rw [List.length_append]
    omega
theorem opens_words (K : List (List Nat)) {L : List (List Nat)} {n : Nat} (h : ∀ q ∈ L, q.length ≤ n) : ∀ p ∈ opensOf K L, p.length ≤ n + 1 := fun p hp => by
  obtain ⟨q, hq, hp⟩ := List.mem_flatMap.mp hp
  obtain ⟨⟨c, _, rfl⟩, _⟩ := sides_mem.mp hp
  have := h q hq
  rw [List.length_append]
  show q.length + 1 ≤ n + 1
  omega
/-! ### _law_nodes, _law_open -/
theorem iteS {x y : Str} {A B : Prop} (h : x = y) (a : A) : if decide (V.str x = V.str y) = true then A else B := by
  rw [if_pos (decide_eq_true (congrArg V.str h))]; exact a
theorem iteR {x y : Str} {A B : Prop} (h : x ≠ y) (b : B) : if decide (V.str x = V.str y) = true then A else B := by
  rw [if_neg (fun z => h (V.str.inj (of_decide_eq_true z)))]; exact b
theorem take_next {α : Type} {zs : List α} {i : Nat} {c : α} (h : zs[i]? = some c) : zs.take (i + 1) = zs.take i ++ [c] := by
  rw [List.take_succ, h]
  rfl
def spNodes (N : Nat) : Sp := fun vs H Q _ => ∃ (v : V) (t : B) (q : List Nat), vs = [v, vt q] ∧ BAt H v t ∧ t.size < N ∧ t.size + q.length ≤ 500 ∧
  ∀ (p : Addr) (us : List V) (H' : Hp), Same H H' → H' p = some (.lst us) → StAt H' us (t.steps .first q) → Q (.ref p) H'
theorem steps_words (t : B) : ∀ (q : List Nat), ∀ p ∈ (t.steps .first q).map (·.1), p.length ≤ q.length + t.size := by
  induction t with
  | nil => intro q p hp; cases hp
  | node l x r h1 h2 =>
    intro q p hp
    have hp : p ∈ ([(q, x)] ++ l.steps .first (q ++ [108]) ++ r.steps .first (q ++ [114])).map (·.1) := hp
    rw [List.map_append, List.map_append, List.mem_append, List.mem_append] at hp
    show p.length ≤ q.length + (l.size + 1 + r.size)
    rcases hp with (hp | hp) | hp
    · rw [List.mem_singleton.mp hp]
      show q.length ≤ _
      omega
    · have := h1 _ p hp
      rw [List.length_append] at this
      have e : [108].length = 1 := rfl
      omega
    · have := h2 _ p hp
      rw [List.length_append] at this
      have e : [114].length = 1 := rfl
      omega
theorem inV_texts (z : List Nat) (K : List (List Nat)) : inV (vt z) (K.map vt) = decide (z ∈ K) := by
  unfold inV
  by_cases h : z ∈ K
  · rw [decide_eq_true h, List.any_eq_true]
    exact ⟨vt z, List.mem_map.mpr ⟨z, h, rfl⟩, by show eqV (.str _) (.str _) = true; simp [eqV]⟩
  · rw [decide_eq_false h, Bool.eq_false_iff]
    intro e
    obtain ⟨y, hy, e⟩ := List.any_eq_true.mp e
    obtain ⟨k, hk, rfl⟩ := List.mem_map.mp hy
    have e : eqV (.str (tx k)) (.str (tx z)) = true := e
    simp only [eqV, beq_iff_eq] at e
    exact h (tx_inj e ▸ hk)
theorem flat_texts (K : List (List Nat)) : (K.map vt).all flatV = true := by
  rw [List.all_eq_true]
  intro x hx
  obtain ⟨k, _, rfl⟩ := List.mem_map.mp hx
  rfl
def spOpen : Sp := fun vs H Q _ => ∃ (v : V) (t : B), vs = [v] ∧ BAt H v t ∧ t.size ≤ 30 ∧
  ∀ (p : Addr) (H' : Hp), Same H H' → H p = none → H' p = some (.lst ((opensOf ((t.steps .first []).map (·.1)) ((t.steps .first []).map (·.1))).map vt)) → Q (.ref p) H'
section
variable {P : Program} {w : World} {K : PySem.W.Frag} {mg : Str → Option Value} {base : Heap} {f : Addr} {fd : FuncData}
theorem ok_nodes (F : Fun K "_law_nodes" "_law_nodes" s__law_nodes f fd) (b : Binds K fd ["_law_tree_here", "_law_path"] []) (g : mg "_law_nodes" = some (.ref f)) : ∀ N : Nat, FnOk P w K mg base CX0 N f fd ["_law_tree_here", "_law_path"] (spNodes N)
  | 0 => by
    have no : ∀ vs H Q E, ¬ spNodes 0 vs H Q E := fun vs H Q E h => by
      obtain ⟨v, t, q, _, _, h1, _⟩ := h
      omega
    exact ⟨fun vs H Q E h => absurd h (no vs H Q E), fun A outer s H args us vs Q E _ _ _ _ h => absurd h (no vs H Q E)⟩
  | N + 1 => by
    have Dself : Df P w K mg base N "_law_nodes" ["_law_tree_here", "_law_path"] (spNodes N) := ⟨f, fd, ok_nodes F b g N, b, F.kp, g⟩
    refine F.ok sc__law_nodes (fun vs H Q E h => ?_) (fun cdv A outer s H vs Q E hr h => ?_)
    · obtain ⟨v, t, q, rfl, _⟩ := h
      rfl
    obtain ⟨v, t, pth, rfl, hv, hn, hz, q⟩ := h
    refine ⟨_, (pss_cons (ps_if (pt_cmpR op_isN (pv 0) pe_non (nomark _))
      (pss_one (ps_ret (pe_lst pa_nil))) pss_nil)
    (pss_cons (ps_asg (pv 0) (pg_tup rfl (pgs_cons (pg_name (i := 2) sc__law_nodes.nd rfl (.inl rfl)) (pgs_cons (pg_name (i := 3) sc__law_nodes.nd rfl (.inl rfl)) (pgs_cons (pg_name (i := 4) sc__law_nodes.nd rfl (.inl rfl)) pgs_nil)))))
    (pss_one (ps_ret (pe_op op_cat (pe_op op_cat (pe_lst (pa_cons (pe_tup (pa_cons (pv 1) (pa_cons (pv 3) pa_nil))) pa_nil)) (pe_call Dself.ok (hr.mono (by omega)) rfl Dself.g Dself.kp Dself.b .nil pass0 (pa_cons (pv 2) (pa_cons (pe_op op_add_str (pv 1) pe_str) pa_nil)))) (pe_call Dself.ok (hr.mono (by omega)) rfl Dself.g Dself.kp Dself.b .nil pass0 (pa_cons (pv 4) (pa_cons (pe_op op_add_str (pv 1) pe_str) pa_nil)))))))), ?_⟩
    rcases hv.inv with ⟨rfl, rfl⟩ | ⟨a, l, r, x, tl, tr, rfl, rfl, ea, hl, hr'⟩
    · refine ⟨_, rfl, rfl, _, rfl, iteT ⟨(by show 0 ≤ sizeLine; decide), fun p np => ?_⟩⟩
      exact q p [] _ (same_new np _) upd_same .nil
    · refine ⟨_, rfl, rfl, _, rfl, iteF ?_⟩
      refine ⟨_, rfl, a, _, rfl, SqT.of ea, rfl, _, _, rfl, _, _, rfl, _, _, rfl, rfl, ?_⟩
      have sz : tl.size + 1 + tr.size < N + 1 := hn
      have sz2 : tl.size + 1 + tr.size + pth.length ≤ 500 := hz
      refine ⟨_, rfl, _, rfl, (by show 2 ≤ sizeLine; decide), fun tp ntp => ⟨(by show 1 ≤ sizeLine; decide), fun ro nro => ?_⟩⟩
      have q1 := same_new ntp (.tup [vt pth, .str (ch x)])
      have q2 := same_new nro (.lst [.ref tp])
      have etp := q2 _ _ (upd_same (H := H) (a := tp) (o := .tup [vt pth, .str (ch x)]))
      have ero := upd_same (H := upd H tp (.tup [vt pth, .str (ch x)])) (a := ro) (o := .lst [.ref tp])
      have s1 := q1.trans q2
      generalize upd (upd H tp (.tup [vt pth, .str (ch x)])) ro (.lst [.ref tp]) = H1 at etp ero s1
      refine ⟨_, rfl, _, rfl, _, _, rfl, rfl, ?_, ?_⟩
      · rw [str_l, tx_len, tx_len]; exact small (by show _ + 1 ≤ 1000; omega)
      rw [str_l, tx_app]
      refine ⟨l, tl, pth ++ [108], rfl, hl.same s1, by omega, by rw [List.length_append]; show _ + (_ + 1) ≤ 500; omega, fun lp ul H2 s2 elp stl => ?_⟩
      have ll := stl.len
      rw [B.steps_len] at ll
      have strt : StAt H2 [.ref tp] [(pth, x)] := .cons (s2 _ _ etp) .nil
      refine ⟨ro, lp, _, _, rfl, rfl, s2 _ _ ero, elp, small (by show 1 + _ ≤ 1000; omega), fun c1 n1 => ?_⟩
      have k1 := same_new n1 (.lst ([.ref tp] ++ ul))
      have s3 := (s1.trans s2).trans k1
      have st1 := (strt.app stl).same k1
      have ec1 := upd_same (H := H2) (a := c1) (o := .lst ([.ref tp] ++ ul))
      generalize upd H2 c1 (.lst ([.ref tp] ++ ul)) = H3 at s3 st1 ec1
      refine ⟨_, rfl, _, rfl, _, _, rfl, rfl, ?_, ?_⟩
      · rw [str_r, tx_len, tx_len]; exact small (by show _ + 1 ≤ 1000; omega)
      rw [str_r, tx_app]
      refine ⟨r, tr, pth ++ [114], rfl, hr'.same s3, by omega, by rw [List.length_append]; show _ + (_ + 1) ≤ 500; omega, fun rp ur H4 s4 erp str => ?_⟩
      have lr := str.len
      rw [B.steps_len] at lr
      refine ⟨c1, rp, _, _, rfl, rfl, s4 _ _ ec1, erp, small (by rw [List.length_append]; show 1 + _ + _ ≤ 1000; omega), fun c2 n2 => ?_⟩
      have k2 := same_new n2 (.lst ([.ref tp] ++ ul ++ ur))
      exact q c2 _ _ ((s3.trans s4).trans k2) upd_same (((st1.same s4).app str).same k2)
theorem ok_open (F : Fun K "_law_open" "_law_open" s__law_open f fd) (D_law_nodes : Df P w K mg base 40 "_law_nodes" ["_law_tree_here", "_law_path"] (spNodes 40)) : FnOk P w K mg base CX0 41 f fd ["_law_tree_here"] spOpen := by
  refine F.ok sc__law_open (fun vs H Q E h => ?_) (fun cdv A outer s H vs Q E hr h => ?_)
  · obtain ⟨v, t, rfl, _⟩ := h
    rfl
  obtain ⟨v, t, rfl, hv, hz, q⟩ := h
  refine ⟨_, (pss_cons (ps_set (i := 3) sc__law_open.nd rfl (.inr rfl) (pe_lc (own := [("_law_path", 1), ("_law_label", 2)]) (g := gTup K 2 (gCons (gName 1) (gCons (gName 2) gNil))) (tt := tYes) rfl sc__law_open.nd (pi_list (pe_call D_law_nodes.ok (hr.mono (by omega)) rfl D_law_nodes.g D_law_nodes.kp D_law_nodes.b .nil pass0 (pa_cons (pv 0) (pa_cons pe_str pa_nil)))) (blkOk_by (N := ["_law_tree_here", "_law_path", "_law_label", "_law_known", "_law_found", "_law_side"]) (sc := defScope s__law_open) (by decide +kernel)) (fun _ _ _ _ _ => (pg_tup rfl (pgs_cons (pg_name (i := 1) sc__law_open.nd rfl (.inl rfl)) (pgs_cons (pg_name (i := 2) sc__law_open.nd rfl (.inl rfl)) pgs_nil)))) (fun _ _ _ _ _ => pts_nil) (fun _ _ _ _ _ => (pv 1))))
    (pss_cons (ps_set (i := 4) sc__law_open.nd rfl (.inl rfl) (pe_lst pa_nil))
    (pss_cons (ps_for PassesOwn.never rfl (pi_list (pv 3)) (pg_name (i := 1) sc__law_open.nd rfl (.inr rfl))
      (pss_one (ps_expr (pe_bm PySem.F.plainAttrs_list PySem.F.slot_list_extend PySem.F.type_list_extend mt_extend (pv 4) (pa_cons (pe_lc (own := [("_law_side", 5)]) (g := gName 5) rfl sc__law_open.nd (pi_str pe_str) (blkOk_by (N := ["_law_tree_here", "_law_path", "_law_label", "_law_known", "_law_found", "_law_side"]) (sc := defScope s__law_open) (by decide +kernel)) (fun _ _ _ _ _ => (pg_name (i := 5) sc__law_open.nd rfl (.inl rfl))) (fun _ _ _ _ _ => pts_one (pt_cmpR (show OpR _ (compareOp .NotIn) (rIn K true) from op_notIn_seq) (pe_op op_add_str (pv 1) (pv 5)) (pv 3) (by rfl))) (fun _ _ _ _ _ => (pe_op op_add_str (pv 1) (pv 5)))) pa_nil)))))
    (pss_one (ps_ret (pv 4)))))), ?_⟩
  have wd := steps_words t []
  have wl : ((t.steps .first []).map (·.1)).length = t.size := by rw [List.length_map, B.steps_len]
  generalize hPs : (t.steps .first []).map (·.1) = Ps at q wd wl
  refine ⟨_, rfl, v, t, [], by rw [str_0]; rfl, hv, by omega, by show t.size + 0 ≤ 500; omega, fun p us H1 s1 ep st => ?_⟩
  refine ⟨p, rfl, ⟨_, SqL.of ep⟩, fun D nD => ?_⟩
  have k1 := same_new nD (.lst [])
  have hl := st.len
  rw [B.steps_len] at hl
  refine lc_list (K := K) (a := p) (xs := us) (fun i H' => Same H1 H' ∧ H' D = some (.lst ((Ps.take i).map vt))) ⟨k1, upd_same⟩ (fun i H' _ hp => SqL.of (hp.1 _ _ ep)) (fun i x H' hx hp => ?_) (fun H2 hp => ?_)
  · obtain ⟨sm, ed⟩ := hp
    obtain ⟨a, pq, c, rfl, es, ea⟩ := st.get hx
    have hc : Ps[i]? = some pq := by rw [← hPs, List.getElem?_map, es]; rfl
    have hi := (List.getElem?_eq_some_iff.mp hx).1
    refine ⟨a, _, rfl, SqT.of (sm _ _ ea), rfl, _, _, rfl, _, _, rfl, rfl, rfl, kept ?_⟩
    refine ⟨_, rfl, _, ed, ?_, fun b o e => ?_, ?_⟩
    · rw [List.length_map, List.length_take]; exact small1000 (by omega)
    · rw [upd_ne (ne_of_none e nD)]; exact sm _ _ e
    · rw [upd_same, take_next hc, List.map_append]; rfl
  · obtain ⟨sm, ed⟩ := hp
    rw [List.take_of_length_le (by omega)] at ed
    refine ⟨(by show 0 ≤ sizeLine; decide), fun fa nfa => ?_⟩
    have k2 := same_new nfa (.lst [])
    have nDf : D ≠ fa := ne_of_none ed nfa
    have s2 := (s1.trans sm).trans k2
    have ed2 := k2 _ _ ed
    have nfaH : H fa = none := by
      cases z : H fa with
      | none => rfl
      | some o => rw [(s1.trans sm) _ _ z] at nfa; cases nfa
    have efa := upd_same (H := H2) (a := fa) (o := .lst [])
    generalize upd H2 fa (.lst []) = H3 at s2 ed2 efa
    refine ⟨_, rfl, D, rfl, ⟨_, SqL.of ed2⟩, ?_⟩
    refine for_list (K := K) (a := D) (xs := Ps.map vt) (fun i σ H' => ∃ o1, σ = [some v, o1, none, some (.ref D), some (.ref fa), none] ∧ Same H H' ∧ H' D = some (.lst (Ps.map vt)) ∧ H' fa = some (.lst ((opensOf Ps (Ps.take i)).map vt))) ⟨_, rfl, s2, ed2, efa⟩ (fun i σ H' _ hp => by obtain ⟨_, _, _, h, _⟩ := hp; exact SqL.of h) (fun i x σ H' hx hp => ?_) (fun σ H' hp => ?_)
    · obtain ⟨o1, rfl, s', eD', ef'⟩ := hp
      rw [List.getElem?_map] at hx
      obtain ⟨pq, hpq, rfl⟩ := Option.map_eq_some_iff.mp hx
      have hi := (List.getElem?_eq_some_iff.mp hpq).1
      have pl := wd pq (List.mem_of_getElem? hpq)
      have pl : pq.length ≤ 30 := by
        have e : ([] : List Nat).length = 0 := rfl
        omega
      refine ⟨_, rfl, .inl ⟨rfl, _, SqL.of ef'⟩, _, rfl, fun L nL => ?_⟩
      have k4 := same_new nL (.lst [])
      have elr : (Str.ofString "lr").cps.toList = [108, 114] := by decide +kernel
      refine lc_text (x := Str.ofString "lr") (fun j H'' => Same H' H'' ∧ H'' L = some (.lst ((([pq ++ [108], pq ++ [114]].take j).filter fun p => decide (p ∉ Ps)).map vt))) ⟨k4, upd_same⟩ (fun j c H'' hc hp => ?_) (fun H'' hp => ?_)
      · obtain ⟨s5, eL⟩ := hp
        rw [elr] at hc
        have hj : j < 2 := (List.getElem?_eq_some_iff.mp hc).1
        have hcj : [pq ++ [108], pq ++ [114]][j]? = some (pq ++ [c]) := by
          match j, hj, hc with
          | 0, _, hc => cases hc; rfl
          | 1, _, hc => cases hc; rfl
        have ec : tx pq ++ ch c = tx (pq ++ [c]) := tx_app pq [c]
        have szc : (tx pq).length + (ch c).length ≤ sizeLine := small (by rw [tx_len]; show _ + 1 ≤ 1000; omega)
        refine ⟨rfl, ?_⟩
        refine ⟨_, rfl, _, rfl, _, _, rfl, rfl, szc, ?_⟩
        rw [ec]
        refine ⟨_, rfl, D, _, rfl, .inl (SqL.of (s5 _ _ eD')), rfl, flat_texts Ps, _, rfl, ?_⟩
        rw [if_pos rfl, inV_texts, take_next hcj, List.filter_append]
        by_cases hm : pq ++ [c] ∈ Ps
        · rw [decide_eq_true hm, List.filter_cons_of_neg (by simpa using hm), List.filter_nil, List.append_nil]
          exact iteF ⟨s5, eL⟩
        · rw [decide_eq_false hm, List.filter_cons_of_pos (by simpa using hm), List.filter_nil]
          refine iteT ⟨_, rfl, _, rfl, _, _, rfl, rfl, szc, ?_⟩
          rw [ec]
          refine ⟨_, eL, ?_, fun b o e => ?_, ?_⟩
          · rw [List.length_map]
            exact Nat.lt_of_le_of_lt (Nat.le_trans (List.length_filter_le _ _) (Nat.le_trans (List.length_take_le _ _) (by show j ≤ 2; omega))) (by decide)
          · rw [upd_ne (ne_of_none e nL)]; exact s5 _ _ e
          · rw [upd_same, List.map_append]; rfl
      · obtain ⟨s5, eL⟩ := hp
        have eL : H'' L = some (.lst ((sidesOf Ps pq).map vt)) := by
          rw [eL, elr]
          rfl
        have ol := opens_len Ps (Ps.take i)
        rw [List.length_take] at ol
        have sl : (sidesOf Ps pq).length ≤ 2 := Nat.le_trans (List.length_filter_le _ _) (Nat.le_refl 2)
        have eD5 := s5 _ _ eD'
        have ef5 := s5 _ _ ef'
        refine ⟨fa, L, _, _, rfl, rfl, ef5, eL, ?_, _, rfl, fun b o e => ?_, ?_, ?_⟩
        · rw [List.length_map, List.length_map]; exact small (by omega)
        · rw [upd_ne (ne_of_none e nfaH)]; exact s5 _ _ (s' _ _ e)
        · rw [upd_ne nDf]; exact eD5
        · rw [upd_same, take_next hpq]
          unfold opensOf
          rw [List.flatMap_append, List.map_append]
          show _ = some (HO.lst (_ ++ List.map vt (sidesOf Ps pq ++ [])))
          rw [List.append_nil]
    · obtain ⟨o1, rfl, s', eD', ef'⟩ := hp
      rw [List.length_map, List.take_length] at ef'
      exact ⟨_, rfl, q fa H' s' nfaH ef'⟩
end
/-! ### sorted(xs), xs a list of (text, int) -/
section
variable {X : Cx}
def shTI : Nat → Bool := fun i => i == 0
def rSortTI (K : PySem.W.Frag) : List V → Hp → VK → Prop := fun vs H Q => ∃ (a : Addr) (xs : List V), vs = [V.ref a] ∧ SqL K H a xs ∧ (∀ x ∈ xs, ∃ (t : Addr) (k : Str) (i : Int), x = .ref t ∧ H t = some (.tup [.str k, .int i])) ∧
  ∀ (ys : List V) (p : Addr), ys.Perm xs → H p = none → Q (.ref p) (upd H p (.lst ys))
theorem tups_of {h : Heap} {shape : Nat → Bool} : ∀ {vs : List Value}, (∀ v ∈ vs, ∃ f, PyProof.Rows.TupOf h shape v f) → ∃ fs, PyProof.Rows.TupsOf h shape vs fs
  | [], _ => ⟨[], .nil⟩
  | v :: vs, H => by
    obtain ⟨f, hf⟩ := H v List.mem_cons_self
    obtain ⟨fs, hfs⟩ := tups_of (vs := vs) fun u hu => H u (List.mem_cons_of_mem _ hu)
    exact ⟨f :: fs, .cons hf hfs⟩
theorem cr_sortTI : CallR X (.builtin "sorted") (rSortTI X.K) := by
  intro pins s σ H vs us Q I r h
  obtain ⟨a, xs, rfl, hs, hx, q⟩ := h
  obtain ⟨its, rv, hl, hz⟩ := I.list hs
  obtain ⟨u, rfl, ru⟩ := vals1 r
  obtain rfl : u = Value.ref a := ru
  obtain ⟨e1, e2⟩ := refs_back rv fun x m => by
    obtain ⟨t, _, _, e, _⟩ := hx x m
    exact ⟨t, e⟩
  have raw : ∀ v ∈ its, ∃ (t : Addr) (o : Obj) (k : Str) (i : Int) (t1 t2 : Tok) (n : Nat), v = .ref t ∧ s.heap.get? t = some o ∧ o.cls = .type "tuple" ∧ o.data = .seq #[.str k t1, .int i t2] n := fun v hv => by
    obtain ⟨t, rfl⟩ := e2 v hv
    have hm : V.ref t ∈ xs := by rw [e1]; exact List.mem_map.mpr ⟨_, hv, rfl⟩
    obtain ⟨t', k, i, e, ht⟩ := hx _ hm
    cases e
    obtain ⟨_, its2, r2, o, ho, hc, n, hd⟩ := I.hok _ _ ht
    obtain ⟨u1, u2, rfl, ri, rj⟩ := vals2 r2
    obtain ⟨t1, rfl⟩ := ri
    obtain ⟨t2, rfl⟩ := rj
    exact ⟨t, o, k, i, t1, t2, n, rfl, ho, hc, hd⟩
  obtain ⟨fs, hfs⟩ := tups_of (h := s.heap) (shape := shTI) (vs := its) fun v hv => by
    obtain ⟨t, o, k, i, t1, t2, n, rfl, ho, hc, hd⟩ := raw v hv
    exact ⟨.str k t1, t, o, _, n, rfl, ho, hc, hd, rfl, (fun e => absurd e (by decide)), fun _ => ⟨k, t1, rfl⟩⟩
  refine PyProof.Rows.G.sorted_tups (shape := shTI) hl.isList hfs (fun v hv => ?_) (by rw [← rv.length]; exact hz) fun st' hp _ _ => ?_
  · obtain ⟨t, o, k, i, t1, t2, n, rfl, ho, hc, hd⟩ := raw v hv
    exact ⟨[Sum.inr k.cps.toList, Sum.inl i], PyProof.Rows.G.tupKeyC_of ho hc hd rfl⟩
  · generalize hout : (arrOf st').map (·.2) = out
    have hp' : out.toList.Perm its := by
      rw [← hout, Array.toList_map]
      have e := (Array.perm_iff_toList_perm.mp hp).map Prod.snd
      rw [pairsOf_toList, List.map_snd_zip (Nat.le_refl _)] at e
      exact e
    have h3 : ∀ u ∈ out.toList, ∃ a, u = Value.ref a := fun u hu => e2 u (hp'.mem_iff.mp hu)
    obtain ⟨ep, he'⟩ := PyProof.Rows.sortedAll_at s.heap its out
    have hpp : (out.toList.map backV).Perm xs := by rw [e1]; exact hp'.map backV
    have hlen : (out.toList.map backV).length ≤ sizeLine := by rw [hpp.length_eq]; exact hz
    exact ⟨.ref _, upd H (s.heap.objs.size + 1) (.lst (out.toList.map backV)), I.laid (t' := s.toks) (fun _ _ => PyProof.Rows.sortedAll_old) (Nat.le_succ _) ⟨hlen, out.toList, ep, vals_back h3, he'⟩, rfl, q _ _ hpp (I.hok.fresh (Nat.le_succ _))⟩
end
/-! ### nests, _law_nest -/
abbrev Lk := List Nat × Nat
abbrev En := B × List Lk
inductive LkAt (H : Hp) : List V → List Lk → Prop
  | nil : LkAt H [] []
  | cons {a : Addr} {p : List Nat} {i : Nat} {vs : List V} {ls : List Lk} : H a = some (.tup [vt p, .int (i : Int)]) → LkAt H vs ls → LkAt H (.ref a :: vs) ((p, i) :: ls)
theorem LkAt.keep {H H' : Hp} (k : KeepT H H') {vs : List V} {ls : List Lk} (h : LkAt H vs ls) : LkAt H' vs ls := by
  induction h with
  | nil => exact .nil
  | cons e _ ih => exact .cons (k _ _ e) ih
theorem LkAt.len {H : Hp} {vs : List V} {ls : List Lk} (h : LkAt H vs ls) : vs.length = ls.length := by
  induction h with
  | nil => rfl
  | cons _ _ ih => rw [List.length_cons, List.length_cons, ih]
theorem LkAt.snoc {H : Hp} {vs : List V} {ls : List Lk} (h : LkAt H vs ls) {a : Addr} {p : List Nat} {i : Nat} (e : H a = some (.tup [vt p, .int (i : Int)])) : LkAt H (vs ++ [.ref a]) (ls ++ [(p, i)]) := by
  induction h with
  | nil => exact .cons e .nil
  | cons e' _ ih => exact .cons e' ih
theorem LkAt.mem {H : Hp} {vs : List V} {ls : List Lk} (h : LkAt H vs ls) : ∀ x ∈ vs, ∃ (t : Addr) (k : Str) (i : Int), x = .ref t ∧ H t = some (.tup [.str k, .int i]) := by
  induction h with
  | nil => intro x hx; cases hx
  | @cons a p i _ _ e _ ih =>
    intro x hx
    rcases List.mem_cons.mp hx with rfl | hx
    · exact ⟨a, _, _, rfl, e⟩
    · exact ih x hx
theorem LkAt.perm {H : Hp} {vs us : List V} (p : us.Perm vs) : ∀ {ls : List Lk}, LkAt H vs ls → ∃ ks, LkAt H us ks ∧ ks.Perm ls := by
  induction p with
  | nil => intro ls h; exact ⟨ls, h, .refl _⟩
  | cons x _ ih =>
    intro ls h
    cases h with
    | cons e h =>
      obtain ⟨ks, h1, h2⟩ := ih h
      exact ⟨_, .cons e h1, h2.cons _⟩
  | swap x y l =>
    intro ls h
    cases h with
    | cons e h =>
      cases h with
      | cons e' h => exact ⟨_, .cons e' (.cons e h), .swap _ _ _⟩
  | trans _ _ ih1 ih2 =>
    intro ls h
    obtain ⟨k1, a1, b1⟩ := ih2 h
    obtain ⟨k2, a2, b2⟩ := ih1 a1
    exact ⟨k2, a2, b2.trans b1⟩
inductive EnAt (H : Hp) : List V → List En → Prop
  | nil : EnAt H [] []
  | cons {a la : Addr} {tv : V} {us : List V} {t : B} {ls : List Lk} {vs : List V} {es : List En} : H a = some (.tup [tv, .ref la]) → BAt H tv t → H la = some (.tup us) → LkAt H us ls → EnAt H vs es → EnAt H (.ref a :: vs) ((t, ls) :: es)
theorem EnAt.keep {H H' : Hp} (k : KeepT H H') {vs : List V} {es : List En} (h : EnAt H vs es) : EnAt H' vs es := by
  induction h with
  | nil => exact .nil
  | cons e1 e2 e3 e4 _ ih => exact .cons (k _ _ e1) (e2.keep k) (k _ _ e3) (e4.keep k) ih
theorem EnAt.len {H : Hp} {vs : List V} {es : List En} (h : EnAt H vs es) : vs.length = es.length := by
  induction h with
  | nil => rfl
  | cons _ _ _ _ _ ih => rw [List.length_cons, List.length_cons, ih]
theorem EnAt.snoc {H : Hp} {vs : List V} {es : List En} (h : EnAt H vs es) {a la : Addr} {tv : V} {us : List V} {t : B} {ls : List Lk} (e1 : H a = some (.tup [tv, .ref la])) (e2 : BAt H tv t) (e3 : H la = some (.tup us)) (e4 : LkAt H us ls) :
    EnAt H (vs ++ [.ref a]) (es ++ [(t, ls)]) := by
  induction h with
  | nil => exact .cons e1 e2 e3 e4 .nil
  | cons a1 a2 a3 a4 _ ih => exact .cons a1 a2 a3 a4 ih
structure GoodE (lim n : Nat) (e : En) : Prop where
  s1 : 1 ≤ e.1.size
  s2 : e.1.size ≤ lim
  lt : ltB e.1
  nd : (e.2.map (·.1)).Nodup
  op : ∀ l ∈ e.2, l.1 ∈ e.1.op
  ix : ∀ l ∈ e.2, l.2 < n
def GoodN (lim : Nat) (es : List En) : Prop := ∀ i e, es[i]? = some e → GoodE lim i e
theorem GoodN.snoc {lim : Nat} {es : List En} (h : GoodN lim es) {e : En} (g : GoodE lim es.length e) : GoodN lim (es ++ [e]) := by
  intro i x hx
  rw [List.getElem?_append] at hx
  split at hx
  · exact h i x hx
  · rename_i hi
    have h0 : i - es.length = 0 := by
      have := (List.getElem?_eq_some_iff.mp hx).1
      rw [List.length_cons, List.length_nil] at this
      omega
    rw [h0] at hx
    cases hx
    have : i = es.length := by omega
    rw [this]
    exact g
theorem perm_vt {zs : List V} {P : List (List Nat)} (h : zs.Perm (P.map vt)) : ∃ Z : List (List Nat), zs = Z.map vt ∧ Z.Perm P := by
  generalize hL : P.map vt = L at h
  induction h generalizing P with
  | nil => exact ⟨[], rfl, by rw [List.map_eq_nil_iff.mp hL]⟩
  | cons x _ ih =>
    cases P with
    | nil => cases hL
    | cons p P =>
      cases hL
      obtain ⟨Z, rfl, pz⟩ := ih rfl
      exact ⟨p :: Z, rfl, pz.cons p⟩
  | swap x y l =>
    match P, hL with
    | p :: p' :: P, hL =>
      cases hL
      exact ⟨p' :: p :: P, rfl, .swap _ _ _⟩
  | trans _ _ ih1 ih2 =>
    obtain ⟨Z, rfl, pz⟩ := ih2 hL
    obtain ⟨Z', rfl, pz'⟩ := ih1 rfl
    exact ⟨Z', rfl, pz'.trans pz⟩
def spNest : Sp := fun vs H Q _ => ∃ (D : Deck) (n ent lim : Nat) (few : Int), vs = [.ref D.dk, .int (ent : Int), .int (lim : Int), .int few] ∧ DeckOk H D n ∧ n + 4000 ≤ 1000000 ∧ 1 ≤ ent ∧ ent ≤ 20 ∧ 1 ≤ lim ∧ lim ≤ 12 ∧
  ∀ (p : Addr) (us : List V) (es : List En) (n' : Nat) (H' : Hp), DeckOk H' D n' → n' ≤ n + 4000 → SameD D H H' → H' p = some (.tup us) → EnAt H' us es → GoodN lim es → 1 ≤ es.length → es.length ≤ ent → Q (.ref p) H'
section
variable {P : Program} {w : World} {K : PySem.W.Frag} {mg : Str → Option Value} {base : Heap} {f : Addr} {fd : FuncData}
theorem ok_nest (F : Fun K "_law_nest" "_law_nest" s__law_nest f fd) (M : Mgs mg) (D_law_draw : Df P w K mg base 1 "_law_draw" ["_law_deck_here", "_law_many"] spDraw) (D_law_pick : Df P w K mg base 2 "_law_pick" ["_law_deck_here", "_law_items"] (spPick K)) (D_law_mixed : Df P w K mg base 2 "_law_mixed" ["_law_deck_here", "_law_items"] spMixed)
    (D_law_drawn_tree : Df P w K mg base 34 "_law_drawn_tree" ["_law_deck_here", "_law_limit"] spDrawn) (D_law_open : Df P w K mg base 41 "_law_open" ["_law_tree_here"] spOpen) : FnOk P w K mg base CX0 42 f fd ["_law_deck_here", "_law_entries", "_law_limit", "_law_few"] spNest := by
  refine F.ok sc__law_nest (fun vs H Q E h => ?_) (fun cdv A outer s H vs Q E hr h => ?_)
  · obtain ⟨D, n, ent, lim, few, rfl, _⟩ := h
    rfl
  obtain ⟨D, n, ent, lim, few, rfl, d, hn, e1, e20, m1, m12, q⟩ := h
  refine ⟨_, (pss_cons (ps_set (i := 4) sc__law_nest.nd rfl (.inl rfl) (pe_lst pa_nil))
    (pss_cons (ps_for PassesOwn.never rfl (pi_range1 rfl M.range (pa_cons (pe_op op_add pe_int (pe_call D_law_draw.ok (hr.mono (by omega)) rfl D_law_draw.g D_law_draw.kp D_law_draw.b .nil pass0 (pa_cons (pv 0) (pa_cons (pv 1) pa_nil)))) pa_nil)) (pg_name (i := 5) sc__law_nest.nd rfl (.inl rfl))
      (pss_cons (ps_set (i := 6) sc__law_nest.nd rfl (.inl rfl) (pe_call D_law_drawn_tree.ok (hr.mono (by omega)) rfl D_law_drawn_tree.g D_law_drawn_tree.kp D_law_drawn_tree.b .nil pass0 (pa_cons (pv 0) (pa_cons (pv 2) pa_nil))))
    (pss_cons (ps_set (i := 7) sc__law_nest.nd rfl (.inl rfl) (pe_lst pa_nil))
    (pss_cons (ps_for PassesOwn.never rfl (pi_list (pe_call D_law_mixed.ok (hr.mono (by omega)) rfl D_law_mixed.g D_law_mixed.kp D_law_mixed.b .nil pass0 (pa_cons (pv 0) (pa_cons (pe_call D_law_open.ok (hr.mono (by omega)) rfl D_law_open.g D_law_open.kp D_law_open.b .nil pass0 (pa_cons (pv 6) pa_nil)) pa_nil)))) (pg_name (i := 8) sc__law_nest.nd rfl (.inl rfl))
      (pss_cons (ps_set (i := 9) sc__law_nest.nd rfl (.inl rfl) (pe_call D_law_pick.ok (hr.mono (by omega)) rfl D_law_pick.g D_law_pick.kp D_law_pick.b .nil pass0 (pa_cons (pv 0) (pa_cons (pe_lst (pa_cons (pe_op op_sub (pv 5) pe_int) (pa_cons (pe_op op_sub (pe_call D_law_draw.ok (hr.mono (by omega)) rfl D_law_draw.g D_law_draw.kp D_law_draw.b .nil pass0 (pa_cons (pv 0) (pa_cons (pe_op op_add (pv 5) pe_int) pa_nil))) pe_int) pa_nil))) pa_nil))))
    (pss_one (ps_if (PW.pt (pw_and (pt_cmpR op_ge (pv 9) pe_int (nomark _)) (pw_and1 (pt_cmpR op_ge (pe_call D_law_draw.ok (hr.mono (by omega)) rfl D_law_draw.g D_law_draw.kp D_law_draw.b .nil pass0 (pa_cons (pv 0) (pa_cons pe_int pa_nil))) (pv 3) (nomark _)))))
      (pss_one (ps_expr (pe_bm PySem.F.plainAttrs_list PySem.F.slot_list_append PySem.F.type_list_append mt_append (pv 7) (pa_cons (pe_tup (pa_cons (pv 8) (pa_cons (pv 9) pa_nil))) pa_nil)))) pss_nil))))
    (pss_one (ps_expr (pe_bm PySem.F.plainAttrs_list PySem.F.slot_list_append PySem.F.type_list_append mt_append (pv 4) (pa_cons (pe_tup (pa_cons (pv 6) (pa_cons (pe_callTy call_tuple_of rfl M.tuple (by decide +kernel) (pa_cons (pe_callB cr_sortTI rfl M.sorted (by decide +kernel) (pa_cons (pv 7) pa_nil)) pa_nil)) pa_nil))) pa_nil))))))))
    (pss_one (ps_ret (pe_callTy call_tuple_of rfl M.tuple (by decide +kernel) (pa_cons (pv 4) pa_nil)))))), ?_⟩
  refine ⟨(by show 0 ≤ sizeLine; decide), fun pf npf => ?_⟩
  have k1 := same_new npf (.lst [])
  have of := d.new npf
  have ef := upd_same (H := H) (a := pf) (o := .lst [])
  have d1 := d.same k1
  generalize upd H pf (.lst []) = H1 at k1 ef d1 ⊢
  refine ⟨_, rfl, _, rfl, D, n, _, rfl, d1, by omega, by omega, by omega, fun i H2 i0 i1 d2 s2 => ?_⟩
  refine ⟨_, _, rfl, rfl, _, rfl, by omega, by omega, ?_⟩
  refine for_range (lo := 0) (n := (1 + i).toNat) (fun k σ H' => ∃ (us : List V) (es : List En) (n' : Nat) (o5 o6 o7 o8 o9 : Option V), σ = [some (.ref D.dk), some (.int (ent : Int)), some (.int (lim : Int)), some (.int few), some (.ref pf), o5, o6, o7, o8, o9] ∧
    DeckOk H' D n' ∧ n' ≤ n + 1 + 150 * k ∧ SameD D H H' ∧ H' pf = some (.lst us) ∧ EnAt H' us es ∧ GoodN lim es ∧ es.length = k) ⟨[], [], n + 1, _, _, _, _, _, rfl, d2, by omega, (SameD.of k1).trans s2, s2.at of ef, .nil, (fun i e h => by cases h), rfl⟩ (fun k σ H3 hk hp => ?_) (fun σ H3 hp => ?_)
  · obtain ⟨us, es, n3, o5, o6, o7, o8, o9, rfl, d3, n3b, s3, ef3, en3, g3, l3⟩ := hp
    have hk20 : k < 20 := by omega
    refine ⟨_, rfl, _, rfl, D, n3, lim, rfl, d3, by omega, m1, by omega, fun tv t n4 H4 d4 n4b s4 at4 z1 z2 ltb => ?_⟩
    refine ⟨(by show 0 ≤ sizeLine; decide), fun pl npl => ?_⟩
    have k5 := same_new npl (.lst [])
    have ol := d4.new npl
    have el := upd_same (H := H4) (a := pl) (o := .lst [])
    have d5 := d4.same k5
    have at5 := at4.same k5
    have s5 := (s3.trans s4).trans (SameD.of k5)
    have nplH : H pl = none := (s3.trans s4).free d4 npl
    have nfl : pf ≠ pl := ne_of_none (s4.at of ef3) npl
    have ef5 : upd H4 pl (.lst []) pf = some (.lst us) := k5 _ _ (s4.at of ef3)
    have en5 : EnAt (upd H4 pl (.lst [])) us es := (en3.keep (s4.keepT d3)).keep (Tw.Same.keepT k5)
    generalize upd H4 pl (.lst []) = H5 at k5 el d5 at5 s5 ef5 en5 ⊢
    have ndO := opens_nodup ((t.steps .first []).map (·.1)) (steps_nodup t [])
    have lenO := opens_len ((t.steps .first []).map (·.1)) ((t.steps .first []).map (·.1))
    rw [List.length_map, B.steps_len] at lenO
    have opO := fun p => @opens_open t p
    refine ⟨_, rfl, _, rfl, tv, t, rfl, at5, by omega, fun po H6 s6 npo epo => ?_⟩
    generalize opensOf ((t.steps .first []).map (·.1)) ((t.steps .first []).map (·.1)) = O at ndO lenO opO epo
    have d6 := d5.same s6
    have oo : Off D po := by
      refine d5.new npo
    refine ⟨D, n4, po, _, rfl, d6, by rw [List.length_map]; omega, epo, oo, by rw [List.length_map]; omega, fun pm zs H7 d7 s7 npm epm perm om => ?_⟩
    rw [List.length_map] at d7
    obtain ⟨Z, rfl, pz⟩ := perm_vt perm
    have zl := pz.length_eq
    have s67 := (SameD.of (D := D) s6).trans s7
    have nlm : pl ≠ pm := ne_of_none (s6 _ _ el) npm
    refine ⟨pm, rfl, ⟨_, SqL.of epm⟩, ?_⟩
    refine for_list (K := K) (a := pm) (xs := Z.map vt) (fun j σ H' => ∃ (vs : List V) (ls : List Lk) (n' : Nat) (o8 o9 : Option V), σ = [some (.ref D.dk), some (.int (ent : Int)), some (.int (lim : Int)), some (.int few), some (.ref pf), some (.int (0 + (k : Int))), some tv, some (.ref pl), o8, o9] ∧
      DeckOk H' D n' ∧ n' ≤ n4 + O.length + 3 * j ∧ SameD D H H' ∧ KeepT H5 H' ∧ H' pm = some (.lst (Z.map vt)) ∧ H' pf = some (.lst us) ∧ H' pl = some (.lst vs) ∧ LkAt H' vs ls ∧ ls.length ≤ j ∧ (ls.map (·.1)).Sublist (Z.take j) ∧ ∀ l ∈ ls, l.2 < k)
      ⟨[], [], _, _, _, rfl, d7, by omega, s5.trans s67, s67.keepT d5, epm, s67.at of ef5, s67.at ol el, .nil, Nat.le_refl 0, .slnil, (fun l hl => by cases hl)⟩ (fun j σ H' _ hp => by obtain ⟨_, _, _, _, _, _, _, _, _, _, h, _⟩ := hp; exact SqL.of h) (fun j x σ H8 hx hp => ?_) (fun σ H8 hp => ?_)
    · obtain ⟨vs, ls, n8, o8, o9, rfl, d8, n8b, s8, kt8, em8, ef8, el8, lk8, ll8, sb8, ix8⟩ := hp
      rw [List.getElem?_map] at hx
      obtain ⟨pq, hpq, rfl⟩ := Option.map_eq_some_iff.mp hx
      have hj := (List.getElem?_eq_some_iff.mp hpq).1
      refine ⟨_, rfl, _, rfl, _, _, rfl, rfl, _, rfl, _, rfl, _, _, rfl, rfl, D, n8, _, rfl, d8, by omega, by omega, by omega, fun r H9 r0 r1 d9 s9 => ?_⟩
      refine ⟨_, _, rfl, rfl, (by show 2 ≤ sizeLine; decide), fun pi npi => ?_⟩
      have k9 := same_new npi (.lst [.int (0 + (k : Int) - 1), .int (r - 1)])
      refine ⟨D, n8 + 1, _, rfl, d9.same k9, by omega, .inr ⟨pi, _, rfl, upd_same, d9.new npi, List.cons_ne_nil _ _, (by show 2 ≤ 60; decide), fun x H10 hx d10 s10 => ?_⟩⟩
      obtain ⟨ix, rfl, ix0, ix1⟩ : ∃ ix : Int, x = .int ix ∧ -1 ≤ ix ∧ ix < (k : Int) := by
        rcases List.mem_cons.mp hx with rfl | hx
        · exact ⟨_, rfl, by omega, by omega⟩
        · rw [List.mem_singleton.mp hx]
          exact ⟨_, rfl, by omega, by omega⟩
      have s10' := (s9.trans (SameD.of k9)).trans s10
      have tk : Z.take (j + 1) = Z.take j ++ [pq] := take_next hpq
      refine ⟨_, rfl, _, _, rfl, rfl, _, rfl, ?_⟩
      by_cases hix : ix ≥ 0
      · rw [decide_eq_true hix]
        refine iteT ⟨_, rfl, D, n8 + 2, 4, rfl, d10, by omega, by decide, by decide, fun r2 H11 _ _ d11 s11 => ?_⟩
        have sA := s10'.trans s11
        refine ⟨_, rfl, _, _, rfl, rfl, _, rfl, ?_⟩
        by_cases hf : r2 ≥ few
        · rw [decide_eq_true hf]
          refine iteT ?_
          have el11 := sA.at ol el8
          refine ⟨_, rfl, .inl ⟨rfl, _, SqL.of el11⟩, _, rfl, _, rfl, (by show 2 ≤ sizeLine; decide), fun pt npt => ?_⟩
          have k12 := same_new npt (.tup [vt pq, .int ix])
          have et := upd_same (H := H11) (a := pt) (o := .tup [vt pq, .int ix])
          have vl := lk8.len
          refine ⟨pl, _, _, rfl, rfl, k12 _ _ el11, by show _ < 16777216; omega, ?_⟩
          have sB := sA.trans (SameD.of k12)
          have d12 := d11.same k12
          have el12 := k12 _ _ el11
          have em12 := k12 _ _ (sA.at om em8)
          have ef12 := k12 _ _ (sA.at of ef8)
          have lk12 := (lk8.keep (sA.keepT d8)).keep (Tw.Same.keepT k12)
          generalize upd H11 pt (.tup [vt pq, .int ix]) = H12 at k12 et sB d12 el12 em12 ef12 lk12 ⊢
          have kT : KeepT H12 (upd H12 pl (.lst (vs ++ [.ref pt]))) := fun b xs e => by
            rw [upd_ne (fun z => by rw [z, el12] at e; cases e)]; exact e
          have exi : ix = ((ix.toNat : Nat) : Int) := by omega
          rw [exi] at et
          refine ⟨vs ++ [.ref pt], ls ++ [(pq, ix.toNat)], n8 + 3, _, _, rfl, d12.put ol _, by omega, (s8.trans sB).put nplH _, (kt8.trans (sB.keepT d8)).trans kT, ?_, ?_, upd_same, (lk12.keep kT).snoc (kT _ _ et), by rw [List.length_append]; show _ + 1 ≤ _; omega, ?_, ?_⟩
          · rw [upd_ne (Ne.symm nlm)]; exact em12
          · rw [upd_ne nfl]; exact ef12
          · rw [tk, List.map_append]
            exact sb8.append (List.Sublist.refl _)
          · intro l hl
            rcases List.mem_append.mp hl with h | h
            · exact ix8 l h
            · rw [List.mem_singleton.mp h]
              show ix.toNat < k
              omega
        · rw [decide_eq_false hf]
          refine iteF ?_
          refine ⟨vs, ls, n8 + 3, _, _, rfl, d11, by omega, s8.trans sA, kt8.trans (sA.keepT d8), sA.at om em8, sA.at of ef8, sA.at ol el8, lk8.keep (sA.keepT d8), by omega, ?_, ix8⟩
          rw [tk]
          exact sb8.trans (List.sublist_append_left _ _)
      · rw [decide_eq_false hix]
        refine iteF (iteF ?_)
        refine ⟨vs, ls, n8 + 2, _, _, rfl, d10, by omega, s8.trans s10', kt8.trans (s10'.keepT d8), s10'.at om em8, s10'.at of ef8, s10'.at ol el8, lk8.keep (s10'.keepT d8), by omega, ?_, ix8⟩
        rw [tk]
        exact sb8.trans (List.sublist_append_left _ _)
    · obtain ⟨vs, ls, n8, o8, o9, rfl, d8, n8b, s8, kt8, em8, ef8, el8, lk8, ll8, sb8, ix8⟩ := hp
      rw [List.length_map] at n8b ll8 sb8
      have at8 := at5.keep kt8
      refine ⟨_, rfl, .inl ⟨rfl, _, SqL.of ef8⟩, _, rfl, _, rfl, pl, vs, rfl, SqL.of el8, lk8.mem, fun ys ps perm2 nps => ?_⟩
      obtain ⟨ks, lkS, pk⟩ := lk8.perm perm2
      have k9 := same_new nps (.lst ys)
      have es9 := upd_same (H := H8) (a := ps) (o := .lst ys)
      have d9 := d8.same k9
      have ef9 := k9 _ _ ef8
      have at9 := at8.same k9
      have lk9 := lkS.keep (Tw.Same.keepT k9)
      have en9 := (en5.keep kt8).keep (Tw.Same.keepT k9)
      have s9 := s8.trans (SameD.of k9)
      generalize upd H8 ps (.lst ys) = H9 at k9 es9 d9 ef9 at9 lk9 en9 s9 ⊢
      refine ⟨ps, ys, rfl, .inl ⟨SqL.of es9, fun pt npt => ?_⟩⟩
      have k10 := same_new npt (.tup ys)
      have et10 := upd_same (H := H9) (a := pt) (o := .tup ys)
      have d10 := d9.same k10
      have ef10 := k10 _ _ ef9
      have at10 := at9.same k10
      have lk10 := lk9.keep (Tw.Same.keepT k10)
      have en10 := en9.keep (Tw.Same.keepT k10)
      have s10 := s9.trans (SameD.of k10)
      generalize upd H9 pt (.tup ys) = H10 at k10 et10 d10 ef10 at10 lk10 en10 s10 ⊢
      refine ⟨(by show 2 ≤ sizeLine; decide), fun pe npe => ?_⟩
      have k11 := same_new npe (.tup [tv, .ref pt])
      have ee11 := upd_same (H := H10) (a := pe) (o := .tup [tv, .ref pt])
      have d11 := d10.same k11
      have ef11 := k11 _ _ ef10
      have et11 := k11 _ _ et10
      have at11 := at10.same k11
      have lk11 := lk10.keep (Tw.Same.keepT k11)
      have en11 := en10.keep (Tw.Same.keepT k11)
      have s11 := s10.trans (SameD.of k11)
      generalize upd H10 pe (.tup [tv, .ref pt]) = H11 at k11 ee11 d11 ef11 et11 at11 lk11 en11 s11 ⊢
      have ul := en11.len
      refine ⟨pf, _, _, rfl, rfl, ef11, by show _ < 16777216; omega, ?_⟩
      have kT : KeepT H11 (upd H11 pf (.lst (us ++ [.ref pe]))) := fun b xs e => by
        rw [upd_ne (fun z => by rw [z, ef11] at e; cases e)]; exact e
      have ksm : ∀ l ∈ ks, l ∈ ls := fun l hl => pk.mem_iff.mp hl
      have sub : ∀ l ∈ ls, l.1 ∈ O := fun l hl => pz.mem_iff.mp (List.mem_of_mem_take (sb8.subset (List.mem_map.mpr ⟨l, hl, rfl⟩)))
      have ndk : (ks.map (·.1)).Nodup := (pk.map (·.1)).nodup_iff.mpr (((pz.nodup_iff.mpr ndO).sublist (List.take_sublist _ _)).sublist sb8)
      refine ⟨us ++ [.ref pe], es ++ [(t, ks)], n8, _, _, _, _, _, rfl, d11.put of _, by omega, s11.put npf _, upd_same, (en11.keep kT).snoc (kT _ _ ee11) (at11.keep kT) (kT _ _ et11) (lk11.keep kT), g3.snoc ⟨z1, z2, ltb, ndk, fun l hl => opO l.1 (sub l (ksm l hl)), fun l hl => by rw [l3]; exact ix8 l (ksm l hl)⟩, by rw [List.length_append, l3]; rfl⟩
  · obtain ⟨us, es, n3, o5, o6, o7, o8, o9, rfl, d3, n3b, s3, ef3, en3, g3, l3⟩ := hp
    refine ⟨_, rfl, pf, us, rfl, .inl ⟨SqL.of ef3, fun pr npr => ?_⟩⟩
    have k4 := same_new npr (.tup us)
    exact q pr us es n3 _ (d3.same k4) (by omega) (s3.trans (SameD.of k4)) upd_same (en3.keep (Tw.Same.keepT k4)) g3 (by omega) (by omega)
end
/-! ### what hangs where; add_spots -/
def B.sub : B → (List Nat → B) → B
  | .nil, h => h []
  | .node l x r, h => .node (l.sub fun w => h (108 :: w)) x (r.sub fun w => h (114 :: w))
/-- the spots at us tell the trees ds: the first is none, each later one has its sides before it -/
structure SpAt (H : Hp) (us : List V) (ds : List B) : Prop where
  len : us.length = ds.length
  pos : ds[0]? = some .nil
  zero : ∃ a, us[0]? = some (.ref a) ∧ H a = some (.tup [.int 0, .str "", .int 0])
  each : ∀ k, 0 < k → k < ds.length → ∃ (a : Addr) (i j c : Nat) (l r : B), us[k]? = some (.ref a) ∧ H a = some (.tup [.int (i : Int), .str (ch c), .int (j : Int)]) ∧ i < k ∧ j < k ∧ ds[i]? = some l ∧ ds[j]? = some r ∧ ds[k]? = some (.node l c r)
theorem SpAt.keep {H H' : Hp} (k : KeepT H H') {us : List V} {ds : List B} (h : SpAt H us ds) : SpAt H' us ds := by
  obtain ⟨a, e1, e2⟩ := h.zero
  refine ⟨h.len, h.pos, ⟨a, e1, k _ _ e2⟩, fun n n0 n1 => ?_⟩
  obtain ⟨a, i, j, c, l, r, h1, h2, h3⟩ := h.each n n0 n1
  exact ⟨a, i, j, c, l, r, h1, k _ _ h2, h3⟩
theorem SpAt.snoc {H : Hp} {us : List V} {ds : List B} (h : SpAt H us ds) {a : Addr} {i j c : Nat} {l r : B} (e : H a = some (.tup [.int (i : Int), .str (ch c), .int (j : Int)])) (hl : ds[i]? = some l) (hr : ds[j]? = some r) :
    SpAt H (us ++ [.ref a]) (ds ++ [.node l c r]) := by
  have hi := (List.getElem?_eq_some_iff.mp hl).1
  have hj := (List.getElem?_eq_some_iff.mp hr).1
  obtain ⟨z, z1, z2⟩ := h.zero
  have zl := (List.getElem?_eq_some_iff.mp z1).1
  have len := h.len
  refine ⟨by rw [List.length_append, List.length_append, len]; rfl, by rw [List.getElem?_append_left (by omega)]; exact h.pos, ⟨z, by rw [List.getElem?_append_left zl]; exact z1, z2⟩, fun n n0 n1 => ?_⟩
  rw [List.length_append, List.length_cons, List.length_nil] at n1
  by_cases hn : n < ds.length
  · obtain ⟨a', i', j', c', l', r', h1, h2, h3, h4, h5, h6, h7⟩ := h.each n n0 hn
    exact ⟨a', i', j', c', l', r', by rw [List.getElem?_append_left (by omega)]; exact h1, h2, h3, h4, by rw [List.getElem?_append_left (by omega)]; exact h5, by rw [List.getElem?_append_left (by omega)]; exact h6, by rw [List.getElem?_append_left hn]; exact h7⟩
  · have hn : n = ds.length := by omega
    subst hn
    refine ⟨a, i, j, c, l, r, ?_, e, hi, hj, by rw [List.getElem?_append_left hi]; exact hl, by rw [List.getElem?_append_left hj]; exact hr, by rw [List.getElem?_append_right (Nat.le_refl _), Nat.sub_self]; rfl⟩
    rw [← len, List.getElem?_append_right (Nat.le_refl _), Nat.sub_self]
    rfl
/-- the dict at hd tells for each path the spot of what hangs there -/
def HgAt (H : Hp) (hd : Addr) (ds : List B) (h : List Nat → B) : Prop := ∃ kvs : List (Key × V), H hd = some (.dK kvs) ∧ ∀ p : List Nat, ∃ i : Nat, (valV kvs (.inr (tx p))).getD (.int 0) = .int (i : Int) ∧ ds[i]? = some (h p)
/-- all stands still but the list at sp -/
def SameL (sp : Addr) (H H' : Hp) : Prop := ∀ b o, b ≠ sp → H b = some o → H' b = some o
def spAdd (N : Nat) : Sp := fun vs H Q _ => ∃ (sp hd : Addr) (v : V) (t : B) (q : List Nat) (us : List V) (ds : List B) (h : List Nat → B), vs = [.ref sp, v, vt q, .ref hd] ∧ BAt H v t ∧ t.size < N ∧ t.size + q.length ≤ 500 ∧ H sp = some (.lst us) ∧ SpAt H us ds ∧ HgAt H hd ds h ∧ ds.length + t.size ≤ 1000 ∧
  ∀ (k : Nat) (us' : List V) (ex : List B) (H' : Hp), SameL sp H H' → H' sp = some (.lst us') → SpAt H' us' (ds ++ ex) → ex.length = t.size → (ds ++ ex)[k]? = some (t.sub fun w => h (q ++ w)) → (t ≠ .nil → k + 1 = us'.length) → Q (.int (k : Int)) H'
section
variable {P : Program} {w : World} {K : PySem.W.Frag} {mg : Str → Option Value} {base : Heap} {f : Addr} {fd : FuncData}
theorem ok_add (F : Fun K "add_spots" "add_spots" s_add_spots f fd) (M : Mgs mg) (b : Binds K fd ["spots", "tree", "path", "hung"] []) (g : mg "add_spots" = some (.ref f)) : ∀ N : Nat, FnOk P w K mg base CX0 N f fd ["spots", "tree", "path", "hung"] (spAdd N)
  | 0 => by
    have no : ∀ vs H Q E, ¬ spAdd 0 vs H Q E := fun vs H Q E h => by
      obtain ⟨sp, hd, v, t, q, us, ds, h, _, _, h1, _⟩ := h
      omega
    exact ⟨fun vs H Q E h => absurd h (no vs H Q E), fun A outer s H args us vs Q E _ _ _ _ h => absurd h (no vs H Q E)⟩
  | N + 1 => by
    have Dself : Df P w K mg base N "add_spots" ["spots", "tree", "path", "hung"] (spAdd N) := ⟨f, fd, ok_add F M b g N, b, F.kp, g⟩
    refine F.ok sc_add_spots (fun vs H Q E h => ?_) (fun cdv A outer s H vs Q E hr h => ?_)
    · obtain ⟨sp, hd, v, t, q, us, ds, h, rfl, _⟩ := h
      rfl
    obtain ⟨sp, hd, v, t, pq, us, ds, h, rfl, hv, hn, hz, es, sa, hg, hl, q⟩ := h
    refine ⟨_, (pss_cons (ps_if (pt_cmpR op_isN (pv 1) pe_non (nomark _))
      (pss_one (ps_ret (pe_dget2 (Nat.lt_of_le_of_lt (Nat.add_le_add_left (by decide) _) hr.units) (pv 3) (pv 2) pe_int ⟨rfl, rfl, rfl, rfl⟩))) pss_nil)
    (pss_cons (ps_set (i := 4) sc_add_spots.nd rfl (.inl rfl) (pe_call Dself.ok (hr.mono (by omega)) rfl Dself.g Dself.kp Dself.b .nil pass0 (pa_cons (pv 0) (pa_cons (pe_ix ix_tup (pv 1) pe_int (fun _ _ => rfl)) (pa_cons (pe_op op_add_str (pv 2) pe_str) (pa_cons (pv 3) pa_nil))))))
    (pss_cons (ps_set (i := 5) sc_add_spots.nd rfl (.inl rfl) (pe_call Dself.ok (hr.mono (by omega)) rfl Dself.g Dself.kp Dself.b .nil pass0 (pa_cons (pv 0) (pa_cons (pe_ix ix_tup (pv 1) pe_int (fun _ _ => rfl)) (pa_cons (pe_op op_add_str (pv 2) pe_str) (pa_cons (pv 3) pa_nil))))))
    (pss_cons (ps_expr (pe_bm PySem.F.plainAttrs_list PySem.F.slot_list_append PySem.F.type_list_append mt_append (pv 0) (pa_cons (pe_tup (pa_cons (pv 4) (pa_cons (pe_ix ix_tup (pv 1) pe_int (fun _ _ => rfl)) (pa_cons (pv 5) pa_nil)))) pa_nil)))
    (pss_one (ps_ret (pe_op op_sub (pe_callB call_len_seq rfl M.len PySem.boot_len (pa_cons (pv 0) pa_nil)) pe_int))))))), ?_⟩
    obtain ⟨kvs, ek, hk⟩ := id hg
    rcases hv.inv with ⟨rfl, rfl⟩ | ⟨a, l, r, x, tl, tr, rfl, rfl, ea, hl', hr'⟩
    · refine ⟨_, rfl, rfl, _, rfl, iteT ?_⟩
      obtain ⟨i, e1, e2⟩ := hk pq
      refine ⟨_, rfl, hd, rfl, .inl ⟨kvs, .inl ek⟩, _, rfl, _, .inl ⟨kvs, .inr (tx pq), .inl ek, rfl, rfl⟩, ?_⟩
      rw [e1]
      refine q i us [] H (fun b o _ e => e) es (by rw [List.append_nil]; exact sa) rfl ?_ (fun z => absurd rfl z)
      rw [List.append_nil]
      show _ = some (h (pq ++ []))
      rw [List.append_nil]
      exact e2
    · refine ⟨_, rfl, rfl, _, rfl, iteF ?_⟩
      have sz : tl.size + 1 + tr.size < N + 1 := hn
      have sz2 : tl.size + 1 + tr.size + pq.length ≤ 500 := hz
      have sz3 : ds.length + (tl.size + 1 + tr.size) ≤ 1000 := hl
      have nsa : ∀ {H' : Hp} {b : Addr} {xs ys : List V}, H' sp = some (.lst xs) → H' b = some (.tup ys) → b ≠ sp := fun e1 e2 z => by rw [z, e1] at e2; cases e2
      have nsh : hd ≠ sp := fun z => by rw [z, es] at ek; cases ek
      have kT : ∀ {H1 H2 : Hp} {xs : List V}, H1 sp = some (.lst xs) → SameL sp H1 H2 → KeepT H1 H2 := fun e1 sl b xs e => sl b _ (nsa e1 e) e
      refine ⟨_, rfl, _, rfl, a, _, _, _, rfl, rfl, SqT.of ea, rfl, _, rfl, _, _, rfl, rfl, ?_, ?_⟩
      · rw [str_l, tx_len, tx_len]; exact small (by show _ + 1 ≤ 1000; omega)
      rw [str_l, tx_app]
      refine ⟨_, rfl, sp, hd, l, tl, pq ++ [108], us, ds, h, rfl, hl', by omega, by rw [List.length_append]; show _ + (_ + 1) ≤ 500; omega, es, sa, hg, by omega, fun i us1 x1 H1 s1 es1 sa1 xl1 ei _ => ?_⟩
      have k1 := kT es s1
      have ek1 := s1 hd _ nsh ek
      have hg1 : HgAt H1 hd (ds ++ x1) h := ⟨kvs, ek1, fun p => by
        obtain ⟨i, e1, e2⟩ := hk p
        exact ⟨i, e1, by rw [List.getElem?_append_left (List.getElem?_eq_some_iff.mp e2).1]; exact e2⟩⟩
      have ea1 := k1 _ _ ea
      refine ⟨_, rfl, _, rfl, a, _, _, _, rfl, rfl, SqT.of ea1, rfl, _, rfl, _, _, rfl, rfl, ?_, ?_⟩
      · rw [str_r, tx_len, tx_len]; exact small (by show _ + 1 ≤ 1000; omega)
      rw [str_r, tx_app]
      refine ⟨_, rfl, sp, hd, r, tr, pq ++ [114], us1, ds ++ x1, h, rfl, hr'.keep k1, by omega, by rw [List.length_append]; show _ + (_ + 1) ≤ 500; omega, es1, sa1, hg1, by rw [List.length_append]; omega, fun j us2 x2 H2 s2 es2 sa2 xl2 ej _ => ?_⟩
      have k2 := kT es1 s2
      have ea2 := k2 _ _ ea1
      refine ⟨_, rfl, .inl ⟨rfl, _, SqL.of es2⟩, _, rfl, _, rfl, a, _, _, _, rfl, rfl, SqT.of ea2, rfl, _, rfl, (by show 3 ≤ sizeLine; decide), fun pt npt => ?_⟩
      have k3 := same_new npt (.tup [.int (i : Int), .str (ch x), .int (j : Int)])
      have et := upd_same (H := H2) (a := pt) (o := .tup [.int (i : Int), .str (ch x), .int (j : Int)])
      have es3 := k3 _ _ es2
      have sa3 := sa2.keep (Tw.Same.keepT k3)
      have s3 : SameL sp H (upd H2 pt (.tup [.int (i : Int), .str (ch x), .int (j : Int)])) := fun b o hb e => k3 _ _ (s2 b o hb (s1 b o hb e))
      generalize upd H2 pt (.tup [.int (i : Int), .str (ch x), .int (j : Int)]) = H3 at k3 et es3 sa3 s3 ⊢
      have ul := sa3.len
      rw [List.length_append, List.length_append] at ul
      refine ⟨sp, _, _, rfl, rfl, es3, by show _ < 16777216; omega, ?_⟩
      have kS : KeepT H3 (upd H3 sp (.lst (us2 ++ [.ref pt]))) := fun b xs e => by
        rw [upd_ne (nsa es3 e)]; exact e
      have ei2 : ((ds ++ x1) ++ x2)[i]? = some (tl.sub fun w => h (pq ++ [108] ++ w)) := by
        rw [List.getElem?_append_left (List.getElem?_eq_some_iff.mp ei).1]; exact ei
      have sa4 := (sa3.keep kS).snoc (kS _ _ et) ei2 ej
      refine ⟨_, rfl, _, _, rfl, .inl (SqL.of upd_same), ?_⟩
      refine ⟨_, _, rfl, rfl, ?_⟩
      have ek4 : (((us2 ++ [V.ref pt]).length : Nat) : Int) - 1 = ((us2.length : Nat) : Int) := by
        rw [List.length_append, List.length_cons, List.length_nil]; omega
      show Q (.int _) _
      rw [ek4]
      refine q us2.length (us2 ++ [.ref pt]) (x1 ++ x2 ++ [.node (tl.sub fun w => h (pq ++ [108] ++ w)) x (tr.sub fun w => h (pq ++ [114] ++ w))]) _ (fun b o hb e => by rw [upd_ne hb]; exact s3 b o hb e) upd_same (by rw [← List.append_assoc, ← List.append_assoc]; exact sa4) ?_ ?_ (fun _ => by rw [List.length_append]; rfl)
      · rw [List.length_append, List.length_append, xl1, xl2]
        show tl.size + tr.size + 1 = tl.size + 1 + tr.size
        omega
      · rw [← List.append_assoc, ← List.append_assoc, List.getElem?_append_right (by rw [List.length_append, List.length_append]; omega)]
        rw [show us2.length - (ds ++ x1 ++ x2).length = 0 by rw [List.length_append, List.length_append]; omega]
        show some _ = some (B.node (tl.sub fun w => h (pq ++ 108 :: w)) x (tr.sub fun w => h (pq ++ 114 :: w)))
        simp only [List.append_assoc, List.cons_append, List.nil_append]
end
/-! ### name = {key: value for ..} on one line, the name a local -/
section
variable {X : Cx}
theorem sw_dict {kx vx : Expr} {gs : List Comprehension} {scope : Scope} {pos py : Pos} {y : Str} {l : Nat} {env : Env} (hk : env.scope.kind = .function) (hy : env.scope.names.lookup y = some .local) (hl : (py.line == pos.line) = true)
    (ha : (scope.names.any fun (n, k) => n == y && (k == .local || k == .cell)) = false) : swapsWith (.DictComp kx vx gs scope pos) (some (.Name y py)) l env = pure true := by
  have ky : env.kindOf y = some .local := hy
  have hb : env.blockKind = .function := by unfold Env.blockKind; rw [hk]; rfl
  unfold swapsWith
  simp only [hb, ky, ha, Expr.pos, hl]
  rfl
theorem ps_setDc {i : Nat} {y : Str} {py : Pos} {kx vx tg iter : Expr} {ifs : List Expr} {scope : Scope} {own : List (Str × Nat)} {pos spos : Pos} {wi : TI} {g : TG} {tt : TT} {tk tv : TE} (hc : X.calm = true) (hN : X.N.Nodup) (hy : X.N[i]? = some y) (hyl : X.env.scope.names.lookup y = some .local)
    (hsw : swapsWith (.DictComp kx vx [⟨tg, iter, ifs, 0⟩] scope pos) (some (.Name y py)) spos.line X.env = pure true) (hi : PI X tg iter wi) (ok : BlkOk X.N X.env.scope scope own)
    (hg : ∀ (s : Shared) (H : Hp) (C : Addr) (cl : List (Str × Addr)) (fp : List Addr), PG (X.blk s H scope (compEnvC scope cl C X.env) fp) tg g) (ht : ∀ (s : Shared) (H : Hp) (C : Addr) (cl : List (Str × Addr)) (fp : List Addr), PTs (X.blk s H scope (compEnvC scope cl C X.env) fp) ifs tt)
    (hk : ∀ (s : Shared) (H : Hp) (C : Addr) (cl : List (Str × Addr)) (fp : List Addr), PE (X.blk s H scope (compEnvC scope cl C X.env) fp) kx tk)
    (he : ∀ (s : Shared) (H : Hp) (C : Addr) (cl : List (Str × Addr)) (fp : List Addr), PE (X.blk s H scope (compEnvC scope cl C X.env) fp) vx tv) (hs : ∀ x, foldedSetIterable iter X.env x = pure x := by intro _; rfl) :
    PS X (.Assign [.Name y py] (.DictComp kx vx [⟨tg, iter, ifs, 0⟩] scope pos) spos) (tAsg (tDc wi g tt tk tv (own.map (·.2))) (gName i)) := by
  refine ⟨fun pins s σ H D I h => ?_⟩
  rw [exec_Assign_Name_used _ _ _ _ hsw]
  refine wpAny_bind (wpAny_standAt (wpAny_bind ?_))
  show wpAny _ X.A (do let _ ← comprehension (.DictComp kx vx [⟨tg, iter, ifs, 0⟩] scope pos) scope X.env (firstIterPos [⟨tg, iter, ifs, 0⟩] pos) newDict false (eval iter X.env) (some (assign (.Name y py) X.env))) _ _ s
  have h : tDc wi g tt tk tv (own.map (·.2)) σ H (fun x H1 => gName i x σ H1 D.nx) := h
  refine wpAny_bind (thn (dc_core (Qf := fun _ s' => SP X pins D .next s') hc hN I hi ok hg ht hk he hs h fun L C s' m H' I' q hn f => ?_) fun _ s' hq => wpAny_pure (wpAny_pure hq))
  show wpAny _ _ (assign (.Name y py) X.env (.ref L)) _ _ _
  refine wpAny_assign_Name (store_ok2 (v := V.ref L) I' hN hy (.inl hyl) rfl (fun s2 I2 ⟨a, sb, ha⟩ => ?_) (.inr hyl))
  obtain ⟨f0, f1, f2, f3, f4, f5⟩ := f
  have haC : C ≠ a := by
    rcases ha with z | z
    · rw [z]; exact f1
    · exact fun e => f4 y a z e.symm
  refine ⟨m, hn.sameBut sb haC, fun h3 sb3 => ?_⟩
  exact ⟨_, H', I2.turned (t' := s2.toks) (fun b o hb e => (sb3.2 b hb).trans e) f0 f1 f3 f4 f5, q⟩
end
/-! ### the whole trees of a nest; spots_of -/
def hungL (F : List B) (ls : List Lk) (p : List Nat) : B := match ls.find? (fun l => decide (l.1 = p)) with
  | some l => F.getD l.2 .nil
  | none => .nil
def fulls (es : List En) : List B := es.foldl (fun F e => F ++ [e.1.sub (hungL F e.2)]) []
theorem fulls_snoc (es : List En) (e : En) : fulls (es ++ [e]) = fulls es ++ [e.1.sub (hungL (fulls es) e.2)] := by
  unfold fulls
  rw [List.foldl_append]
  rfl
theorem fulls_len (es : List En) : (fulls es).length = es.length := by
  have go : ∀ (es : List En) (F : List B), (es.foldl (fun F e => F ++ [e.1.sub (hungL F e.2)]) F).length = F.length + es.length := by
    intro es
    induction es with
    | nil => intro F; rfl
    | cons e r ih =>
      intro F
      rw [List.foldl_cons, ih, List.length_append, List.length_cons, List.length_cons, List.length_nil]
      omega
  unfold fulls
  rw [go, List.length_nil, Nat.zero_add]
theorem EnAt.get {H : Hp} {vs : List V} {es : List En} (h : EnAt H vs es) : ∀ {i : Nat} {v : V}, vs[i]? = some v → ∃ (a la : Addr) (tv : V) (us : List V) (t : B) (ls : List Lk), v = .ref a ∧ es[i]? = some (t, ls) ∧ H a = some (.tup [tv, .ref la]) ∧ BAt H tv t ∧ H la = some (.tup us) ∧ LkAt H us ls := by
  induction h with
  | nil => intro i v hv; cases hv
  | cons e1 e2 e3 e4 _ ih =>
    intro i v hv
    match i, hv with
    | 0, hv => cases hv; exact ⟨_, _, _, _, _, _, rfl, rfl, e1, e2, e3, e4⟩
    | i + 1, hv => exact ih hv
theorem LkAt.get {H : Hp} {vs : List V} {ls : List Lk} (h : LkAt H vs ls) : ∀ {i : Nat} {v : V}, vs[i]? = some v → ∃ (a : Addr) (p : List Nat) (n : Nat), v = .ref a ∧ ls[i]? = some (p, n) ∧ H a = some (.tup [vt p, .int (n : Int)]) := by
  induction h with
  | nil => intro i v hv; cases hv
  | cons e _ ih =>
    intro i v hv
    match i, hv with
    | 0, hv => cases hv; exact ⟨_, _, _, rfl, rfl, e⟩
    | i + 1, hv => exact ih hv
/-- what the dict tells behind j links -/
def tells (rs : List Nat) (ls : List Lk) (p : List Nat) : Option V := (ls.find? fun l => decide (l.1 = p)).map fun l => V.int ((rs.getD l.2 0 : Nat) : Int)
theorem tells_next {rs : List Nat} {ls : List Lk} {j : Nat} {q : List Nat} {n : Nat} (nd : (ls.map (·.1)).Nodup) (h : ls[j]? = some (q, n)) (p : List Nat) : tells rs (ls.take (j + 1)) p = if p = q then some (.int ((rs.getD n 0 : Nat) : Int)) else tells rs (ls.take j) p := by
  have hj := (List.getElem?_eq_some_iff.mp h).1
  have no : ∀ l ∈ ls.take j, l.1 ≠ q := fun l hl e => by
    have nt : ((ls.take (j + 1)).map (·.1)).Nodup := nd.sublist ((List.take_sublist _ _).map _)
    rw [take_next h, List.map_append, List.nodup_append] at nt
    exact nt.2.2 l.1 (List.mem_map.mpr ⟨l, hl, rfl⟩) q (List.mem_singleton.mpr rfl) e
  unfold tells
  rw [take_next h, List.find?_append]
  by_cases hp : p = q
  · subst hp
    rw [if_pos rfl, List.find?_eq_none.mpr (fun l hl => by simpa using no l hl)]
    simp
  · rw [if_neg hp]
    have : List.find? (fun l : Lk => decide (l.1 = p)) [(q, n)] = none := by
      rw [List.find?_eq_none]
      intro l hl
      rw [List.mem_singleton.mp hl]
      simpa using fun z : q = p => hp z.symm
    rw [this]
    simp
theorem nodup_le {α : Type} [DecidableEq α] : ∀ {l m : List α}, l.Nodup → (∀ x ∈ l, x ∈ m) → l.length ≤ m.length
  | [], m, _, _ => Nat.zero_le _
  | x :: l, m, nd, h => by
    obtain ⟨n1, n2⟩ := List.nodup_cons.mp nd
    have hx := h x List.mem_cons_self
    have := nodup_le (l := l) (m := m.erase x) n2 fun y hy => (List.mem_erase_of_ne (fun z : y = x => n1 (z ▸ hy))).mpr (h y (List.mem_cons_of_mem _ hy))
    rw [List.length_erase_of_mem hx] at this
    have : 0 < m.length := List.length_pos_of_mem hx
    rw [List.length_cons]
    omega
theorem B.op_len (t : B) : t.op.length = t.size + 1 := by
  induction t with
  | nil => rfl
  | node l x r h1 h2 =>
    show (l.op.map (108 :: ·) ++ r.op.map (114 :: ·)).length = l.size + 1 + r.size + 1
    rw [List.length_append, List.length_map, List.length_map, h1, h2]
    omega
def spSpots (K : PySem.W.Frag) : Sp := fun vs H Q _ => ∃ (p : Addr) (us : List V) (es : List En), vs = [.ref p] ∧ H p = some (.tup us) ∧ EnAt H us es ∧ GoodN 12 es ∧ 1 ≤ es.length ∧ es.length ≤ 20 ∧
  ∀ (sp : Addr) (ss : List V) (ds : List B) (H' : Hp), Same H H' → H sp = none → H' sp = some (.lst ss) → SpAt H' ss ds → ds.length ≤ 300 → ds[ds.length - 1]? = (fulls es)[es.length - 1]? → Q (.ref sp) H'
section
variable {P : Program} {w : World} {K : PySem.W.Frag} {mg : Str → Option Value} {base : Heap} {f : Addr} {fd : FuncData}
theorem ok_spots (F : Fun K "spots_of" "spots_of" s_spots_of f fd) (Dadd_spots : Df P w K mg base 30 "add_spots" ["spots", "tree", "path", "hung"] (spAdd 30)) : FnOk P w K mg base CX0 31 f fd ["nest"] (spSpots K) := by
  refine F.ok sc_spots_of (fun vs H Q E h => ?_) (fun cdv A outer s H vs Q E hr h => ?_)
  · obtain ⟨p, us, es, rfl, _⟩ := h
    rfl
  obtain ⟨p, us, es, rfl, ep, en, gn, e1, e20, q⟩ := h
  refine ⟨_, (pss_cons (ps_set (i := 1) sc_spots_of.nd rfl (.inl rfl) (pe_lst (pa_cons (pe_tup (pa_cons pe_int (pa_cons pe_str (pa_cons pe_int pa_nil)))) pa_nil)))
    (pss_cons (ps_set (i := 2) sc_spots_of.nd rfl (.inr rfl) (pe_lst pa_nil))
    (pss_cons (ps_for PassesOwn.never rfl (pi_tup (pv 0)) (pg_tup rfl (pgs_cons (pg_name (i := 3) sc_spots_of.nd rfl (.inl rfl)) (pgs_cons (pg_name (i := 4) sc_spots_of.nd rfl (.inl rfl)) pgs_nil)))
      (pss_cons (ps_setDc (i := 7) (own := [("path", 5), ("index", 6)]) (g := gTup K 2 (gCons (gName 5) (gCons (gName 6) gNil))) (tt := tYes) (by rfl) sc_spots_of.nd rfl rfl (sw_dict rfl rfl rfl (by decide +kernel)) (pi_tup (pv 4)) (blkOk_by (N := ["nest", "spots", "roots", "tree", "links", "path", "index", "hung"]) (sc := defScope s_spots_of) (by decide +kernel)) (fun _ _ _ _ _ => (pg_tup rfl (pgs_cons (pg_name (i := 5) sc_spots_of.nd rfl (.inl rfl)) (pgs_cons (pg_name (i := 6) sc_spots_of.nd rfl (.inl rfl)) pgs_nil)))) (fun _ _ _ _ _ => pts_nil) (fun _ _ _ _ _ => (pv 5)) (fun _ _ _ _ _ => (pe_ix (show IxR _ (rIxL K) from ix_list) (pv 2) (pv 6) (fun _ _ => rfl))))
    (pss_one (ps_expr (pe_bm PySem.F.plainAttrs_list PySem.F.slot_list_append PySem.F.type_list_append mt_append (pv 2) (pa_cons (pe_call Dadd_spots.ok (hr.mono (by omega)) rfl Dadd_spots.g Dadd_spots.kp Dadd_spots.b .nil pass0 (pa_cons (pv 1) (pa_cons (pv 3) (pa_cons pe_str (pa_cons (pv 7) pa_nil))))) pa_nil))))))
    (pss_one (ps_ret (pv 1)))))), ?_⟩
  refine ⟨(by show 3 ≤ sizeLine; decide), fun p0 np0 => ?_⟩
  have k0 := same_new np0 (.tup [.int 0, .str "", .int 0])
  have e0 := upd_same (H := H) (a := p0) (o := .tup [.int 0, .str "", .int 0])
  generalize upd H p0 (.tup [.int 0, .str "", .int 0]) = H0 at k0 e0 ⊢
  refine ⟨(by show 1 ≤ sizeLine; decide), fun sp nsp => ?_⟩
  have k1 := same_new nsp (.lst [.ref p0])
  have es1 := upd_same (H := H0) (a := sp) (o := .lst [.ref p0])
  have e01 := k1 _ _ e0
  have nspH : H sp = none := by
    cases z : H sp with
    | none => rfl
    | some o => rw [k0 _ _ z] at nsp; cases nsp
  generalize upd H0 sp (.lst [.ref p0]) = H1 at k1 es1 e01 ⊢
  refine ⟨(by show 0 ≤ sizeLine; decide), fun rp nrp => ?_⟩
  have k2 := same_new nrp (.lst [])
  have er2 := upd_same (H := H1) (a := rp) (o := .lst [])
  have es2 := k2 _ _ es1
  have e02 := k2 _ _ e01
  have nsr : sp ≠ rp := ne_of_none es1 nrp
  have s2 := (k0.trans k1).trans k2
  have nrpH : H rp = none := by
    cases z : H rp with
    | none => rfl
    | some o => rw [(k0.trans k1) _ _ z] at nrp; cases nrp
  generalize upd H1 rp (.lst []) = H2 at k2 er2 es2 e02 s2 ⊢
  have sa2 : SpAt H2 [.ref p0] [.nil] := ⟨rfl, rfl, ⟨p0, rfl, e02⟩, fun k k0 k1 => absurd k1 (by show ¬ k < 1; omega)⟩
  have el := en.len
  refine ⟨_, rfl, p, rfl, ⟨_, SqT.of (s2 _ _ ep)⟩, ?_⟩
  refine for_tup (K := K) (a := p) (xs := us) (fun k σ H' => ∃ (ss : List V) (ds : List B) (rs : List Nat) (o3 o4 o5 o6 o7 : Option V), σ = [some (.ref p), some (.ref sp), some (.ref rp), o3, o4, o5, o6, o7] ∧ Same H H' ∧ H' sp = some (.lst ss) ∧ H' rp = some (.lst (rs.map fun n : Nat => V.int (n : Int))) ∧ SpAt H' ss ds ∧ rs.length = k ∧
    (∀ (i r : Nat), rs[i]? = some r → ds[r]? = (fulls (es.take k))[i]?) ∧ ds.length ≤ 1 + 12 * k ∧ (0 < k → ds[ds.length - 1]? = (fulls (es.take k))[k - 1]?))
    ⟨[.ref p0], [.nil], [], _, _, _, _, _, rfl, s2, es2, er2, sa2, rfl, (fun i r h => by cases h), Nat.le_refl _, (fun z => absurd z (by decide))⟩ (fun k σ H' _ hp => by obtain ⟨_, _, _, _, _, _, _, _, _, h, _⟩ := hp; exact SqT.of (h _ _ ep)) (fun k x σ H3 hx hp => ?_) (fun σ H3 hp => ?_)
  · obtain ⟨ss, ds, rs, o3, o4, o5, o6, o7, rfl, s3, es3, er3, sa3, rl, rg, dl, _⟩ := hp
    obtain ⟨a, la, tv, ls', t, ls, rfl, ee, ea, at0, ela, lk⟩ := en.get hx
    have hk := (List.getElem?_eq_some_iff.mp ee).1
    have ge := gn k _ ee
    have ll := lk.len
    have F12 := ge.s2
    refine ⟨a, _, rfl, SqT.of (s3 _ _ ea), rfl, _, _, rfl, _, _, rfl, rfl, ?_⟩
    have oplen := t.op_len
    have lsl : ls.length ≤ 13 := by
      have h1 : (ls.map (·.1)).length ≤ t.op.length := nodup_le ge.nd fun p hp => by
        obtain ⟨l, hl, rfl⟩ := List.mem_map.mp hp
        exact ge.op l hl
      rw [List.length_map] at h1
      have : t.size ≤ 12 := F12
      omega
    refine ⟨_, rfl, la, rfl, ⟨_, SqT.of (s3 _ _ ela)⟩, fun D nD => ?_⟩
    have kD := same_new nD (.dK [])
    refine dc_tup (K := K) (a := la) (xs := ls') (fun j H' => Same H3 H' ∧ ∃ kvs : List (Key × V), H' D = some (.dK kvs) ∧ kvs.length ≤ j ∧ ∀ p, valV kvs (.inr (tx p)) = tells rs (ls.take j) p) ⟨kD, [], upd_same, Nat.le_refl 0, fun p => rfl⟩ (fun j H' _ hp => SqT.of (hp.1 _ _ (s3 _ _ ela))) (fun j x H4 hx4 hp => ?_) (fun H4 hp => ?_)
    · obtain ⟨s4, kvs, ed, kl, kt⟩ := hp
      obtain ⟨b, pq, n, rfl, el4, eb⟩ := lk.get hx4
      have hj := (List.getElem?_eq_some_iff.mp el4).1
      have hn : n < rs.length := by rw [rl]; exact ge.ix (pq, n) (List.mem_of_getElem? el4)
      refine ⟨b, _, rfl, SqT.of (s4 _ _ (s3 _ _ eb)), rfl, _, _, rfl, _, _, rfl, rfl, rfl, kept ?_⟩
      refine ⟨_, rfl, _, rfl, _, rfl, rp, _, _, _, rfl, rfl, SqL.of (s4 _ _ er3), atI_nat (by rw [List.getElem?_map, List.getElem?_eq_getElem hn]; rfl), kvs, .inr (tx pq), rfl, ed, by show _ < 16777216; omega, fun b o e => ?_, _, upd_same, ?_, fun p => ?_⟩
      · rw [upd_ne (ne_of_none e nD)]; exact s4 _ _ e
      · unfold putK
        split
        · rw [List.length_map]; omega
        · rw [List.length_append]; show _ + 1 ≤ _; omega
      · rw [valV_put, tells_next ge.nd el4, kt]
        by_cases hp : p = pq
        · subst hp
          rw [if_pos rfl, if_pos rfl, List.getD_eq_getElem?_getD, List.getElem?_eq_getElem hn]
          rfl
        · rw [if_neg hp, if_neg (fun z => hp (tx_inj (Sum.inr.inj z)))]
    · obtain ⟨s4, kvs, ed, kl, kt⟩ := hp
      rw [ll, List.take_of_length_le (Nat.le_refl _)] at kt
      have fl : (fulls (es.take k)).length = k := by rw [fulls_len, List.length_take]; omega
      have hg : HgAt H4 D ds (hungL (fulls (es.take k)) ls) := ⟨kvs, ed, fun p => by
        rw [kt]
        unfold tells hungL
        cases hf : ls.find? (fun l => decide (l.1 = p)) with
        | none => exact ⟨0, rfl, sa3.pos⟩
        | some l =>
          have hl : l.2 < rs.length := by rw [rl]; exact ge.ix l (List.mem_of_find?_eq_some hf)
          refine ⟨rs.getD l.2 0, rfl, ?_⟩
          rw [List.getD_eq_getElem?_getD, List.getElem?_eq_getElem hl]
          show ds[rs[l.2]]? = some ((fulls (es.take k)).getD l.2 .nil)
          rw [rg l.2 rs[l.2] (List.getElem?_eq_getElem hl), List.getD_eq_getElem?_getD, List.getElem?_eq_getElem (by omega)]
          rfl⟩
      have t12 : t.size ≤ 12 := F12
      have tne : t ≠ .nil := fun z => by
        have : 1 ≤ t.size := ge.s1
        rw [z] at this
        exact absurd this (by decide)
      refine ⟨_, rfl, .inl ⟨rfl, _, SqL.of (s4 _ _ er3)⟩, _, rfl, _, rfl, _, rfl, ?_⟩
      refine ⟨sp, D, tv, t, [], ss, ds, hungL (fulls (es.take k)) ls, by rw [str_0]; rfl, (at0.same s3).same s4, by omega, by show t.size + 0 ≤ 500; omega, s4 _ _ es3, sa3.keep (Tw.Same.keepT s4), hg, by omega, fun r ss5 ex H5 s5 es5 sa5 xl er5 lst => ?_⟩
      have er5' := s5 rp _ (Ne.symm nsr) (s4 _ _ er3)
      have hlst := lst tne
      have slen := sa5.len
      refine ⟨rp, _, _, rfl, rfl, er5', by rw [List.length_map]; show _ < 16777216; omega, ?_⟩
      have tk : es.take (k + 1) = es.take k ++ [(t, ls)] := take_next ee
      have fs : fulls (es.take (k + 1)) = fulls (es.take k) ++ [t.sub (hungL (fulls (es.take k)) ls)] := by rw [tk]; exact fulls_snoc _ _
      have ex5 : (ds ++ ex)[r]? = some (t.sub (hungL (fulls (es.take k)) ls)) := er5
      refine ⟨ss5, ds ++ ex, rs ++ [r], _, _, _, _, _, rfl, fun b o e => ?_, ?_, ?_, ?_, by rw [List.length_append, rl]; rfl, fun i r0 hi => ?_, by rw [List.length_append, xl]; omega, fun _ => ?_⟩
      · rw [upd_ne (ne_of_none e nrpH)]
        exact s5 b o (ne_of_none e nspH) (s4 _ _ (s3 _ _ e))
      · rw [upd_ne nsr]; exact es5
      · rw [upd_same, List.map_append]; rfl
      · exact sa5.keep fun b xs e => by rw [upd_ne (fun z => by rw [z, er5'] at e; cases e)]; exact e
      · rw [fs]
        by_cases hik : i < k
        · rw [List.getElem?_append_left (by omega)] at hi
          have e := rg i r0 hi
          have hr0 : r0 < ds.length := by
            rw [List.getElem?_eq_getElem (show i < (fulls (es.take k)).length by omega)] at e
            exact (List.getElem?_eq_some_iff.mp e).1
          rw [List.getElem?_append_left hr0, e, List.getElem?_append_left (by omega)]
        · rw [List.getElem?_append_right (by omega)] at hi
          have h0 : i - rs.length = 0 := by
            have := (List.getElem?_eq_some_iff.mp hi).1
            rw [List.length_cons, List.length_nil] at this
            omega
          rw [h0] at hi
          cases hi
          rw [ex5, List.getElem?_append_right (by omega), show i - (fulls (es.take k)).length = 0 by omega]
          rfl
      · rw [fs, show (ds ++ ex).length - 1 = r by omega, ex5, show k + 1 - 1 = k by omega, List.getElem?_append_right (by omega), show k - (fulls (es.take k)).length = 0 by omega]
        rfl
  · obtain ⟨ss, ds, rs, o3, o4, o5, o6, o7, rfl, s3, es3, er3, sa3, rl, rg, dl, last⟩ := hp
    refine ⟨_, rfl, q sp ss ds H3 s3 nspH es3 sa3 (by omega) ?_⟩
    have := last (by omega)
    rw [el, List.take_of_length_le (Nat.le_refl _)] at this
    exact this
end
/-! ### counts_in, nest_size, count_label, nest_depth -/
def B.cnt (zs : List Nat) : B → Nat
  | .nil => 0
  | .node l c r => l.cnt zs + r.cnt zs + if c ∈ zs then 1 else 0
abbrev vn (n : Nat) : V := .int (n : Int)
theorem at_last {xs : List V} {v : V} (h : xs[xs.length - 1]? = some v) : atI xs (-1) = some v := by
  have h0 := (List.getElem?_eq_some_iff.mp h).1
  have e : ixN xs.length (-1) = some (xs.length - 1) := by
    unfold ixN
    rw [if_neg (by decide), if_pos (by omega)]
    congr 1
    omega
  unfold atI
  rw [e]
  exact h
def spCounts : Sp := fun vs H Q _ => ∃ (sp : Addr) (ss : List V) (ds : List B) (zs : List Nat), vs = [.ref sp, vt zs] ∧ H sp = some (.lst ss) ∧ SpAt H ss ds ∧ ds.length ≤ 300 ∧
  ∀ (p : Addr) (H' : Hp), Same H H' → H' p = some (.lst (ds.map fun d => vn (d.cnt zs))) → Q (.ref p) H'
section
variable {P : Program} {w : World} {K : PySem.W.Frag} {mg : Str → Option Value} {base : Heap} {f : Addr} {fd : FuncData}
theorem ok_counts {k : Nat} (F : Fun K "counts_in" "counts_in" s_counts_in f fd) : FnOk P w K mg base CX0 (k + 1) f fd ["spots", "letters"] spCounts := by
  refine F.ok sc_counts_in (fun vs H Q E h => ?_) (fun cdv A outer s H vs Q E hr h => ?_)
  · obtain ⟨sp, ss, ds, zs, rfl, _⟩ := h
    rfl
  obtain ⟨sp, ss, ds, zs, rfl, es, sa, dl, q⟩ := h
  refine ⟨_, (pss_cons (ps_set (i := 2) sc_counts_in.nd rfl (.inl rfl) (pe_lst (pa_cons pe_int pa_nil)))
    (pss_cons (ps_for PassesOwn.never rfl (pi_list (pe_slice sl_list (pv 0) (po_some pe_int) po_none)) (pg_tup rfl (pgs_cons (pg_name (i := 3) sc_counts_in.nd rfl (.inl rfl)) (pgs_cons (pg_name (i := 4) sc_counts_in.nd rfl (.inl rfl)) (pgs_cons (pg_name (i := 5) sc_counts_in.nd rfl (.inl rfl)) pgs_nil))))
      (pss_one (ps_expr (pe_bm PySem.F.plainAttrs_list PySem.F.slot_list_append PySem.F.type_list_append mt_append (pv 2) (pa_cons (pe_op op_add (pe_op op_add (pe_ix ix_list (pv 2) (pv 3) (fun _ _ => rfl)) (pe_ix ix_list (pv 2) (pv 5) (fun _ _ => rfl))) (pe_ifExp (pt_cmpR op_in_sign (pv 4) (pv 1) (by rfl)) pe_int pe_int)) pa_nil)))))
    (pss_one (ps_ret (pv 2))))), ?_⟩
  refine ⟨(by show 1 ≤ sizeLine; decide), fun pc npc => ?_⟩
  have k1 := same_new npc (.lst [.int 0])
  have ec1 := upd_same (H := H) (a := pc) (o := .lst [.int 0])
  generalize upd H pc (.lst [.int 0]) = H1 at k1 ec1 ⊢
  refine ⟨_, rfl, 1, rfl, sp, ss, rfl, SqL.of (k1 _ _ es), fun pl npl => ?_⟩
  rw [show (1 : Int) = ((1 : Nat) : Int) from rfl, cut_from]
  have k2 := same_new npl (.lst (ss.drop 1))
  have el2 := upd_same (H := H1) (a := pl) (o := .lst (ss.drop 1))
  have ec2 := k2 _ _ ec1
  have s2 := k1.trans k2
  generalize upd H1 pl (.lst (ss.drop 1)) = H2 at k2 el2 ec2 s2 ⊢
  have len := sa.len
  have d0 : 0 < ds.length := (List.getElem?_eq_some_iff.mp sa.pos).1
  have npl' : pl ≠ pc := Ne.symm (ne_of_none ec1 npl)
  have nil0 : ds.take 1 = [.nil] := by
    have := sa.pos
    cases ds with
    | nil => cases this
    | cons d r => cases this; rfl
  refine ⟨pl, rfl, ⟨_, SqL.of el2⟩, ?_⟩
  refine for_list (K := K) (a := pl) (xs := ss.drop 1) (fun j σ H' => ∃ o3 o4 o5 : Option V, σ = [some (.ref sp), some (vt zs), some (.ref pc), o3, o4, o5] ∧ Same H H' ∧ H' pl = some (.lst (ss.drop 1)) ∧ H' pc = some (.lst ((ds.take (j + 1)).map fun d => vn (d.cnt zs))))
    ⟨_, _, _, rfl, s2, el2, by rw [nil0]; exact ec2⟩ (fun j σ H' _ hp => by obtain ⟨_, _, _, _, _, h, _⟩ := hp; exact SqL.of h) (fun j x σ H3 hx hp => ?_) (fun σ H3 hp => ?_)
  · obtain ⟨o3, o4, o5, rfl, s3, el3, ec3⟩ := hp
    rw [List.getElem?_drop] at hx
    have hj := (List.getElem?_eq_some_iff.mp hx).1
    obtain ⟨a, i, i', c, l, r, h1, h2, hi, hi', e1, e2, e3⟩ := sa.each (1 + j) (by omega) (by omega)
    rw [h1] at hx
    cases hx
    have get : ∀ (n : Nat) (d : B), n < 1 + j → ds[n]? = some d → ((ds.take (j + 1)).map fun d => vn (d.cnt zs))[n]? = some (vn (d.cnt zs)) := fun n d hn hd => by
      rw [List.getElem?_map, List.getElem?_take, if_pos (by omega), hd]
      rfl
    refine ⟨a, _, rfl, SqT.of (s3 _ _ h2), rfl, _, _, rfl, _, _, rfl, _, _, rfl, rfl, ?_⟩
    refine ⟨_, rfl, .inl ⟨rfl, _, SqL.of ec3⟩, _, rfl, _, rfl, pc, _, _, _, rfl, rfl, SqL.of ec3, atI_nat (get i l hi e1), _, rfl, _, rfl, pc, _, _, _, rfl, rfl, SqL.of ec3, atI_nat (get i' r hi' e2), _, _, rfl, rfl, ?_⟩
    have tk : ds.take (j + 1 + 1) = ds.take (j + 1) ++ [.node l c r] := take_next (show ds[j + 1]? = _ by rw [Nat.add_comm j 1]; exact e3)
    have fin : ∀ (b : Nat), b = (if c ∈ zs then 1 else 0) → ∃ o3 o4 o5 : Option V, [some (.ref sp), some (vt zs), some (.ref pc), some (vn i), some (.str (ch c)), some (vn i')] = [some (.ref sp), some (vt zs), some (.ref pc), o3, o4, o5] ∧ Same H (upd H3 pc (.lst ((ds.take (j + 1)).map (fun d => vn (d.cnt zs)) ++ [.int ((l.cnt zs : Int) + (r.cnt zs : Int) + (b : Int))]))) ∧
        upd H3 pc (.lst ((ds.take (j + 1)).map (fun d => vn (d.cnt zs)) ++ [.int ((l.cnt zs : Int) + (r.cnt zs : Int) + (b : Int))])) pl = some (.lst (ss.drop 1)) ∧
        upd H3 pc (.lst ((ds.take (j + 1)).map (fun d => vn (d.cnt zs)) ++ [.int ((l.cnt zs : Int) + (r.cnt zs : Int) + (b : Int))])) pc = some (.lst ((ds.take (j + 1 + 1)).map fun d => vn (d.cnt zs))) := fun b hb => by
      refine ⟨_, _, _, rfl, fun b o e => ?_, ?_, ?_⟩
      · rw [upd_ne (ne_of_none e npc)]; exact s3 _ _ e
      · rw [upd_ne npl']; exact el3
      · rw [upd_same, tk, List.map_append]
        show _ = some (HO.lst (_ ++ [V.int ((l.cnt zs + r.cnt zs + (if c ∈ zs then 1 else 0) : Nat) : Int)]))
        rw [← hb, Int.natCast_add, Int.natCast_add]
    refine ⟨_, rfl, _, rfl, c, _, rfl, rfl, _, rfl, ?_⟩
    have sl : ((ds.take (j + 1)).map fun d => vn (d.cnt zs)).length < sizeLine := by
      rw [List.length_map, List.length_take]; show _ < 16777216; omega
    by_cases hc : c ∈ zs
    · rw [decide_eq_true (show c ∈ (tx zs).cps.toList from hc)]
      exact iteT ⟨_, _, rfl, rfl, pc, _, _, rfl, rfl, ec3, sl, fin 1 (if_pos hc).symm⟩
    · rw [decide_eq_false (show ¬ c ∈ (tx zs).cps.toList from hc)]
      exact iteF ⟨_, _, rfl, rfl, pc, _, _, rfl, rfl, ec3, sl, fin 0 (if_neg hc).symm⟩
  · obtain ⟨o3, o4, o5, rfl, s3, el3, ec3⟩ := hp
    refine ⟨_, rfl, q pc H3 s3 ?_⟩
    rw [ec3, List.length_drop, List.take_of_length_le (by omega)]
end
/-! ### count_label, nest_depth -/
section
variable {P : Program} {w : World} {K : PySem.W.Frag} {mg : Str → Option Value} {base : Heap} {f : Addr} {fd : FuncData}
def spLab (K : PySem.W.Frag) : Sp := fun vs H Q _ => ∃ (p : Addr) (us : List V) (es : List En) (X : B) (zs : List Nat), vs = [.ref p, vt zs] ∧ H p = some (.tup us) ∧ EnAt H us es ∧ GoodN 12 es ∧ 1 ≤ es.length ∧ es.length ≤ 20 ∧ (fulls es)[es.length - 1]? = some X ∧
  ∀ H', Same H H' → Q (vn (X.cnt zs)) H'
theorem ok_clabel (F : Fun K "count_label" "count_label" s_count_label f fd) (Dspots_of : Df P w K mg base 31 "spots_of" ["nest"] (spSpots K)) (Dcounts_in : Df P w K mg base 1 "counts_in" ["spots", "letters"] spCounts) :
    FnOk P w K mg base CX0 32 f fd ["nest", "label"] (spLab K) := by
  refine F.ok sc_count_label (fun vs H Q E h => ?_) (fun cdv A outer s H vs Q E hr h => ?_)
  · obtain ⟨p, us, es, X, zs, rfl, _⟩ := h
    rfl
  obtain ⟨p, us, es, X, zs, rfl, ep, en, gn, e1, e20, eX, q⟩ := h
  refine ⟨_, (pss_one (ps_ret (pe_ix ix_list (pe_call Dcounts_in.ok (hr.mono (by omega)) rfl Dcounts_in.g Dcounts_in.kp Dcounts_in.b .nil pass0 (pa_cons (pe_call Dspots_of.ok (hr.mono (by omega)) rfl Dspots_of.g Dspots_of.kp Dspots_of.b .nil pass0 (pa_cons (pv 0) pa_nil)) (pa_cons (pv 1) pa_nil))) (pe_un un_neg pe_int) (fun _ _ => rfl)))), ?_⟩
  refine ⟨_, rfl, p, us, es, rfl, ep, en, gn, e1, e20, fun sp ss ds H1 s1 nsp es1 sa dl last => ?_⟩
  refine ⟨_, rfl, sp, ss, ds, zs, rfl, es1, sa, dl, fun p2 H2 s2 e2 => ?_⟩
  have hd : ds[ds.length - 1]? = some X := last.trans eX
  refine ⟨_, rfl, p2, _, _, _, rfl, rfl, SqL.of e2, at_last (v := vn (X.cnt zs)) (by rw [List.length_map, List.getElem?_map, hd]; rfl), q H2 (s1.trans s2)⟩
end
/-! ### sums and depths of what hangs -/
theorem perm_sum {l m : List Nat} (p : l.Perm m) : l.sum = m.sum := by
  induction p with
  | nil => rfl
  | cons x _ ih => rw [List.sum_cons, List.sum_cons, ih]
  | swap x y l => simp only [List.sum_cons]; omega
  | trans _ _ h1 h2 => exact h1.trans h2
theorem cnt_sub (zs : List Nat) (t : B) : ∀ h : List Nat → B, (t.sub h).cnt zs = t.cnt zs + (t.op.map fun w => (h w).cnt zs).sum := by
  induction t with
  | nil =>
    intro h
    show (h []).cnt zs = 0 + ((h []).cnt zs + 0)
    omega
  | node l x r h1 h2 =>
    intro h
    show (l.sub _).cnt zs + (r.sub _).cnt zs + (if x ∈ zs then 1 else 0) = l.cnt zs + r.cnt zs + (if x ∈ zs then 1 else 0) + ((l.op.map (108 :: ·) ++ r.op.map (114 :: ·)).map fun w => (h w).cnt zs).sum
    rw [h1, h2, List.map_append, List.sum_append, List.map_map, List.map_map]
    show _ = _ + ((l.op.map fun w => (h (108 :: w)).cnt zs).sum + (r.op.map fun w => (h (114 :: w)).cnt zs).sum)
    omega
theorem hung_cons {F : List B} {l : Lk} {ls : List Lk} {w : List Nat} : hungL F (l :: ls) w = if l.1 = w then F.getD l.2 .nil else hungL F ls w := by
  unfold hungL
  rw [List.find?_cons]
  by_cases h : l.1 = w
  · rw [if_pos h, decide_eq_true h]
  · rw [if_neg h, decide_eq_false h]
theorem sum_zero : ∀ (O : List (List Nat)), (O.map fun _ => 0).sum = 0
  | [] => rfl
  | _ :: O => by rw [List.map_cons, List.sum_cons, sum_zero O]
theorem sum_links (g : B → Nat) (hg : g .nil = 0) (F : List B) : ∀ (ls : List Lk) (O : List (List Nat)), O.Nodup → (ls.map (·.1)).Nodup → (∀ l ∈ ls, l.1 ∈ O) → (O.map fun w => g (hungL F ls w)).sum = (ls.map fun l => g (F.getD l.2 .nil)).sum
  | [], O, _, _, _ => by
    have : (O.map fun w => g (hungL F [] w)) = O.map fun _ => 0 := List.map_congr_left fun w _ => hg
    rw [this, sum_zero]
    rfl
  | l :: ls, O, nO, nl, sub => by
    rw [List.map_cons, List.nodup_cons] at nl
    have hx := sub l List.mem_cons_self
    have p := List.perm_cons_erase hx
    rw [perm_sum (p.map _), List.map_cons, List.sum_cons, List.map_cons, List.sum_cons, hung_cons, if_pos rfl]
    have e : ((O.erase l.1).map fun w => g (hungL F (l :: ls) w)) = (O.erase l.1).map fun w => g (hungL F ls w) := List.map_congr_left fun w hw => by
      have : l.1 ≠ w := fun z => by
        have h := (nO.mem_erase_iff).mp hw
        exact h.1 z.symm
      rw [hung_cons, if_neg this]
    rw [e, sum_links g hg F ls (O.erase l.1) (nO.erase _) nl.2 fun k hk => ?_]
    refine (nO.mem_erase_iff).mpr ⟨fun z => nl.1 ?_, sub k (List.mem_cons_of_mem _ hk)⟩
    rw [← z]
    exact List.mem_map.mpr ⟨k, hk, rfl⟩
theorem cnt_full (zs : List Nat) {F : List B} {t : B} {ls : List Lk} (nd : (ls.map (·.1)).Nodup) (op : ∀ l ∈ ls, l.1 ∈ t.op) : (t.sub (hungL F ls)).cnt zs = t.cnt zs + (ls.map fun l => (F.getD l.2 .nil).cnt zs).sum := by
  rw [cnt_sub]
  rw [sum_links (fun b => b.cnt zs) rfl F ls t.op t.op_nodup nd op]
/-- m is the greatest of what hangs under t -/
theorem deep_sub (t : B) : ∀ (h : List Nat → B), (∀ w ∈ t.op, w.length + (h w).deep ≤ (t.sub h).deep) ∧ ∃ w ∈ t.op, w.length + (h w).deep = (t.sub h).deep := by
  induction t with
  | nil =>
    intro h
    have e : ([] : List Nat).length + (h []).deep = (B.nil.sub h).deep := Nat.zero_add _
    exact ⟨fun w hw => by rw [List.mem_singleton.mp hw]; exact Nat.le_of_eq e, [], List.mem_singleton.mpr rfl, e⟩
  | node l x r h1 h2 =>
    intro h
    obtain ⟨a1, w1, m1, b1⟩ := h1 fun w => h (108 :: w)
    obtain ⟨a2, w2, m2, b2⟩ := h2 fun w => h (114 :: w)
    have ed : ((B.node l x r).sub h).deep = 1 + max (l.sub fun w => h (108 :: w)).deep (r.sub fun w => h (114 :: w)).deep := rfl
    refine ⟨fun w hw => ?_, ?_⟩
    · rcases List.mem_append.mp (show w ∈ l.op.map (108 :: ·) ++ r.op.map (114 :: ·) from hw) with hw | hw
      · obtain ⟨v, hv, rfl⟩ := List.mem_map.mp hw
        have := a1 v hv
        rw [ed, List.length_cons]
        omega
      · obtain ⟨v, hv, rfl⟩ := List.mem_map.mp hw
        have := a2 v hv
        rw [ed, List.length_cons]
        omega
    · rw [ed]
      by_cases c : (r.sub fun w => h (114 :: w)).deep ≤ (l.sub fun w => h (108 :: w)).deep
      · exact ⟨108 :: w1, List.mem_append_left _ (List.mem_map.mpr ⟨w1, m1, rfl⟩), by rw [List.length_cons]; omega⟩
      · exact ⟨114 :: w2, List.mem_append_right _ (List.mem_map.mpr ⟨w2, m2, rfl⟩), by rw [List.length_cons]; omega⟩
theorem sub_nil (t : B) : (t.sub fun _ => .nil) = t := by
  induction t with
  | nil => rfl
  | node l x r h1 h2 =>
    show B.node (l.sub _) x (r.sub _) = _
    rw [h1, h2]
theorem op_deep {t : B} {w : List Nat} (h : w ∈ t.op) : w.length ≤ t.deep := by
  have := (deep_sub t fun _ => .nil).1 w h
  rw [sub_nil] at this
  exact this
theorem hung_some {F : List B} {ls : List Lk} {w : List Nat} (h : hungL F ls w ≠ .nil) : ∃ l ∈ ls, l.1 = w ∧ hungL F ls w = F.getD l.2 .nil := by
  unfold hungL at h ⊢
  cases hf : ls.find? (fun l => decide (l.1 = w)) with
  | none => rw [hf] at h; exact absurd rfl h
  | some l => exact ⟨l, List.mem_of_find?_eq_some hf, by simpa using List.find?_some hf, rfl⟩
theorem hung_at {F : List B} : ∀ {ls : List Lk} {l : Lk}, (ls.map (·.1)).Nodup → l ∈ ls → hungL F ls l.1 = F.getD l.2 .nil
  | k :: ls, l, nd, h => by
    rw [List.map_cons, List.nodup_cons] at nd
    rw [hung_cons]
    rcases List.mem_cons.mp h with rfl | h
    · rw [if_pos rfl]
    · rw [if_neg (fun z : k.1 = l.1 => nd.1 (by rw [z]; exact List.mem_map.mpr ⟨l, h, rfl⟩))]
      exact hung_at nd.2 h
theorem deep_full {F : List B} {t : B} {ls : List Lk} (nd : (ls.map (·.1)).Nodup) (op : ∀ l ∈ ls, l.1 ∈ t.op) {m : Nat} (h1 : t.deep ≤ m) (h2 : ∀ l ∈ ls, l.1.length + (F.getD l.2 .nil).deep ≤ m) (h3 : m = t.deep ∨ ∃ l ∈ ls, m = l.1.length + (F.getD l.2 .nil).deep) :
    (t.sub (hungL F ls)).deep = m := by
  obtain ⟨a, w, hw, b⟩ := deep_sub t (hungL F ls)
  apply Nat.le_antisymm
  · rw [← b]
    by_cases c : hungL F ls w = .nil
    · rw [c]
      exact Nat.le_trans (op_deep hw) h1
    · obtain ⟨l, hl, rfl, e⟩ := hung_some c
      rw [e]
      exact h2 l hl
  · rcases h3 with rfl | ⟨l, hl, rfl⟩
    · obtain ⟨_, v, hv, e⟩ := deep_sub t fun _ => .nil
      rw [sub_nil] at e
      have := a v hv
      have e' : v.length + 0 = t.deep := e
      omega
    · have := a l.1 (op l hl)
      rw [hung_at nd hl] at this
      exact this
/-! ### _law_grown, _law_written -/
theorem fulls_pre (es r : List En) : ∃ ex, fulls (es ++ r) = fulls es ++ ex := by
  have go : ∀ (r : List En) (F : List B), ∃ ex, r.foldl (fun F e => F ++ [e.1.sub (hungL F e.2)]) F = F ++ ex := by
    intro r
    induction r with
    | nil => intro F; exact ⟨[], by rw [List.append_nil]; rfl⟩
    | cons e r ih =>
      intro F
      obtain ⟨ex, h⟩ := ih (F ++ [e.1.sub (hungL F e.2)])
      exact ⟨[e.1.sub (hungL F e.2)] ++ ex, by rw [List.foldl_cons, h, List.append_assoc]⟩
  unfold fulls
  rw [List.foldl_append]
  exact go r _
theorem hung_pre {F ex : List B} {ls : List Lk} (h : ∀ l ∈ ls, l.2 < F.length) (w : List Nat) : hungL (F ++ ex) ls w = hungL F ls w := by
  unfold hungL
  cases hf : ls.find? (fun l => decide (l.1 = w)) with
  | none => rfl
  | some l =>
    show (F ++ ex).getD l.2 .nil = F.getD l.2 .nil
    rw [List.getD_eq_getElem?_getD, List.getD_eq_getElem?_getD, List.getElem?_append_left (h l (List.mem_of_find?_eq_some hf))]
theorem full_get {lim : Nat} {es : List En} (g : GoodN lim es) {k : Nat} {t : B} {ls : List Lk} (h : es[k]? = some (t, ls)) : (fulls es)[k]? = some (t.sub (hungL (fulls es) ls)) := by
  have hk := (List.getElem?_eq_some_iff.mp h).1
  have tk : es.take (k + 1) = es.take k ++ [(t, ls)] := take_next h
  obtain ⟨ex, e⟩ := fulls_pre (es.take (k + 1)) (es.drop (k + 1))
  rw [List.take_append_drop] at e
  obtain ⟨ex2, e2⟩ := fulls_pre (es.take k) (es.drop k)
  rw [List.take_append_drop] at e2
  have fl : (fulls (es.take k)).length = k := by rw [fulls_len, List.length_take]; omega
  have eh : hungL (fulls es) ls = hungL (fulls (es.take k)) ls := funext fun w => by
    rw [e2, hung_pre fun l hl => by rw [fl]; exact (g k _ h).ix l hl]
  rw [eh, e, tk, fulls_snoc, List.append_assoc, List.getElem?_append_right (by omega), show k - (fulls (es.take k)).length = 0 by omega]
  rfl
def spGrown (N : Nat) : Sp := fun vs H Q _ => ∃ (p : Addr) (us : List V) (es : List En) (k : Nat) (v : V) (t T : B) (ls : List Lk) (q : List Nat), vs = [.ref p, .int (k : Int), v, vt q] ∧ H p = some (.tup us) ∧ EnAt H us es ∧ GoodN 12 es ∧ es[k]? = some (T, ls) ∧ BAt H v t ∧ (t.sub fun w => hungL (fulls es) ls (q ++ w)).deep + k < N ∧ t.size + q.length ≤ 100 ∧
  ∀ (v' : V) (H' : Hp), Same H H' → BAt H' v' (t.sub fun w => hungL (fulls es) ls (q ++ w)) → Q v' H'
/-! ### _law_sizes -/
theorem size_sub (t : B) : ∀ h : List Nat → B, (t.sub h).size = t.size + (t.op.map fun w => (h w).size).sum := by
  induction t with
  | nil =>
    intro h
    show (h []).size = 0 + ((h []).size + 0)
    omega
  | node l x r h1 h2 =>
    intro h
    show (l.sub _).size + 1 + (r.sub _).size = l.size + 1 + r.size + ((l.op.map (108 :: ·) ++ r.op.map (114 :: ·)).map fun w => (h w).size).sum
    rw [h1, h2, List.map_append, List.sum_append, List.map_map, List.map_map]
    show _ = _ + ((l.op.map fun w => (h (108 :: w)).size).sum + (r.op.map fun w => (h (114 :: w)).size).sum)
    omega
theorem size_full {F : List B} {t : B} {ls : List Lk} (nd : (ls.map (·.1)).Nodup) (op : ∀ l ∈ ls, l.1 ∈ t.op) : (t.sub (hungL F ls)).size = t.size + (ls.map fun l => (F.getD l.2 .nil).size).sum := by
  rw [size_sub]
  rw [sum_links (fun b => b.size) rfl F ls t.op t.op_nodup nd op]
theorem cast_sum : ∀ l : List Nat, (l.map fun n : Nat => (n : Int)).sum = ((l.sum : Nat) : Int)
  | [] => rfl
  | x :: l => by rw [List.map_cons, List.sum_cons, List.sum_cons, cast_sum l]; omega
theorem links_len {lim k : Nat} {t : B} {ls : List Lk} (g : GoodE lim k (t, ls)) (h : lim ≤ 12) : ls.length ≤ 13 := by
  have h1 : (ls.map (·.1)).length ≤ t.op.length := nodup_le g.nd fun p hp => by
    obtain ⟨l, hl, rfl⟩ := List.mem_map.mp hp
    exact g.op l hl
  rw [List.length_map, t.op_len] at h1
  have : t.size ≤ lim := g.s2
  omega
def spSizes : Sp := fun vs H Q _ => ∃ (p : Addr) (us : List V) (es : List En), vs = [.ref p] ∧ H p = some (.tup us) ∧ EnAt H us es ∧ GoodN 12 es ∧ es.length ≤ 20 ∧
  ∀ (a : Addr) (H' : Hp), Same H H' → H' a = some (.lst ((fulls es).map fun X => vn X.size)) → Q (.ref a) H'
section
variable {P : Program} {w : World} {K : PySem.W.Frag} {mg : Str → Option Value} {base : Heap} {f : Addr} {fd : FuncData}
theorem ok_sizes (F : Fun K "_law_sizes" "_law_sizes" s__law_sizes f fd) (M : Mgs mg) (msum : mg "sum" = none) (D_law_nodes : Df P w K mg base 40 "_law_nodes" ["_law_tree_here", "_law_path"] (spNodes 40)) : FnOk P w K mg base CX0 41 f fd ["_law_nest_here"] spSizes := by
  refine F.ok sc__law_sizes (fun vs H Q E h => ?_) (fun cdv A outer s H vs Q E hr h => ?_)
  · obtain ⟨p, us, es, rfl, _⟩ := h
    rfl
  obtain ⟨p, us, es, rfl, ep, en, gn, e20, q⟩ := h
  refine ⟨_, (pss_cons (ps_set (i := 1) sc__law_sizes.nd rfl (.inr rfl) (pe_lst pa_nil))
    (pss_cons (ps_for PassesOwn.never rfl (pi_tup (pv 0)) (pg_tup rfl (pgs_cons (pg_name (i := 2) sc__law_sizes.nd rfl (.inl rfl)) (pgs_cons (pg_name (i := 3) sc__law_sizes.nd rfl (.inl rfl)) pgs_nil)))
      (pss_one (ps_expr (pe_bm PySem.F.plainAttrs_list PySem.F.slot_list_append PySem.F.type_list_append mt_append (pv 1) (pa_cons (pe_op op_add (pe_callB call_len_seq rfl M.len PySem.boot_len (pa_cons (pe_call D_law_nodes.ok (hr.mono (by omega)) rfl D_law_nodes.g D_law_nodes.kp D_law_nodes.b .nil pass0 (pa_cons (pv 2) (pa_cons pe_str pa_nil))) pa_nil)) (pe_callB (cr_sum rfl) rfl msum (by decide +kernel) (pa_cons (pe_lc (own := [("_law_path", 4), ("_law_index", 5)]) (g := gTup K 2 (gCons (gName 4) (gCons (gName 5) gNil))) (tt := tYes) rfl sc__law_sizes.nd (pi_tup (pv 3)) (blkOk_by (N := ["_law_nest_here", "_law_found", "_law_tree_here", "_law_links", "_law_path", "_law_index"]) (sc := defScope s__law_sizes) (by decide +kernel)) (fun _ _ _ _ _ => (pg_tup rfl (pgs_cons (pg_name (i := 4) sc__law_sizes.nd rfl (.inl rfl)) (pgs_cons (pg_name (i := 5) sc__law_sizes.nd rfl (.inl rfl)) pgs_nil)))) (fun _ _ _ _ _ => pts_nil) (fun _ _ _ _ _ => (pe_ix (show IxR _ (rIxL K) from ix_list) (pv 1) (pv 5) (fun _ _ => rfl)))) pa_nil))) pa_nil)))))
    (pss_one (ps_ret (pv 1))))), ?_⟩
  refine ⟨(by show 0 ≤ sizeLine; decide), fun pf npf => ?_⟩
  have k1 := same_new npf (.lst [])
  have ef := upd_same (H := H) (a := pf) (o := .lst [])
  generalize upd H pf (.lst []) = H1 at k1 ef ⊢
  have el := en.len
  refine ⟨_, rfl, p, rfl, ⟨_, SqT.of (k1 _ _ ep)⟩, ?_⟩
  refine for_tup (K := K) (a := p) (xs := us) (fun k σ H' => ∃ o2 o3 o4 o5 : Option V, σ = [some (.ref p), some (.ref pf), o2, o3, o4, o5] ∧ Same H H' ∧ H' pf = some (.lst ((fulls (es.take k)).map fun X => vn X.size))) ⟨_, _, _, _, rfl, k1, ef⟩ (fun k σ H' _ hp => by obtain ⟨_, _, _, _, _, h, _⟩ := hp; exact SqT.of (h _ _ ep)) (fun k x σ H3 hx hp => ?_) (fun σ H3 hp => ?_)
  · obtain ⟨o2, o3, o4, o5, rfl, s3, ef3⟩ := hp
    obtain ⟨a, la, tv, ls', t, ls, rfl, ee, ea, at0, ela, lk⟩ := en.get hx
    have hk := (List.getElem?_eq_some_iff.mp ee).1
    have ge := gn k _ ee
    have ll := lk.len
    have lsl := links_len ge (Nat.le_refl _)
    have t12 : t.size ≤ 12 := ge.s2
    have fl : (fulls (es.take k)).length = k := by rw [fulls_len, List.length_take]; omega
    refine ⟨a, _, rfl, SqT.of (s3 _ _ ea), rfl, _, _, rfl, _, _, rfl, rfl, ?_⟩
    refine ⟨_, rfl, .inl ⟨rfl, _, SqL.of ef3⟩, _, rfl, tv, t, [], by rw [str_0]; rfl, at0.same s3, by omega, by show t.size + 0 ≤ 500; omega, fun pn un H4 s4 en4 st4 => ?_⟩
    have ul := st4.len
    rw [B.steps_len] at ul
    refine ⟨pn, un, rfl, .inl (SqL.of en4), _, rfl, la, rfl, ⟨_, SqT.of (s4 _ _ (s3 _ _ ela))⟩, fun D nD => ?_⟩
    have kD := same_new nD (.lst [])
    have ef4 := s4 _ _ ef3
    refine lc_tup (K := K) (a := la) (xs := ls') (fun j H' => Same H4 H' ∧ H' D = some (.lst ((ls.take j).map fun l => vn ((fulls (es.take k)).getD l.2 .nil).size))) ⟨kD, upd_same⟩ (fun j H' _ hp => SqT.of (hp.1 _ _ (s4 _ _ (s3 _ _ ela)))) (fun j x H5 hx5 hp => ?_) (fun H5 hp => ?_)
    · obtain ⟨s5, eD⟩ := hp
      obtain ⟨b, pq, n, rfl, el5, eb⟩ := lk.get hx5
      have hj := (List.getElem?_eq_some_iff.mp el5).1
      have hn : n < (fulls (es.take k)).length := by rw [fl]; exact ge.ix (pq, n) (List.mem_of_getElem? el5)
      refine ⟨b, _, rfl, SqT.of (s5 _ _ (s4 _ _ (s3 _ _ eb))), rfl, _, _, rfl, _, _, rfl, rfl, rfl, kept ?_⟩
      refine ⟨_, rfl, _, rfl, pf, _, _, _, rfl, rfl, SqL.of (s5 _ _ ef4), atI_nat (by rw [List.getElem?_map, List.getElem?_eq_getElem hn]; rfl), _, eD, ?_, fun b o e => ?_, ?_⟩
      · rw [List.length_map, List.length_take]; exact small1000 (by omega)
      · rw [upd_ne (ne_of_none e nD)]; exact s5 _ _ e
      · rw [upd_same, take_next el5, List.map_append]
        show _ = some (HO.lst (_ ++ [vn ((fulls (es.take k)).getD n .nil).size]))
        rw [List.getD_eq_getElem?_getD, List.getElem?_eq_getElem hn]
        rfl
    · obtain ⟨s5, eD⟩ := hp
      rw [ll, List.take_of_length_le (Nat.le_refl _)] at eD
      have eD' : H5 D = some (.lst (((ls.map fun l => ((fulls (es.take k)).getD l.2 .nil).size).map fun n : Nat => (n : Int)).map V.int)) := by
        rw [eD, List.map_map, List.map_map]; rfl
      refine ⟨D, _, rfl, SqL.of eD', ?_⟩
      rw [cast_sum]
      refine ⟨_, _, rfl, rfl, pf, _, _, rfl, rfl, s5 _ _ ef4, by rw [List.length_map, fl]; show _ < 16777216; omega, ?_⟩
      refine ⟨_, _, _, _, rfl, fun b o e => ?_, ?_⟩
      · rw [upd_ne (ne_of_none e npf)]; exact s5 _ _ (s4 _ _ (s3 _ _ e))
      · rw [upd_same, show es.take (k + 1) = es.take k ++ [(t, ls)] from take_next ee, fulls_snoc, List.map_append]
        refine congrArg (fun z : Int => some (HO.lst (((fulls (es.take k)).map fun X => vn X.size) ++ [V.int z]))) ?_
        show _ = (((t.sub (hungL (fulls (es.take k)) ls)).size : Nat) : Int)
        rw [size_full (t := t) (ls := ls) ge.nd ge.op, ul]
        omega
  · obtain ⟨o2, o3, o4, o5, rfl, s3, ef3⟩ := hp
    rw [el, List.take_of_length_le (Nat.le_refl _)] at ef3
    exact ⟨_, rfl, q pf H3 s3 ef3⟩
end
/-! ### _law_small_nest -/
theorem EnAt.take {H : Hp} {vs : List V} {es : List En} (h : EnAt H vs es) : ∀ n : Nat, EnAt H (vs.take n) (es.take n) := by
  induction h with
  | nil => intro n; rw [List.take_nil, List.take_nil]; exact .nil
  | cons e1 e2 e3 e4 _ ih =>
    intro n
    match n with
    | 0 => exact .nil
    | n + 1 => exact .cons e1 e2 e3 e4 (ih n)
theorem GoodN.take {lim : Nat} {es : List En} (g : GoodN lim es) (n : Nat) : GoodN lim (es.take n) := fun i e h => by
  rw [List.getElem?_take] at h
  split at h
  · exact g i e h
  · cases h
theorem GoodN.more {lim lim' : Nat} {es : List En} (g : GoodN lim es) (h : lim ≤ lim') : GoodN lim' es := fun i e k => ⟨(g i e k).s1, Nat.le_trans (g i e k).s2 h, (g i e k).lt, (g i e k).nd, (g i e k).op, (g i e k).ix⟩
theorem six_last (n : Nat) : HT.sIx n n (some (-1)) = n - 1 := by
  show (if (-1 : Int) < 0 then ((-1 : Int) + (n : Int)).toNat else min (-1 : Int).toNat n) = _
  rw [if_pos (by decide)]
  omega
theorem cut_init (xs : List V) : cutV xs none (some (-1)) = xs.take (xs.length - 1) := by
  unfold cutV
  rw [HT.sIx_none, six_last, List.drop_zero, Nat.sub_zero]
theorem first_small {lim : Nat} {es : List En} (g : GoodN lim es) {X : B} (h1 : es.length = 1) (hX : (fulls es)[es.length - 1]? = some X) : X.size ≤ lim := by
  obtain ⟨⟨t, ls⟩, e⟩ : ∃ e, es[0]? = some e := ⟨_, List.getElem?_eq_getElem (by omega)⟩
  have ge := g 0 _ e
  have f := full_get g e
  rw [h1] at hX
  rw [show (1 - 1 : Nat) = 0 from rfl, f] at hX
  cases hX
  have l0 : ls = [] := by
    cases ls with
    | nil => rfl
    | cons l r => exact absurd (ge.ix l List.mem_cons_self) (Nat.not_lt_zero _)
  rw [size_full (t := t) (ls := ls) ge.nd ge.op, l0]
  exact ge.s2
def spSmall : Sp := fun vs H Q _ => ∃ (D : Deck) (n L : Nat), vs = [.ref D.dk, .int (L : Int)] ∧ 4 ≤ L ∧ DeckOk H D n ∧ n + 4000 ≤ 1000000 ∧
  ∀ (p : Addr) (us : List V) (es : List En) (X : B) (n' : Nat) (H' : Hp), DeckOk H' D n' → n' ≤ n + 4000 → SameD D H H' → H' p = some (.tup us) → EnAt H' us es → GoodN 12 es → 1 ≤ es.length → es.length ≤ 4 → (fulls es)[es.length - 1]? = some X → X.size ≤ L → Q (.ref p) H'
section
variable {P : Program} {w : World} {K : PySem.W.Frag} {mg : Str → Option Value} {base : Heap} {f : Addr} {fd : FuncData}
theorem ok_small (F : Fun K "_law_small_nest" "_law_small_nest" s__law_small_nest f fd) (D_law_nest : Df P w K mg base 42 "_law_nest" ["_law_deck_here", "_law_entries", "_law_limit", "_law_few"] spNest) (D_law_sizes : Df P w K mg base 41 "_law_sizes" ["_law_nest_here"] spSizes) :
    FnOk P w K mg base CX0 43 f fd ["_law_deck_here", "_law_limit"] spSmall := by
  refine F.ok sc__law_small_nest (fun vs H Q E h => ?_) (fun cdv A outer s H vs Q E hr h => ?_)
  · obtain ⟨D, n, L, rfl, _⟩ := h
    rfl
  obtain ⟨D, n, L, rfl, hL, d, hn, q⟩ := h
  refine ⟨_, (pss_cons (ps_set (i := 2) sc__law_small_nest.nd rfl (.inl rfl) (pe_call D_law_nest.ok (hr.mono (by omega)) rfl D_law_nest.g D_law_nest.kp D_law_nest.b .nil pass0 (pa_cons (pv 0) (pa_cons pe_int (pa_cons pe_int (pa_cons pe_int pa_nil))))))
    (pss_cons (ps_while PassesOwn.never (pt_cmpR op_gt (pe_ix ix_list (pe_call D_law_sizes.ok (hr.mono (by omega)) rfl D_law_sizes.g D_law_sizes.kp D_law_sizes.b .nil pass0 (pa_cons (pv 2) pa_nil)) (pe_un un_neg pe_int) (fun _ _ => rfl)) (pv 1) (nomark _))
      (pss_one (ps_set (i := 2) sc__law_small_nest.nd rfl (.inl rfl) (pe_slice sl_tupA (pv 2) po_none (po_some (pe_un un_neg pe_int))))))
    (pss_one (ps_ret (pv 2))))), ?_⟩
  refine ⟨_, rfl, D, n, 4, 4, 2, rfl, d, hn, by decide, by decide, by decide, by decide, fun p us es n1 H1 d1 n1b s1 ep en gn e1 e4 => ?_⟩
  refine while_by (fun σ H' => ∃ (p : Addr) (us : List V) (es : List En), σ = [some (.ref D.dk), some (.int (L : Int)), some (.ref p)] ∧ DeckOk H' D n1 ∧ SameD D H H' ∧ H' p = some (.tup us) ∧ EnAt H' us es ∧ GoodN 4 es ∧ 1 ≤ es.length ∧ es.length ≤ 4) (fun σ H' => match σ with | [_, _, some (.ref p)] => (match H' p with | some (.tup us) => us.length | _ => 0) | _ => 0)
    ⟨p, us, es, rfl, d1, s1, ep, en, gn, e1, e4⟩ (fun σ H' hp => ?_) ?_
  · obtain ⟨p, us, es, rfl, d2, s2, ep, en, gn, e1, e4⟩ := hp
    have el := en.len
    have fl := fulls_len es
    obtain ⟨X, eX⟩ : ∃ X, (fulls es)[es.length - 1]? = some X := ⟨_, List.getElem?_eq_getElem (by omega)⟩
    refine ⟨_, rfl, p, us, es, rfl, ep, en, gn.more (by decide), by omega, fun a H3 s3 e3 => ?_⟩
    refine ⟨_, rfl, a, _, _, _, rfl, rfl, SqL.of e3, at_last (v := vn X.size) (by rw [List.length_map, fl, List.getElem?_map, eX]; rfl), ?_⟩
    refine ⟨_, rfl, _, _, rfl, rfl, _, rfl, ?_⟩
    by_cases hX : (X.size : Int) > (L : Int)
    · rw [decide_eq_true hX]
      refine iteT ?_
      have h2 : 2 ≤ es.length := by
        by_cases h1 : es.length = 1
        · have := first_small gn h1 eX
          omega
        · omega
      refine ⟨_, rfl, 1, rfl, -1, rfl, p, us, rfl, SqT.of (s3 _ _ ep), fun hw => ?_, fun _ b nb => ?_⟩
      · have := hw.2
        rw [six_last] at this
        omega
      rw [cut_init]
      have k4 := same_new nb (.tup (us.take (us.length - 1)))
      refine ⟨⟨b, _, es.take (us.length - 1), rfl, (d2.same s3).same k4, s2.trans (SameD.of (s3.trans k4)), upd_same, (en.keep (Tw.Same.keepT (s3.trans k4))).take _, gn.take _, by rw [List.length_take]; omega, by rw [List.length_take]; omega⟩, ?_⟩
      show (match upd H3 b (.tup (us.take (us.length - 1))) b with | some (.tup us) => us.length | _ => 0) < (match H' p with | some (.tup us) => us.length | _ => 0)
      rw [upd_same, ep]
      show (us.take (us.length - 1)).length < us.length
      rw [List.length_take]
      omega
    · rw [decide_eq_false hX]
      refine iteF ?_
      exact ⟨_, rfl, q p us es X n1 H3 (d2.same s3) n1b (s2.trans (SameD.of s3)) (s3 _ _ ep) (en.keep (Tw.Same.keepT s3)) (gn.more (by decide)) e1 e4 eX (by omega)⟩
  · intro σ H' Q1 Q2 hQ h
    obtain ⟨v, e, p, us, es, h1, h2, h3, h4, h5, h6⟩ := h
    refine ⟨v, e, p, us, es, h1, h2, h3, h4, h5, fun a H3 s3 e3 => ?_⟩
    obtain ⟨i, e4, a', xs, j, z, b1, b2, b3, b4, y, b5, i1, i2, b6, b7, b, b8, b9⟩ := h6 a H3 s3 e3
    exact ⟨i, e4, a', xs, j, z, b1, b2, b3, b4, y, b5, i1, i2, b6, b7, b, b8, hQ _ _ b9⟩
end
/-! ### what the nodes' list tells: the depth, the numbers of a letter -/
theorem steps_deep (t : B) : ∀ q : List Nat, (∀ s ∈ t.steps .first q, s.1.length + 1 ≤ q.length + t.deep) ∧ (t ≠ .nil → ∃ s ∈ t.steps .first q, s.1.length + 1 = q.length + t.deep) := by
  induction t with
  | nil => intro q; exact ⟨(fun s hs => by cases hs), fun h => absurd rfl h⟩
  | node l x r h1 h2 =>
    intro q
    obtain ⟨a1, b1⟩ := h1 (q ++ [108])
    obtain ⟨a2, b2⟩ := h2 (q ++ [114])
    have e1 : (q ++ [108]).length = q.length + 1 := by rw [List.length_append]; rfl
    have e2 : (q ++ [114]).length = q.length + 1 := by rw [List.length_append]; rfl
    have es : (B.node l x r).steps .first q = [(q, x)] ++ l.steps .first (q ++ [108]) ++ r.steps .first (q ++ [114]) := rfl
    have ed : (B.node l x r).deep = 1 + max l.deep r.deep := rfl
    refine ⟨fun s hs => ?_, fun _ => ?_⟩
    · rw [es, List.mem_append, List.mem_append] at hs
      rcases hs with (hs | hs) | hs
      · rw [List.mem_singleton.mp hs, ed]
        show q.length + 1 ≤ _
        omega
      · have := a1 s hs
        omega
      · have := a2 s hs
        omega
    · rw [es]
      by_cases c : r.deep ≤ l.deep
      · by_cases hl : l = .nil
        · have d0 : l.deep = 0 := by rw [hl]; rfl
          exact ⟨(q, x), List.mem_append_left _ (List.mem_append_left _ (List.mem_singleton.mpr rfl)), by show q.length + 1 = _; omega⟩
        · obtain ⟨s, hs, e⟩ := b1 hl
          exact ⟨s, List.mem_append_left _ (List.mem_append_right _ hs), by omega⟩
      · have hr : r ≠ .nil := fun z => by
          have d0 : r.deep = 0 := by rw [z]; rfl
          omega
        obtain ⟨s, hs, e⟩ := b2 hr
        exact ⟨s, List.mem_append_right _ hs, by omega⟩
theorem cnt_pre (c : Nat) (t : B) : (t.pre.filter fun d => decide (d = c)).length = t.cnt [c] := by
  induction t with
  | nil => rfl
  | node l x r h1 h2 =>
    show ((x :: (l.pre ++ r.pre)).filter fun d => decide (d = c)).length = l.cnt [c] + r.cnt [c] + if x ∈ [c] then 1 else 0
    rw [List.filter_cons, List.filter_append]
    by_cases h : x = c
    · rw [if_pos (decide_eq_true h), if_pos (List.mem_singleton.mpr h), List.length_cons, List.length_append, h1, h2]
    · rw [if_neg (by simpa using h), if_neg (fun z => h (List.mem_singleton.mp z)), List.length_append, h1, h2]
      rfl
theorem cnt_steps (c : Nat) (t : B) (q : List Nat) : ((t.steps .first q).filter fun s => decide (s.2 = c)).length = t.cnt [c] := by
  rw [← cnt_pre, show t.pre = (t.steps .first q).map (·.2) from (t.steps_wk .first q).symm, List.filter_map, List.length_map]
  rfl
theorem cnt_all {zs : List Nat} {t : B} (h : ∀ c ∈ t.pre, c ∈ zs) : t.cnt zs = t.size := by
  induction t with
  | nil => rfl
  | node l x r h1 h2 =>
    have a1 := h1 fun c hc => h c (List.mem_cons_of_mem _ (List.mem_append_left _ hc))
    have a2 := h2 fun c hc => h c (List.mem_cons_of_mem _ (List.mem_append_right _ hc))
    show l.cnt zs + r.cnt zs + (if x ∈ zs then 1 else 0) = l.size + 1 + r.size
    rw [if_pos (h x List.mem_cons_self), a1, a2]
    omega
/-- all labels that hang somewhere are letters -/
theorem pre_sub (P : Nat → Prop) (t : B) : ∀ h : List Nat → B, (∀ c ∈ t.pre, P c) → (∀ w, ∀ c ∈ (h w).pre, P c) → ∀ c ∈ (t.sub h).pre, P c := by
  induction t with
  | nil => intro h _ a; exact a []
  | node l x r h1 h2 =>
    intro h a b c hc
    have hc : c ∈ x :: ((l.sub fun w => h (108 :: w)).pre ++ (r.sub fun w => h (114 :: w)).pre) := hc
    rcases List.mem_cons.mp hc with rfl | hc
    · exact a c List.mem_cons_self
    · rcases List.mem_append.mp hc with hc | hc
      · exact h1 _ (fun d hd => a d (List.mem_cons_of_mem _ (List.mem_append_left _ hd))) (fun w => b _) c hc
      · exact h2 _ (fun d hd => a d (List.mem_cons_of_mem _ (List.mem_append_right _ hd))) (fun w => b _) c hc
theorem fulls_lt {lim : Nat} {es : List En} (g : GoodN lim es) : ∀ k, k ≤ es.length → ∀ X ∈ fulls (es.take k), ∀ c ∈ X.pre, 97 ≤ c ∧ c ≤ 122 := by
  intro k
  induction k with
  | zero => intro _ X hX; cases hX
  | succ k ih =>
    intro hk X hX
    have ee : es[k]? = some es[k] := List.getElem?_eq_getElem (by omega)
    rw [show es.take (k + 1) = es.take k ++ [es[k]] from take_next ee, fulls_snoc] at hX
    rcases List.mem_append.mp hX with hX | hX
    · exact ih (by omega) X hX
    · rw [List.mem_singleton.mp hX]
      refine pre_sub (fun c => 97 ≤ c ∧ c ≤ 122) _ _ (g k _ ee).lt fun w c hc => ?_
      by_cases z : hungL (fulls (es.take k)) es[k].2 w = .nil
      · rw [z] at hc; cases hc
      · obtain ⟨l, hl, _, e⟩ := hung_some z
        have fl : (fulls (es.take k)).length = k := by rw [fulls_len, List.length_take]; omega
        have hl2 : l.2 < (fulls (es.take k)).length := by rw [fl]; exact (g k _ ee).ix l hl
        rw [e, List.getD_eq_getElem?_getD, List.getElem?_eq_getElem hl2] at hc
        exact ih (by omega) _ (List.getElem_mem hl2) c hc
/-! ### a def entered at one caller -/
theorem enter_def {P : Program} {w : World} {K : PySem.W.Frag} {mg : Str → Option Value} {base : Heap} {f : Addr} {fd : FuncData} {N ps : List Str} {k : Nat} {x qual : Str} {st : Stmt} (F : Fun K x qual st f fd) (S : FnScope N ps (defScope st))
    {A : Around} {outer : List Env} {s : Shared} {H : Hp} {args : Args} {us : List Value} {vs : List V} {Q : VK} {E : XK}
    (room : Room (k + 1) A) (en : Env0 P w K mg base A outer s H) (bd : BindsTo s fd args (ps.zip us)) (rel : Vals vs us) (hln : vs.length = ps.length)
    (body : ∀ cdv : Value, Room k (A.deeper (envOfC qual (defScope st) s.heap.objs.size f cdv)) →
      ∃ t, PSs (cxOf CX0 P w K mg base N qual (defScope st) f cdv A outer s H E).nox (defBody st) t ∧ t { nx := fun _ H' => Q .non H', rt := Q } (start N vs) H) :
    codeAny (model P w) A (.call (.ref f) args) (CR CX0 outer P w H s Q E) s := by
  obtain ⟨oc, od, kV, doc, pm, an, cdv, ct, osl, rfl, look, code⟩ := F.ex
  have still : ∀ b o, base.get? b = some o → s.heap.get? b = some o := fun b o e => (en.bs b o e).1
  have inK : K.In s.heap := en.mod.kin.keeps still
  have noL : s.heap.NoLimit := en.mod.nolimit.keeps still
  have kinds : ∀ y ∈ ps.zip us, (defScope st).names.lookup y.1 = some .local ∨
      ((defScope st).names.lookup y.1 = some .cell ∧ ((cellsFrom (s.heap.objs.size + 1) (defScope st).names []).lookup y.1).isSome = true) := by
    rintro ⟨nm, u⟩ hy
    cases S.par nm (List.of_mem_zip hy).1 with
    | inl z => exact .inl z
    | inr z => exact .inr ⟨z, PySem.W.cellsFrom_some _ _ _ (.inl z)⟩
  have step := codeAny_call_function (prog := P) (w := w) (A := A) (s := s) room.depth (inK _ _ look) rfl S.co S.gen rfl (PySem.W.codeRec_of inK code)
    (R := CR CX0 outer P w H s Q E) (args := args)
  refine step (bd _ _ _ _ ?_)
  refine wpAny_newFunctionEnv_cells S.kind kinds ?_
  intro env isEnv s1 inC
  subst isEnv
  refine ⟨noL.keeps inC.toInCall.keep, codeAny_func ?_⟩
  obtain ⟨t, ht, hq⟩ := body cdv (room.deeper _)
  have J : Inv (cxOf CX0 P w K mg base N qual (defScope st) f cdv A outer s H E) [] (start N vs) H s1 := inv_start S room.hd en hln rel inC
  refine wpAny_mono (ht.nox.run [] s1 (start N vs) H _ J hq) ?_ ?_
  · intro fl s' done
    cases fl with
    | ret u =>
      obtain ⟨v, σ', H', I', rv, qv⟩ := done
      exact ⟨v, H', I'.os, I'.bare, I'.base, I'.hok, rv, qv⟩
    | next =>
      obtain ⟨σ', H', I', qv⟩ := done
      exact ⟨V.non, H', I'.os, I'.bare, I'.base, I'.hok, rfl, qv⟩
    | brk => exact done.elim fun _ z => z.elim fun _ z => z.2.elim
    | cont => exact done.elim fun _ z => z.elim fun _ z => z.2.elim
  · intro e s' z
    exact z
/-! ### the law's own call -/
theorem law_at {P : Program} {w : World} {K : PySem.W.Frag} {mg mb : Str → Option Value} {fa a : Addr} {s₁ : Shared} {vs : List Value} {ns : List Int}
    (inK : K.In s₁.heap) (gl : s₁.heap.Ns mainGlobals mg) (bl : s₁.heap.Ns builtinsNs mb) (isB : ∀ x : Str, x ≠ "__name__" → mb x = bootBuiltins x) (lim : s₁.heap.NoLimit) (gens : s₁.gens = #[])
    (obj : s₁.heap.get? a = some { cls := .type "list", data := .seq vs.toArray }) (hints : IntsAre vs ns) (few : ns.length ≤ sizeLine)
    (run : ∀ (base : Heap) (H : Hp), K.In base → base.Ns mainGlobals mg → Env0 P w K mg base callerA [] s₁ H → SqL K H a (ns.map V.int) →
      codeAny (model P w) callerA (.call (.ref fa) ⟨[.ref a], []⟩) (CR CX0 [] P w H s₁ (fun v _ => v = .bl true) fun _ _ _ => False) s₁) :
    codeAny (model P w) callerA (.call (.ref fa) ⟨[.ref a], []⟩) (fun r s' => r = .ok (.ret (.bool true)) ∧ OldK s₁.heap s'.heap ∧ s'.os = s₁.os ∧ AllBare s'.gens) s₁ := by
  have rel := vals_ints hints
  have lens := hints.length
  have found : ∃ H : Hp, Only H ∧ SqL K H a (ns.map V.int) ∧ HOk P w H s₁.heap ∧ (∀ b u, H b = some u → b = a ∧ K.lookup a = none) := by
    cases inText : K.lookup a with
    | some o =>
      have same := inK a o inText
      rw [obj] at same
      cases same
      have never : ∀ (u : HO), (none : Option HO) ≠ some u := fun u z => by cases z
      refine ⟨fun _ => none, fun _ => .inl rfl, ?_, (fun b u z => (never u z).elim), (fun b u z => (never u z).elim)⟩
      refine .inr ⟨_, vs.toArray, _, inText, rfl, rfl, rfl, ?_, ?_⟩
      · rw [List.size_toArray, lens]
        exact few
      · rw [List.toList_toArray]
        exact rel
    | none =>
      let here : HO := .frz { cls := .type "list", data := .seq vs.toArray } (.lst (ns.map V.int))
      have only : ∀ b u, (if b = a then some here else none) = some u → b = a ∧ u = here := fun b u z => by
        by_cases hb : b = a
        · rw [if_pos hb] at z
          exact ⟨hb, (Option.some.inj z).symm⟩
        · rw [if_neg hb] at z
          cases z
      refine ⟨fun b => if b = a then some here else none, fun b => ?_, .inl (.inr ⟨{ cls := .type "list", data := .seq vs.toArray }, if_pos rfl⟩), fun b u z => ?_, fun b u z => ⟨(only b u z).1, rfl⟩⟩
      · by_cases hb : b = a
        · exact .inr ⟨_, _, if_pos hb⟩
        · exact .inl (if_neg hb)
      · obtain ⟨rfl, rfl⟩ := only b u z
        exact ⟨obj, by rw [List.length_map]; exact few, vs, _, rel, obj⟩
  obtain ⟨H, hO, hS, hok, hA⟩ := found
  have under : ∀ {b : Addr} {o : Obj}, s₁.heap.get? b = some o → H b = none → (hidT s₁.heap H).get? b = some o := fun e z => hidT_get e z
  have notDict : ∀ {b : Addr} {o : Obj} {es : Array DictEntry} {ep : Nat}, s₁.heap.get? b = some o → o.data = .dict es ep → H b = none := by
    intro b o es ep e isD
    cases z : H b with
    | none => rfl
    | some u =>
      obtain ⟨rfl, _⟩ := hA b u z
      rw [obj] at e
      cases e
      cases isD
  have ns' : ∀ {b : Addr} {m : Str → Option Value}, s₁.heap.Ns b m → (hidT s₁.heap H).Ns b m := by
    rintro b m ⟨o, es, ep, e, isD, r⟩
    exact ⟨o, es, ep, under e (notDict e isD), isD, r⟩
  have inK' : K.In (hidT s₁.heap H) := by
    intro b o e
    refine under (inK b o e) ?_
    cases z : H b with
    | none => rfl
    | some u =>
      obtain ⟨rfl, no⟩ := hA b u z
      rw [no] at e
      cases e
  obtain ⟨mc, l1, l2⟩ := lim
  have env : Env0 P w K mg (hidT s₁.heap H) callerA [] s₁ H :=
    ⟨rfl, ⟨inK', ns' gl, ⟨mb, ns' bl, isB⟩, ⟨mc, ns' l1, l2⟩⟩, fun _ _ e => of_hidT e, Nat.le_of_eq (hidT_size _ _), trivial, (fun _ hb => nomatch hb), hok, .of_eq gens⟩
  refine codeAny_mono (run _ H inK' (ns' gl) env hS) ?_
  intro r s' h
  cases r with
  | error e => exact h.elim
  | ok fl =>
    cases fl with
    | next => exact h.elim
    | brk => exact h.elim
    | cont => exact h.elim
    | ret u =>
      obtain ⟨v, H', os, bare, un, hok', rv, isT⟩ := h
      subst isT
      cases rv
      refine ⟨rfl, OldK.of_keep ?_, os, bare⟩
      intro b o e
      cases z : H b with
      | none => exact un.keep b o e z (fun y => nomatch y) (fun y => nomatch y)
      | some u =>
        rcases hO b with y | ⟨ob, xs, y⟩
        · rw [z] at y
          cases y
        · have y2 := un.frzs b ob _ y
          obtain ⟨e1, _⟩ := hok b _ y
          obtain ⟨e2, _⟩ := hok' b _ y2
          rw [e] at e1
          cases e1
          exact e2
/-! ### defs that ask for repr: the guards are carried -/
structure FnOkG (P : Program) (w : World) (K : PySem.W.Frag) (mg : Str → Option Value) (base : Heap) (k : Nat) (f : Addr) (fd : FuncData) (ps : List Str) (sp : Sp) : Prop where
  len : ∀ vs H Q E, sp vs H Q E → vs.length = ps.length
  run : ∀ (A : Around) (outer : List Env) (s : Shared) (H : Hp) (args : Args) (us : List Value) (vs : List V) (Q : VK) (E : XK), A.guards = some [] → Room k A → Env0 P w K mg base A outer s H →
    BindsTo s fd args (ps.zip us) → Vals vs us → sp vs H Q E → codeAny (model P w) A (.call (.ref f) args) (CR CX0 outer P w H s Q E) s
theorem fnG {P : Program} {w : World} {K : PySem.W.Frag} {mg : Str → Option Value} {base : Heap} {f : Addr} {fd : FuncData} {N ps : List Str} {k : Nat} {x qual : Str} {st : Stmt} {sp : Sp} (F : Fun K x qual st f fd) (S : FnScope N ps (defScope st))
    (len : ∀ vs H Q E, sp vs H Q E → vs.length = ps.length)
    (body : ∀ (cdv : Value) (A : Around) (outer : List Env) (s : Shared) (H : Hp) (vs : List V) (Q : VK) (E : XK), A.guards = some [] → Room k (A.deeper (envOfC qual (defScope st) s.heap.objs.size f cdv)) → sp vs H Q E →
      ∃ t, PSs (cxOf CX0 P w K mg base N qual (defScope st) f cdv A outer s H E).nox (defBody st) t ∧ t { nx := fun _ H' => Q .non H', rt := Q } (start N vs) H) :
    FnOkG P w K mg base (k + 1) f fd ps sp := by
  refine ⟨len, ?_⟩
  intro A outer s H args us vs Q E gs room en bd rel hsp
  exact enter_def F S room en bd rel (len _ _ _ _ hsp) fun cdv hr => body cdv A outer s H vs Q E gs hr hsp
theorem pe_callG {X : Cx} {k : Nat} {f : Addr} {fd : FuncData} {ps : List Str} {sp : Sp} {x : Str} {p pos : Pos} {e : Expr} {es : List Expr} {t : TA}
    (G : FnOkG X.prog X.w X.K X.mg X.base k f fd ps sp) (gs : X.A.guards = some []) (room : Room k X.A) (isG : Gl X x) (at0 : X.mg x = some (.ref f)) (kp : PySem.W.keepIn X.K (.ref f) = true) (bd : Binds X.K fd ps []) (args : PA X (e :: es) t)
    (nd : (x == ("__debug__" : Str)) = false := by decide) (he : starEach (e :: es) X.env = (false, eval e X.env) :: starEach es X.env := by rfl) (hp : (backTo pos (starEach es X.env)).any (·.1) = false := by rfl) :
    PE X (.Call (.Name x p) (e :: es) [] pos) (tCall sp [] E0 t) := by
  constructor
  intro pins s σ H Q I h
  refine wpAny_Call_Name_kw (ld_glob I isG at0 ?_ nd)
  refine PySem.W.callWith_K (h₀ := X.base) I.ok.mod.kin kp (thn (args.run pos pins s σ H _ I h) ?_) he hp
  rintro us s1 ⟨vs, H1, I1, rel, q⟩
  refine ⟨I1.kIn, ?_⟩
  have q' : sp vs H1 Q E0 := by
    rw [List.append_nil] at q
    exact q
  have hl : (us ++ []).length = ps.length := by
    rw [List.append_nil, ← rel.length]
    exact G.len _ _ _ _ q'
  have bd' := bd s1 us I1.kIn hl
  rw [List.append_nil] at bd'
  refine wpAny_call (codeAny_mono (G.run X.A X.stack s1 H1 ⟨us, []⟩ us vs Q E0 gs room I1.env0 bd' rel q') ?_)
  intro r s' done
  cases r with
  | error e => exact done.elim
  | ok fl =>
    cases fl with
    | ret u => exact I1.after done
    | next => exact done.elim
    | brk => exact done.elim
    | cont => exact done.elim
/-- a def that asks for repr, with its promise -/
structure DfG (P : Program) (w : World) (K : PySem.W.Frag) (mg : Str → Option Value) (base : Heap) (k : Nat) (nm : Str) (ps : List Str) (sp : Sp) where
  f : Addr
  fd : FuncData
  ok : FnOkG P w K mg base k f fd ps sp
  b : Binds K fd ps []
  kp : PySem.W.keepIn K (.ref f) = true
  g : mg nm = some (.ref f)
/-! ### repr of data without dicts -/
mutual
def okR : PyData → Bool
  | .none => true
  | .bool _ => true
  | .int i => decide (0 ≤ i) && decide (i < 10 ^ 30)
  | .str x => decide (x.length ≤ 64) && x.cps.toList.all (· < 128)
  | .list xs => okRs xs
  | .tuple xs => okRs xs
  | .dict _ => false
def okRs : List PyData → Bool
  | [] => true
  | x :: xs => okR x && okRs xs
end
mutual
def wtR : PyData → Nat
  | .none => 4
  | .bool _ => 5
  | .int _ => 31
  | .str x => 10 * x.length + 2
  | .list xs => 3 + wtRs xs
  | .tuple xs => 3 + wtRs xs
  | .dict _ => 0
def wtRs : List PyData → Nat
  | [] => 0
  | x :: xs => wtR x + 2 + wtRs xs
end
theorem small_shown {i : Int} (h0 : 0 ≤ i) (h : i < 10 ^ 30) : (Str.ofString (toString i)).length ≤ 31 ∧ i.natAbs.log2 < 1920 := by
  refine ⟨Nat.le_trans (toString_length_le h0 (by decide) h) (by decide), ?_⟩
  by_cases z : i.natAbs = 0
  · rw [z]; decide
  · rw [Nat.log2_lt z]
    have h2 : i.natAbs < 10 ^ 30 := by omega
    exact Nat.lt_of_lt_of_le h2 (Nat.le_trans (show 10 ^ 30 ≤ 2 ^ 100 by decide) (Nat.pow_le_pow_right (by decide) (by decide)))
theorem listText_leR (ts : List Str) : (listText ts).length ≤ piled ts + 3 := by
  have h := textFrom_len_le ts 0 "["
  have e : (listText ts).length = (textFrom 0 "[" ts).length + 1 := by
    show (textFrom 0 "[" ts ++ "]").length = _
    rw [strLen_append]
    rfl
  have z : ∀ l : List Str, (l.map (·.length)).sum + 2 * l.length = piled l := by
    intro l
    induction l with
    | nil => rfl
    | cons t l ih =>
      rw [piled_cons, List.map_cons, List.sum_cons, List.length_cons]
      omega
  have z2 := z ts
  have z3 : (("[" : String) : Str).length = 1 := rfl
  omega
mutual
theorem shownR : ∀ d : PyData, okR d = true → d.shown.length ≤ wtR d ∧ d.showable = true ∧ d.hasDict = false
  | .none, _ => by
    simp only [PyData.shown, wtR, PyData.showable, PyData.hasDict, and_true]
    decide +kernel
  | .bool b, _ => by
    simp only [PyData.shown, wtR, PyData.showable, PyData.hasDict, and_true]
    cases b <;> decide +kernel
  | .int i, h => by
    simp only [okR, Bool.and_eq_true, decide_eq_true_eq] at h
    obtain ⟨h1, h2⟩ := small_shown h.1 h.2
    simp only [PyData.shown, wtR, PyData.showable, PyData.hasDict, decide_eq_true_eq, and_true]
    exact ⟨h1, h2⟩
  | .str x, h => by
    simp only [okR, Bool.and_eq_true, decide_eq_true_eq, List.all_eq_true] at h
    have h1 := StrLaws.reprText_len x (fun c hc => Nat.lt_of_lt_of_le (h.2 c hc) (by decide))
    simp only [PyData.shown, wtR, PyData.showable, PyData.hasDict, and_true]
    omega
  | .list xs, h => by
    simp only [okR] at h
    obtain ⟨h1, h2, h3⟩ := shownRs xs h
    simp only [PyData.shown, wtR, PyData.showable, PyData.hasDict]
    exact ⟨Nat.le_trans (listText_leR _) (by omega), h2, h3⟩
  | .tuple xs, h => by
    simp only [okR] at h
    obtain ⟨h1, h2, h3⟩ := shownRs xs h
    simp only [PyData.shown, wtR, PyData.showable, PyData.hasDict]
    exact ⟨Nat.le_trans (fmt_text _) (by omega), h2, h3⟩
  | .dict _, h => by
    simp only [okR] at h
    exact absurd h Bool.false_ne_true
theorem shownRs : ∀ ds : List PyData, okRs ds = true → piled (PyData.shownAll ds) ≤ wtRs ds ∧ PyData.showableAll ds = true ∧ PyData.hasDictAll ds = false
  | [], _ => by
    simp only [PyData.shownAll, wtRs, PyData.showableAll, PyData.hasDictAll, and_true]
    exact Nat.le_refl _
  | d :: ds, h => by
    simp only [okRs, Bool.and_eq_true] at h
    obtain ⟨h1, h2, h5⟩ := shownR d h.1
    obtain ⟨h3, h4, h6⟩ := shownRs ds h.2
    simp only [PyData.shownAll, wtRs, PyData.showableAll, PyData.hasDictAll, h2, h4, h5, h6, Bool.and_self, Bool.or_self, and_true]
    rw [piled_cons]
    omega
end
def rReprR (K : PySem.W.Frag) : List V → Hp → VK → Prop := fun xs H Q => ∃ (a : Addr) (d : PyData), xs = [.ref a] ∧ Dp K H (.ref a) d ∧ okR d = true ∧ wtR d ≤ 1000000 ∧ d.depth ≤ 60 ∧ Q (.str d.shown) H
theorem call_reprR {X : Cx} (hg : X.A.guards = some []) (hu : X.A.units + 64 < cLine) : CallR X (.builtin "repr") (rReprR X.K) := by
  intro pins s σ H xs us Q I r h
  obtain ⟨a, d, rfl, hd, hs, hw, hz, q⟩ := h
  obtain ⟨u, rfl, rx⟩ := vals1 r
  cases rx
  obtain ⟨h1, h2, h3⟩ := shownR d hs
  obtain ⟨as, rd⟩ := Dp.reads I d _ _ hd rfl
  exact repr_of_reads' rd h2 (PyData.noDict_hsm h3) hg (by omega) (fun _ _ e => e) (fun h' u tk hk => ⟨.str d.shown, H, I.kept (t' := tk) hk, ⟨u, rfl⟩, q⟩) (by show _ ≤ 16777216; omega)
/-! ### data of nests; how large a nest is -/
theorem B.data_depth : ∀ t : B, t.data.depth = t.deep
  | .nil => by simp only [B.data, PyData.depth, B.deep]
  | .node l x r => by
    simp only [B.data, PyData.depth, PyData.depthAll, B.deep, l.data_depth, r.data_depth]
    omega
theorem okR_ch {c : Nat} (h : c < 128) : okR (.str (ch c)) = true := by
  simp only [okR, Bool.and_eq_true, decide_eq_true_eq, List.all_eq_true]
  refine ⟨by show 1 ≤ 64; decide, fun z hz => ?_⟩
  have : z = c := by simpa using hz
  omega
theorem okR_tree : ∀ t : B, ltB t → okR t.data = true ∧ wtR t.data ≤ 25 * t.size + 4
  | .nil, _ => by simp only [B.data, okR, wtR]; exact ⟨trivial, Nat.le_add_left ..⟩
  | .node l x r, h => by
    obtain ⟨a1, a2⟩ := okR_tree l fun c hc => h c (List.mem_cons_of_mem _ (List.mem_append_left _ hc))
    obtain ⟨b1, b2⟩ := okR_tree r fun c hc => h c (List.mem_cons_of_mem _ (List.mem_append_right _ hc))
    have hx := h x List.mem_cons_self
    have e1 : okR (.str (ch x)) = true := okR_ch (by omega)
    have e2 : wtR (.str (ch x)) = 12 := rfl
    simp only [B.data, okR, okRs, a1, b1, Bool.and_true, Bool.true_and]
    refine ⟨by simpa only [okR] using e1, ?_⟩
    show wtR (.tuple [l.data, .str (ch x), r.data]) ≤ 25 * (l.size + 1 + r.size) + 4
    have e3 : wtR (.tuple [l.data, .str (ch x), r.data]) = 3 + (wtR l.data + 2 + (wtR (.str (ch x)) + 2 + (wtR r.data + 2 + 0))) := by simp only [wtR, wtRs]
    rw [e3, e2]
    omega
theorem op_signs : ∀ (t : B) (w : List Nat), w ∈ t.op → ∀ c ∈ w, c = 108 ∨ c = 114
  | .nil, w, h, c, hc => by
    rw [List.mem_singleton.mp h] at hc
    cases hc
  | .node l x r, w, h, c, hc => by
    rcases List.mem_append.mp h with h | h
    · obtain ⟨u, hu, rfl⟩ := List.mem_map.mp h
      rcases List.mem_cons.mp hc with rfl | hc
      · exact .inl rfl
      · exact op_signs l u hu c hc
    · obtain ⟨u, hu, rfl⟩ := List.mem_map.mp h
      rcases List.mem_cons.mp hc with rfl | hc
      · exact .inr rfl
      · exact op_signs r u hu c hc
theorem int_lt {n : Nat} (h : n < 10 ^ 30) : (n : Int) < 10 ^ 30 := by exact_mod_cast h
def lkD (l : Lk) : PyData := .tuple [.str (tx l.1), .int (l.2 : Int)]
def enD (e : En) : PyData := .tuple [e.1.data, .tuple (e.2.map lkD)]
def nestD (es : List En) : PyData := .tuple (es.map enD)
theorem LkAt.dp {K : PySem.W.Frag} {H : Hp} {vs : List V} {ls : List Lk} (h : LkAt H vs ls) : DpAll K H vs (ls.map lkD) := by
  induction h with
  | nil => exact .nil
  | cons e _ ih => exact .cons (.tup (SqT.of e) (.cons (.str _) (.cons (.int _) .nil))) ih
theorem EnAt.dp {K : PySem.W.Frag} {H : Hp} {vs : List V} {es : List En} (h : EnAt H vs es) : DpAll K H vs (es.map enD) := by
  induction h with
  | nil => exact .nil
  | cons e1 e2 e3 e4 _ ih => exact .cons (.tup (SqT.of e1) (.cons e2.dp (.cons (.tup (SqT.of e3) e4.dp) .nil))) ih
theorem links_ok {t : B} {n : Nat} (hn : n ≤ 1000) (ht : t.deep ≤ 60) : ∀ ls : List Lk, (∀ l ∈ ls, l.1 ∈ t.op) → (∀ l ∈ ls, l.2 < n) → okRs (ls.map lkD) = true ∧ wtRs (ls.map lkD) ≤ 700 * ls.length ∧ PyData.depthAll (ls.map lkD) ≤ 1
  | [], _, _ => by
    refine ⟨by simp only [List.map_nil, okRs], by simp only [List.map_nil, wtRs]; exact Nat.zero_le _, by simp only [List.map_nil, PyData.depthAll]; omega⟩
  | l :: ls, h1, h2 => by
    obtain ⟨a, b, c⟩ := links_ok hn ht ls (fun k hk => h1 k (List.mem_cons_of_mem _ hk)) (fun k hk => h2 k (List.mem_cons_of_mem _ hk))
    have p1 := op_deep (h1 l List.mem_cons_self)
    have p2 := op_signs t l.1 (h1 l List.mem_cons_self)
    have p3 := h2 l List.mem_cons_self
    have k1 : okR (.str (tx l.1)) = true := by
      simp only [okR, Bool.and_eq_true, decide_eq_true_eq, List.all_eq_true, tx_len]
      refine ⟨decide_eq_true (by omega), fun z hz => ?_⟩
      have := p2 z hz
      omega
    have k2 : okR (.int (l.2 : Int)) = true := by
      simp only [okR, Bool.and_eq_true, decide_eq_true_eq]
      exact ⟨by omega, int_lt (Nat.lt_of_lt_of_le p3 (Nat.le_trans hn (by decide)))⟩
    have k3 : wtR (.str (tx l.1)) = 10 * l.1.length + 2 := rfl
    refine ⟨?_, ?_, ?_⟩
    · rw [List.map_cons]
      show (okR (.tuple [.str (tx l.1), .int (l.2 : Int)]) && okRs (ls.map lkD)) = true
      rw [a, Bool.and_true]
      show (okR (.str (tx l.1)) && (okR (.int (l.2 : Int)) && true)) = true
      rw [k1, k2]
      rfl
    · rw [List.map_cons]
      show wtR (.tuple [.str (tx l.1), .int (l.2 : Int)]) + 2 + wtRs (ls.map lkD) ≤ _
      have : wtR (.tuple [.str (tx l.1), .int (l.2 : Int)]) = 3 + (wtR (.str (tx l.1)) + 2 + (31 + 2 + 0)) := by simp only [wtR, wtRs]
      rw [this, k3, List.length_cons]
      omega
    · rw [List.map_cons]
      simp only [PyData.depthAll, lkD, PyData.depth]
      omega
theorem entries_ok : ∀ (es : List En), (∀ e ∈ es, ∃ n, n ≤ 20 ∧ GoodE 12 n e) → okRs (es.map enD) = true ∧ wtRs (es.map enD) ≤ 10000 * es.length ∧ PyData.depthAll (es.map enD) ≤ 14
  | [], _ => by
    refine ⟨by simp only [List.map_nil, okRs], by simp only [List.map_nil, wtRs]; exact Nat.zero_le _, by simp only [List.map_nil, PyData.depthAll]; omega⟩
  | e :: es, h => by
    obtain ⟨a, b, c⟩ := entries_ok es fun k hk => h k (List.mem_cons_of_mem _ hk)
    obtain ⟨n, hn, g⟩ := h e List.mem_cons_self
    obtain ⟨t, ls⟩ := e
    have td := t.deep_le
    have s2 : t.size ≤ 12 := g.s2
    obtain ⟨k1, k2⟩ := okR_tree t g.lt
    obtain ⟨m1, m2, m3⟩ := links_ok (t := t) (n := n) (by omega) (by omega) ls g.op g.ix
    have ll := links_len g (Nat.le_refl _)
    refine ⟨?_, ?_, ?_⟩
    · rw [List.map_cons]
      show ((okR t.data && (okRs (ls.map lkD) && true)) && okRs (es.map enD)) = true
      rw [a, k1, m1]
      rfl
    · rw [List.map_cons]
      show wtR (.tuple [t.data, .tuple (ls.map lkD)]) + 2 + wtRs (es.map enD) ≤ _
      have : wtR (.tuple [t.data, .tuple (ls.map lkD)]) = 3 + (wtR t.data + 2 + (3 + wtRs (ls.map lkD) + 2 + 0)) := by simp only [wtR, wtRs]
      rw [this, List.length_cons]
      omega
    · rw [List.map_cons]
      simp only [PyData.depthAll, enD, PyData.depth, B.data_depth]
      omega
theorem nest_ok {es : List En} (g : GoodN 12 es) (h : es.length ≤ 20) : okR (nestD es) = true ∧ wtR (nestD es) ≤ 1000000 ∧ (nestD es).depth ≤ 60 := by
  obtain ⟨a, b, c⟩ := entries_ok es fun e he => by
    obtain ⟨i, hi⟩ := List.getElem?_of_mem he
    have := (List.getElem?_eq_some_iff.mp hi).1
    exact ⟨i, by omega, g i e hi⟩
  refine ⟨?_, ?_, ?_⟩
  · simp only [nestD, okR, a]
  · simp only [nestD, wtR]
    omega
  · simp only [nestD, PyData.depth]
    omega
theorem sum_le {m : Nat} : ∀ l : List Nat, (∀ x ∈ l, x ≤ m) → l.sum ≤ l.length * m
  | [], _ => Nat.zero_le _
  | x :: l, h => by
    have h1 := h x List.mem_cons_self
    have h2 := sum_le l fun y hy => h y (List.mem_cons_of_mem _ hy)
    rw [List.sum_cons, List.length_cons, Nat.add_mul]
    omega
theorem fulls_size {es : List En} (g : GoodN 12 es) : ∀ k, k ≤ es.length → ∀ X ∈ fulls (es.take k), X.size + 1 ≤ 13 ^ k := by
  intro k
  induction k with
  | zero => intro _ X hX; cases hX
  | succ k ih =>
    intro hk X hX
    have ee : es[k]? = some es[k] := List.getElem?_eq_getElem (by omega)
    have p13 : 13 ^ (k + 1) = 13 ^ k * 13 := Nat.pow_succ ..
    have p1 : 1 ≤ 13 ^ k := Nat.pos_of_ne_zero (by simp)
    rw [show es.take (k + 1) = es.take k ++ [es[k]] from take_next ee, fulls_snoc] at hX
    rcases List.mem_append.mp hX with hX | hX
    · have := ih (by omega) X hX
      omega
    · rw [List.mem_singleton.mp hX]
      have ge := g k _ ee
      have fl : (fulls (es.take k)).length = k := by rw [fulls_len, List.length_take]; omega
      rw [size_full ge.nd ge.op]
      have s2 := ge.s2
      have sm := sum_le (m := 13 ^ k - 1) (es[k].2.map fun l => ((fulls (es.take k)).getD l.2 .nil).size) fun x hx => by
        obtain ⟨l, hl, rfl⟩ := List.mem_map.mp hx
        have hl2 : l.2 < (fulls (es.take k)).length := by rw [fl]; exact ge.ix l hl
        rw [List.getD_eq_getElem?_getD, List.getElem?_eq_getElem hl2]
        have := ih (by omega) _ (List.getElem_mem hl2)
        show (fulls (es.take k))[l.2].size ≤ _
        omega
      have ll : es[k].2.length ≤ es[k].1.size + 1 := by
        have h1 : (es[k].2.map (·.1)).length ≤ es[k].1.op.length := nodup_le ge.nd fun p hp => by
          obtain ⟨l, hl, rfl⟩ := List.mem_map.mp hp
          exact ge.op l hl
        rw [List.length_map, B.op_len] at h1
        exact h1
      rw [List.length_map] at sm
      have : es[k].2.length * (13 ^ k - 1) ≤ 13 * (13 ^ k - 1) := Nat.mul_le_mul_right _ (by omega)
      omega
theorem full_size {es : List En} (g : GoodN 12 es) (h20 : es.length ≤ 20) {X : B} (e : (fulls es)[es.length - 1]? = some X) : X.size < 10 ^ 30 ∧ ∀ c ∈ X.pre, 97 ≤ c ∧ c ≤ 122 := by
  have hm := List.mem_of_getElem? e
  have a := fulls_size g es.length (Nat.le_refl _) X (by rw [List.take_length]; exact hm)
  have b := fulls_lt g es.length (Nat.le_refl _) X (by rw [List.take_length]; exact hm)
  have c : 13 ^ es.length ≤ 13 ^ 20 := Nat.pow_le_pow_right (by decide) h20
  have d : 13 ^ 20 ≤ 10 ^ 30 := by decide
  exact ⟨by omega, b⟩
theorem cnt_le (zs : List Nat) : ∀ t : B, t.cnt zs ≤ t.size
  | .nil => Nat.le_refl _
  | .node l x r => by
    have h1 := cnt_le zs l
    have h2 := cnt_le zs r
    show l.cnt zs + r.cnt zs + (if x ∈ zs then 1 else 0) ≤ l.size + 1 + r.size
    split <;> omega
/-! rows of numbers -/
def numD (ns : List Nat) : PyData := .list (ns.map fun n : Nat => .int (n : Int))
theorem dp_nums {K : PySem.W.Frag} {H : Hp} : ∀ ns : List Nat, DpAll K H (ns.map vn) (ns.map fun n : Nat => PyData.int (n : Int))
  | [] => .nil
  | _ :: ns => .cons (.int _) (dp_nums ns)
theorem nums_ok : ∀ ns : List Nat, (∀ n ∈ ns, n < 10 ^ 30) → okRs (ns.map fun n : Nat => PyData.int (n : Int)) = true ∧ wtRs (ns.map fun n : Nat => PyData.int (n : Int)) = 33 * ns.length ∧ PyData.depthAll (ns.map fun n : Nat => PyData.int (n : Int)) = 0 ∧ PyData.canLayAll0 (ns.map fun n : Nat => PyData.int (n : Int)) = true
  | [], _ => by simp only [List.map_nil, okRs, wtRs, PyData.depthAll, PyData.canLayAll0]; exact ⟨trivial, rfl, trivial, trivial⟩
  | n :: ns, h => by
    obtain ⟨a, b, c, d⟩ := nums_ok ns fun k hk => h k (List.mem_cons_of_mem _ hk)
    have := h n List.mem_cons_self
    simp only [List.map_cons, okRs, okR, wtRs, wtR, PyData.depthAll, PyData.depth, PyData.canLayAll0, PyData.canLay0, a, b, c, d, List.length_cons, Bool.and_true, Bool.and_self, Bool.and_eq_true, decide_eq_true_eq]
    refine ⟨⟨by omega, int_lt this⟩, by omega, by omega, trivial⟩
theorem eqv_nums : ∀ ns : List Nat, PyData.eqvAll (ns.map fun n : Nat => PyData.int (n : Int)) (ns.map fun n : Nat => PyData.int (n : Int)) = true
  | [] => by simp only [List.map_nil, PyData.eqvAll]
  | n :: ns => by simp only [List.map_cons, PyData.eqvAll, PyData.eqv, eqv_nums ns, Bool.and_true]; simp
/-! ### TURNS, turned, way_to -/
def tw (n : Nat) : List Nat := if n = 0 then [] else [n]
def Kd.turns : Kd → List Nat
  | .first => [0, 108, 114]
  | .between => [108, 0, 114]
  | .last => [108, 114, 0]
/-- where the table of turns stands -/
structure Turns (K : PySem.W.Frag) (w : World) (mg : Str → Option Value) (aT : Addr) : Prop where
  g : mg "TURNS" = some (.ref aT)
  d : ∀ k : Kd, ∃ b : Addr, KDct K w aT k.str (.ref b) ∧ ∀ H, SqT K H b (k.turns.map fun n => vt (tw n))
theorem turns_first : (Kd.first.turns.map fun n => vt (tw n)) = [.str "", .str "l", .str "r"] := by
  show [V.str (tx []), V.str (tx [108]), V.str (tx [114])] = _
  rw [← str_0, ← str_l, ← str_r]
theorem turns_between : (Kd.between.turns.map fun n => vt (tw n)) = [.str "l", .str "", .str "r"] := by
  show [V.str (tx [108]), V.str (tx []), V.str (tx [114])] = _
  rw [← str_0, ← str_l, ← str_r]
theorem turns_last : (Kd.last.turns.map fun n => vt (tw n)) = [.str "l", .str "r", .str ""] := by
  show [V.str (tx [108]), V.str (tx [114]), V.str (tx [])] = _
  rw [← str_0, ← str_l, ← str_r]
def sel (zs : List Nat) (L : List (List Nat × Nat)) : List (List Nat × Nat) := L.filter fun s => decide (s.2 ∈ zs)
def seg (k : Kd) (zs : List Nat) (l : B) (x : Nat) (r : B) (q : List Nat) (n : Nat) : List (List Nat × Nat) := if n = 0 then sel zs [(q, x)] else if n = 108 then sel zs (l.steps k (q ++ [108])) else sel zs (r.steps k (q ++ [114]))
def segN (zs : List Nat) (l : B) (x : Nat) (r : B) (n : Nat) : Nat := if n = 0 then (if x ∈ zs then 1 else 0) else if n = 108 then l.cnt zs else r.cnt zs
def sideB (u l r : B) (n : Nat) : B := if n = 0 then u else if n = 108 then l else r
theorem sel_app (zs : List Nat) (L M : List (List Nat × Nat)) : sel zs (L ++ M) = sel zs L ++ sel zs M := List.filter_append ..
theorem sel_node (k : Kd) (zs : List Nat) (l : B) (x : Nat) (r : B) (q : List Nat) : sel zs ((B.node l x r).steps k q) = k.turns.flatMap (seg k zs l x r q) := by
  cases k
  · show sel zs ([(q, x)] ++ l.steps .first (q ++ [108]) ++ r.steps .first (q ++ [114])) = sel zs [(q, x)] ++ (sel zs (l.steps .first (q ++ [108])) ++ (sel zs (r.steps .first (q ++ [114])) ++ []))
    rw [sel_app, sel_app, List.append_nil, List.append_assoc]
  · show sel zs (l.steps .between (q ++ [108]) ++ [(q, x)] ++ r.steps .between (q ++ [114])) = sel zs (l.steps .between (q ++ [108])) ++ (sel zs [(q, x)] ++ (sel zs (r.steps .between (q ++ [114])) ++ []))
    rw [sel_app, sel_app, List.append_nil, List.append_assoc]
  · show sel zs (l.steps .last (q ++ [108]) ++ r.steps .last (q ++ [114]) ++ [(q, x)]) = sel zs (l.steps .last (q ++ [108])) ++ (sel zs (r.steps .last (q ++ [114])) ++ (sel zs [(q, x)] ++ []))
    rw [sel_app, sel_app, List.append_nil, List.append_assoc]
theorem sel_one (zs : List Nat) (q : List Nat) (x : Nat) : sel zs [(q, x)] = if x ∈ zs then [(q, x)] else [] := by
  unfold sel
  by_cases h : x ∈ zs
  · rw [if_pos h, List.filter_cons, if_pos (decide_eq_true h)]; rfl
  · rw [if_neg h, List.filter_cons, if_neg (by simpa using h)]; rfl
theorem sel_len (k : Kd) (zs : List Nat) (t : B) : ∀ q : List Nat, (sel zs (t.steps k q)).length = t.cnt zs := by
  induction t with
  | nil => intro q; rfl
  | node l x r h1 h2 =>
    intro q
    have a := h1 (q ++ [108])
    have b := h2 (q ++ [114])
    rw [sel_node]
    show _ = l.cnt zs + r.cnt zs + if x ∈ zs then 1 else 0
    cases k
    · show (sel zs [(q, x)] ++ (sel zs (l.steps .first (q ++ [108])) ++ (sel zs (r.steps .first (q ++ [114])) ++ []))).length = _
      rw [List.length_append, List.length_append, List.length_append, a, b, sel_one, List.length_nil]
      split <;> simp only [List.length_cons, List.length_nil] <;> omega
    · show (sel zs (l.steps .between (q ++ [108])) ++ (sel zs [(q, x)] ++ (sel zs (r.steps .between (q ++ [114])) ++ []))).length = _
      rw [List.length_append, List.length_append, List.length_append, a, b, sel_one, List.length_nil]
      split <;> simp only [List.length_cons, List.length_nil] <;> omega
    · show (sel zs (l.steps .last (q ++ [108])) ++ (sel zs (r.steps .last (q ++ [114])) ++ (sel zs [(q, x)] ++ []))).length = _
      rw [List.length_append, List.length_append, List.length_append, a, b, sel_one, List.length_nil]
      split <;> simp only [List.length_cons, List.length_nil] <;> omega
theorem seg_len (k : Kd) (zs : List Nat) (l : B) (x : Nat) (r : B) (q : List Nat) (n : Nat) : (seg k zs l x r q n).length = segN zs l x r n := by
  unfold seg segN
  by_cases h0 : n = 0
  · rw [if_pos h0, if_pos h0, sel_one]; split <;> rfl
  · rw [if_neg h0, if_neg h0]
    by_cases h1 : n = 108
    · rw [if_pos h1, if_pos h1, sel_len]
    · rw [if_neg h1, if_neg h1, sel_len]
def isT (n : Nat) : Prop := n = 0 ∨ n = 108 ∨ n = 114
theorem turns_isT (k : Kd) : ∀ n ∈ k.turns, isT n := by
  intro n hn
  cases k <;> simp only [Kd.turns, List.mem_cons, List.mem_nil_iff, or_false] at hn <;> unfold isT <;> omega
theorem tw_len (n : Nat) : (tw n).length ≤ 1 := by unfold tw; split <;> simp
theorem tw_0 : tw 0 = [] := rfl
theorem tw_ne {n : Nat} (h : n ≠ 0) : tw n = [n] := if_neg h
theorem str_l' : Str.ofString "l" = tx [108] := by decide +kernel
def spTurned : Sp := fun vs H Q _ => ∃ (sp cp : Addr) (ss : List V) (ds : List B) (zs : List Nat) (at0 n x : Nat) (l r : B), vs = [.ref sp, .ref cp, vn at0, vt (tw n)] ∧ H sp = some (.lst ss) ∧ SpAt H ss ds ∧ H cp = some (.lst (ds.map fun d => vn (d.cnt zs))) ∧ ds[at0]? = some (.node l x r) ∧ isT n ∧
  ∀ (p : Addr) (i : Nat) (H' : Hp), Same H H' → H' p = some (.tup [vn i, vn (segN zs l x r n)]) → ds[i]? = some (sideB (.node l x r) l r n) → (n ≠ 0 → i < at0) → Q (.ref p) H'
theorem SpAt.node {H : Hp} {ss : List V} {ds : List B} (h : SpAt H ss ds) {k x : Nat} {l r : B} (e : ds[k]? = some (.node l x r)) : ∃ (a : Addr) (i j : Nat), ss[k]? = some (.ref a) ∧ H a = some (.tup [.int (i : Int), .str (ch x), .int (j : Int)]) ∧ i < k ∧ j < k ∧ ds[i]? = some l ∧ ds[j]? = some r := by
  have hk := (List.getElem?_eq_some_iff.mp e).1
  have k0 : 0 < k := by
    rcases Nat.eq_zero_or_pos k with z | z
    · subst z
      rw [h.pos] at e
      cases e
    · exact z
  obtain ⟨a, i, j, c, l', r', h1, h2, h3, h4, h5, h6, h7⟩ := h.each k k0 hk
  rw [e] at h7
  cases h7
  exact ⟨a, i, j, h1, h2, h3, h4, h5, h6⟩
section
variable {P : Program} {w : World} {K : PySem.W.Frag} {mg : Str → Option Value} {base : Heap} {f : Addr} {fd : FuncData}
theorem ok_turned {k : Nat} (F : Fun K "turned" "turned" s_turned f fd) : FnOk P w K mg base CX0 (k + 1) f fd ["spots", "counts", "at", "turn"] spTurned := by
  refine F.ok sc_turned (fun vs H Q E h => ?_) (fun cdv A outer s H vs Q E hr h => ?_)
  · obtain ⟨sp, cp, ss, ds, zs, at0, n, x, l, r, rfl, _⟩ := h
    rfl
  obtain ⟨sp, cp, ss, ds, zs, at0, n, x, l, r, rfl, es, sa, ec, e0, ht, q⟩ := h
  refine ⟨_, (pss_cons (ps_asg (pe_ix ix_list (pv 0) (pv 2) (fun _ _ => rfl)) (pg_tup rfl (pgs_cons (pg_name (i := 4) sc_turned.nd rfl (.inl rfl)) (pgs_cons (pg_name (i := 5) sc_turned.nd rfl (.inl rfl)) (pgs_cons (pg_name (i := 6) sc_turned.nd rfl (.inl rfl)) pgs_nil)))))
    (pss_cons (ps_if (pt_cmpR op_eq (pv 3) pe_str (nomark _))
      (pss_one (ps_ret (pe_tup (pa_cons (pv 2) (pa_cons (pe_op op_sub (pe_op op_sub (pe_ix ix_list (pv 1) (pv 2) (fun _ _ => rfl)) (pe_ix ix_list (pv 1) (pv 4) (fun _ _ => rfl))) (pe_ix ix_list (pv 1) (pv 6) (fun _ _ => rfl))) pa_nil))))) pss_nil)
    (pss_cons (ps_set (i := 7) sc_turned.nd rfl (.inl rfl) (pe_ifExp (pt_cmpR op_eq (pv 3) pe_str (nomark _)) (pv 4) (pv 6)))
    (pss_one (ps_ret (pe_tup (pa_cons (pv 7) (pa_cons (pe_ix ix_list (pv 1) (pv 7) (fun _ _ => rfl)) pa_nil)))))))), ?_⟩
  obtain ⟨a, i, j, h1, h2, hi, hj, el, er⟩ := sa.node e0
  have get : ∀ (m : Nat) (d : B), ds[m]? = some d → (ds.map fun d => vn (d.cnt zs))[m]? = some (vn (d.cnt zs)) := fun m d hd => by rw [List.getElem?_map, hd]; rfl
  refine ⟨_, rfl, _, rfl, sp, _, _, _, rfl, rfl, SqL.of es, atI_nat h1, a, _, rfl, SqT.of h2, rfl, _, _, rfl, _, _, rfl, _, _, rfl, rfl, ?_⟩
  refine ⟨_, rfl, rfl, _, rfl, ?_⟩
  by_cases n0 : n = 0
  · subst n0
    refine iteS (by rw [str_0]; rfl) ?_
    refine ⟨_, rfl, _, rfl, _, rfl, cp, _, _, _, rfl, rfl, SqL.of ec, atI_nat (get _ _ e0), _, rfl, _, rfl, cp, _, _, _, rfl, rfl, SqL.of ec, atI_nat (get _ _ el), _, _, rfl, rfl, _, rfl, _, rfl, cp, _, _, _, rfl, rfl, SqL.of ec, atI_nat (get _ _ er), _, _, rfl, rfl, (by show 2 ≤ sizeLine; decide), fun p np => ?_⟩
    have e : ((B.node l x r).cnt zs : Int) - (l.cnt zs : Int) - (r.cnt zs : Int) = ((segN zs l x r 0 : Nat) : Int) := by
      show ((l.cnt zs + r.cnt zs + (if x ∈ zs then 1 else 0) : Nat) : Int) - _ - _ = ((if x ∈ zs then 1 else 0 : Nat) : Int)
      split <;> omega
    refine q p at0 _ (same_new np _) ?_ e0 (fun z => absurd rfl z)
    rw [upd_same]
    exact congrArg (fun z : Int => some (HO.tup [vn at0, V.int z])) e
  · refine iteR (by rw [str_0, tw_ne n0]; exact fun z => by cases tx_inj z) ?_
    refine ⟨_, rfl, rfl, _, rfl, ?_⟩
    by_cases n1 : n = 108
    · subst n1
      refine iteS (by rw [str_l']; rfl) ?_
      refine ⟨_, rfl, _, rfl, _, rfl, _, rfl, cp, _, _, _, rfl, rfl, SqL.of ec, atI_nat (get _ _ el), (by show 2 ≤ sizeLine; decide), fun p np => ?_⟩
      exact q p i _ (same_new np _) upd_same el (fun _ => hi)
    · have n2 : n = 114 := by unfold isT at ht; omega
      subst n2
      refine iteR (by rw [str_l']; exact fun z => by cases tx_inj z) ?_
      refine ⟨_, rfl, _, rfl, _, rfl, _, rfl, cp, _, _, _, rfl, rfl, SqL.of ec, atI_nat (get _ _ er), (by show 2 ≤ sizeLine; decide), fun p np => ?_⟩
      exact q p j _ (same_new np _) upd_same er (fun _ => hj)
/-! the path of the node with so many counted ones before it -/
def spWay (K : PySem.W.Frag) : Sp := fun vs H Q _ => ∃ (sp cp : Addr) (ss : List V) (ds : List B) (zs : List Nat) (k : Kd) (n : Nat) (X : B) (W : List Nat) (c : Nat), vs = [.ref sp, .ref cp, .str k.str, vn n] ∧ H sp = some (.lst ss) ∧ SpAt H ss ds ∧ ds.length ≤ 300 ∧ H cp = some (.lst (ds.map fun d => vn (d.cnt zs))) ∧ ds[ds.length - 1]? = some X ∧ (sel zs (X.steps k []))[n]? = some (W, c) ∧
  ∀ H', Same H H' → W.length ≤ 300 → Q (vt W) H'
def atOf : L2.St → Nat
  | [_, _, _, _, _, _, some (.int i), _, _, _] => i.toNat
  | _ => 0
theorem ok_way {aT : Addr} (F : Fun K "way_to" "way_to" s_way_to f fd) (M : Mgs mg) (T : Turns K w mg aT) (Dturned : Df P w K mg base 1 "turned" ["spots", "counts", "at", "turn"] spTurned) : FnOk P w K mg base CX0 2 f fd ["spots", "counts", "kind", "index"] (spWay K) := by
  have mT := T.g
  refine F.ok sc_way_to (fun vs H Q E h => ?_) (fun cdv A outer s H vs Q E hr h => ?_)
  · obtain ⟨sp, cp, ss, ds, zs, k, n, X, W, c, rfl, _⟩ := h
    rfl
  obtain ⟨sp, cp, ss, ds, zs, k, n, X, W, c, rfl, es, sa, dl, ec, eX, hW, q⟩ := h
  refine ⟨_, (pss_cons (ps_set (i := 4) sc_way_to.nd rfl (.inl rfl) pe_str)
    (pss_cons (ps_set (i := 5) sc_way_to.nd rfl (.inl rfl) (pv 3))
    (pss_cons (ps_set (i := 6) sc_way_to.nd rfl (.inl rfl) (pe_op op_sub (pe_callB call_len_seq rfl M.len PySem.boot_len (pa_cons (pv 0) pa_nil)) pe_int))
    (pss_one (ps_while PassesOwn.never (pt_val pe_bl)
      (pss_cons (ps_for PassesOwn.never rfl (pi_tup (pe_ix ix_kdict (pe_glob (v := .ref _) rfl mT rfl) (pv 2) (fun _ _ => rfl))) (pg_name (i := 7) sc_way_to.nd rfl (.inl rfl))
      (pss_cons (ps_asg (pe_call Dturned.ok (hr.mono (by omega)) rfl Dturned.g Dturned.kp Dturned.b .nil pass0 (pa_cons (pv 0) (pa_cons (pv 1) (pa_cons (pv 6) (pa_cons (pv 7) pa_nil))))) (pg_tup rfl (pgs_cons (pg_name (i := 8) sc_way_to.nd rfl (.inl rfl)) (pgs_cons (pg_name (i := 9) sc_way_to.nd rfl (.inl rfl)) pgs_nil))))
    (pss_cons (ps_if (pt_cmpR op_lt (pv 5) (pv 9) (nomark _))
      (pss_one ps_break) pss_nil)
    (pss_one (ps_aug (i := 5) sc_way_to.nd rfl (.inl rfl) (pv 9) ip_sub)))))
    (pss_cons (ps_if (pt_cmpR op_eq (pv 7) pe_str (nomark _))
      (pss_one (ps_ret (pv 4))) pss_nil)
    (pss_cons (ps_aug (i := 4) sc_way_to.nd rfl (.inl rfl) (pv 7) (show PIp _ .Add _ from iop_add_str))
    (pss_one (ps_set (i := 6) sc_way_to.nd rfl (.inl rfl) (pv 8))))))))))), ?_⟩
  have sl := sa.len
  have dx := (List.getElem?_eq_some_iff.mp eX).1
  refine ⟨_, rfl, ?_⟩
  refine ⟨_, rfl, sp, ss, rfl, .inl (SqL.of es), _, _, rfl, rfl, ?_⟩
  have ei : ((ss.length : Nat) : Int) - 1 = ((ds.length - 1 : Nat) : Int) := by omega
  have e1 : vn (ds.length - 1) = V.int (((ss.length : Nat) : Int) - 1) := congrArg V.int ei.symm
  have e2 : vt [] = V.str (Str.ofString "") := by rw [str_0]
  obtain ⟨bT, kd, sq⟩ := T.d k
  refine while_by (fun σ H' => ∃ (way : List Nat) (rest at0 : Nat) (u : B) (o7 o8 o9 : Option V), σ = [some (.ref sp), some (.ref cp), some (.str k.str), some (vn n), some (vt way), some (vn rest), some (vn at0), o7, o8, o9] ∧ Same H H' ∧ ds[at0]? = some u ∧ (sel zs (u.steps k way))[rest]? = some (W, c) ∧ way.length + at0 ≤ 300)
    (fun σ H' => atOf σ) ⟨[], n, ds.length - 1, X, none, none, none, by rw [e1, e2]; rfl, Same.refl H, eX, hW, by simp only [List.length_nil]; omega⟩ (fun σ H1 hp => ?_) ?_
  · obtain ⟨way, rest, at0, u, o7, o8, o9, rfl, s1, eu, hr0, wl⟩ := hp
    refine ⟨_, rfl, iteT ?_⟩
    obtain ⟨l, x, r, rfl⟩ : ∃ l x r, u = .node l x r := by
      cases u with
      | nil => exact absurd hr0 (by simp [B.steps, sel])
      | node l x r => exact ⟨l, x, r, rfl⟩
    rw [sel_node] at hr0
    refine ⟨_, rfl, aT, k.str, _, rfl, rfl, kd, bT, rfl, ⟨_, sq H1⟩, ?_⟩
    refine for_tup (K := K) (a := bT) (xs := k.turns.map fun n => vt (tw n)) (fun j σ H' => ∃ (rest : Nat) (o7 o8 o9 : Option V), σ = [some (.ref sp), some (.ref cp), some (.str k.str), some (vn n), some (vt way), some (vn rest), some (vn at0), o7, o8, o9] ∧ Same H H' ∧ ((k.turns.drop j).flatMap (seg k zs l x r way))[rest]? = some (W, c))
      ⟨rest, o7, o8, o9, rfl, s1, hr0⟩ (fun _ _ H' _ _ => sq H') (fun j v σ H2 hv hp => ?_) (fun σ H2 hp => ?_)
    · obtain ⟨rest, o7, o8, o9, rfl, s2, hr1⟩ := hp
      rw [List.getElem?_map] at hv
      obtain ⟨m, hm, rfl⟩ := Option.map_eq_some_iff.mp hv
      have im := turns_isT k m (List.mem_of_getElem? hm)
      refine ⟨_, rfl, _, rfl, _, rfl, _, rfl, sp, cp, ss, ds, zs, at0, m, x, l, r, rfl, s2 _ _ es, sa.keep (Tw.Same.keepT s2), s2 _ _ ec, eu, im, fun p i H3 s3 ep ei hlt => ?_⟩
      refine ⟨p, _, rfl, SqT.of ep, rfl, _, _, rfl, _, _, rfl, rfl, ?_⟩
      refine ⟨_, rfl, _, rfl, _, _, rfl, rfl, _, rfl, ?_⟩
      have hj := (List.getElem?_eq_some_iff.mp hm).1
      rw [List.drop_eq_getElem_cons hj, (List.getElem?_eq_some_iff.mp hm).2, List.flatMap_cons] at hr1
      by_cases hc : rest < segN zs l x r m
      · rw [decide_eq_true (by omega : (rest : Int) < (segN zs l x r m : Int))]
        refine iteT ?_
        rw [List.getElem?_append_left (by rw [seg_len]; exact hc)] at hr1
        -- behind the loop
        refine ⟨_, rfl, rfl, _, rfl, ?_⟩
        by_cases m0 : m = 0
        · subst m0
          refine iteS (by rw [str_0]; rfl) ?_
          have hr2 : (sel zs [(way, x)])[rest]? = some (W, c) := hr1
          rw [sel_one] at hr2
          have e : W = way := by
            split at hr2
            · cases rest with
              | zero => cases hr2; rfl
              | succ r => cases hr2
            · cases hr2
          subst e
          exact ⟨_, rfl, q H3 (s2.trans s3) (by omega)⟩
        · refine iteR (by rw [str_0, tw_ne m0]; exact fun z => by cases tx_inj z) ?_
          have hlt' := hlt m0
          refine ⟨_, rfl, _, rfl, _, _, rfl, rfl, small (by rw [tx_len, tx_len]; have := tw_len m; omega), ?_⟩
          rw [tx_app, tw_ne m0]
          refine ⟨_, rfl, ⟨way ++ [m], rest, i, sideB (.node l x r) l r m, _, _, _, rfl, s2.trans s3, ei, ?_, by rw [List.length_append, List.length_cons, List.length_nil]; omega⟩, ?_⟩
          · unfold seg at hr1
            unfold sideB
            rw [if_neg m0] at hr1 ⊢
            by_cases m1 : m = 108
            · subst m1
              rw [if_pos rfl] at hr1 ⊢
              exact hr1
            · have m2 : m = 114 := by unfold isT at im; omega
              subst m2
              rw [if_neg (by decide)] at hr1 ⊢
              exact hr1
          · show ((i : Int)).toNat < ((at0 : Int)).toNat
            omega
      · rw [decide_eq_false (by omega : ¬ (rest : Int) < (segN zs l x r m : Int))]
        refine iteF ?_
        rw [List.getElem?_append_right (by rw [seg_len]; omega), seg_len] at hr1
        refine ⟨_, rfl, _, rfl, _, _, rfl, rfl, ?_⟩
        have e : (rest : Int) - (segN zs l x r m : Int) = ((rest - segN zs l x r m : Nat) : Int) := by omega
        have e' : vn (rest - segN zs l x r m) = V.int ((rest : Int) - (segN zs l x r m : Int)) := congrArg V.int e.symm
        exact ⟨rest - segN zs l x r m, _, _, _, by rw [e']; rfl, s2.trans s3, hr1⟩
    · obtain ⟨rest, o7, o8, o9, rfl, s2, hr1⟩ := hp
      rw [List.length_map, List.drop_eq_nil_of_le (Nat.le_refl _)] at hr1
      cases hr1
  · intro σ H Q Q' h1 h2
    obtain ⟨b, e, h3⟩ := h2
    exact ⟨b, e, h1 _ _ h3⟩
end
/-! ### is_index; label_on, way_at, label_in -/
section
variable {P : Program} {w : World} {K : PySem.W.Frag} {mg : Str → Option Value} {base : Heap} {f : Addr} {fd : FuncData}
def spWhole : Sp := fun vs H Q _ => ∃ i : Int, vs = [.int i] ∧ Q (.bl true) H
theorem ok_whole {k : Nat} (F : Fun K "is_whole_number" "is_whole_number" s_is_whole_number f fd) (M : Mgs mg) : FnOk P w K mg base CX0 (k + 1) f fd ["value"] spWhole := by
  refine F.ok sc_is_whole_number (fun vs H Q E h => ?_) (fun cdv A outer s H vs Q E hr h => ?_)
  · obtain ⟨i, rfl, _⟩ := h
    rfl
  obtain ⟨i, rfl, q⟩ := h
  refine ⟨_, (pss_one (ps_ret (pe_and (pe_callB call_isi rfl M.isinstance (by decide +kernel) (pa_cons (pv 0) (pa_cons (pe_bltn (v := .ty "int") rfl M.int (by decide +kernel) rfl) pa_nil))) (pe_one (pe_not (pe_callB call_isi rfl M.isinstance (by decide +kernel) (pa_cons (pv 0) (pa_cons (pe_bltn (v := .ty "bool") rfl M.bool (by decide +kernel) rfl) pa_nil)))))))), ?_⟩
  refine ⟨_, rfl, _, _, _, _, true, rfl, .ty _, .base (.int i), kit_ty (by decide +kernel), _, rfl, iteT ?_⟩
  exact ⟨_, rfl, _, _, _, _, false, rfl, .ty _, .base (.int i), kit_ty (by decide +kernel), _, rfl, q⟩
def spIndex : Sp := fun vs H Q _ => ∃ i n : Int, vs = [.int i, .int n] ∧ Q (.bl (decide (0 ≤ i) && decide (i < n))) H
theorem ok_index {k : Nat} (F : Fun K "is_index" "is_index" s_is_index f fd) (Dis_whole_number : Df P w K mg base (k + 1) "is_whole_number" ["value"] spWhole) : FnOk P w K mg base CX0 (k + 2) f fd ["value", "many"] spIndex := by
  refine F.ok sc_is_index (fun vs H Q E h => ?_) (fun cdv A outer s H vs Q E hr h => ?_)
  · obtain ⟨i, n, rfl, _⟩ := h
    rfl
  obtain ⟨i, n, rfl, q⟩ := h
  refine ⟨_, (pss_one (ps_ret (pe_and (pe_call Dis_whole_number.ok (hr.mono (by omega)) rfl Dis_whole_number.g Dis_whole_number.kp Dis_whole_number.b .nil pass0 (pa_cons (pv 0) pa_nil)) (pe_one (pe_chain op_le op_lt pe_int (pv 0) (pv 1)))))), ?_⟩
  refine ⟨_, rfl, i, rfl, _, rfl, iteT ?_⟩
  refine ⟨_, rfl, _, _, rfl, rfl, _, rfl, ?_⟩
  by_cases h0 : (0 : Int) ≤ i
  · rw [decide_eq_true h0] at q ⊢
    exact iteT ⟨_, rfl, _, _, rfl, rfl, q⟩
  · rw [decide_eq_false h0] at q ⊢
    exact iteF q
end
theorem steps_at (k : Kd) (t : B) : ∀ (q p : List Nat) (c : Nat), (p, c) ∈ t.steps k q → ∃ w l r, p = q ++ w ∧ t.at w = some (.node l c r) := by
  induction t with
  | nil => intro q p c h; cases h
  | node l x r h1 h2 =>
    intro q p c h
    have h' : (p, c) = (q, x) ∨ (p, c) ∈ l.steps k (q ++ [108]) ∨ (p, c) ∈ r.steps k (q ++ [114]) := by
      cases k <;> simp only [B.steps, List.mem_append, List.mem_singleton] at h
      · rcases h with (h | h) | h
        · exact .inl h
        · exact .inr (.inl h)
        · exact .inr (.inr h)
      · rcases h with (h | h) | h
        · exact .inr (.inl h)
        · exact .inl h
        · exact .inr (.inr h)
      · rcases h with (h | h) | h
        · exact .inr (.inl h)
        · exact .inr (.inr h)
        · exact .inl h
    rcases h' with h | h | h
    · cases h
      exact ⟨[], l, r, by rw [List.append_nil], rfl⟩
    · obtain ⟨w, l', r', e1, e2⟩ := h1 _ _ _ h
      refine ⟨108 :: w, l', r', by rw [e1, List.append_assoc]; rfl, ?_⟩
      show (if (108 : Nat) = 108 then l.at w else _) = _
      rw [if_pos rfl]
      exact e2
    · obtain ⟨w, l', r', e1, e2⟩ := h2 _ _ _ h
      refine ⟨114 :: w, l', r', by rw [e1, List.append_assoc]; rfl, ?_⟩
      show (if (114 : Nat) = 108 then l.at w else if (114 : Nat) = 114 then r.at w else none) = _
      rw [if_neg (by decide), if_pos rfl]
      exact e2
theorem at_cons {u : B} {d : Nat} {w : List Nat} {v : B} (h : u.at (d :: w) = some v) : ∃ l x r, u = .node l x r ∧ ((d = 108 ∧ l.at w = some v) ∨ (d = 114 ∧ r.at w = some v)) := by
  cases u with
  | nil => cases h
  | node l x r =>
    refine ⟨l, x, r, rfl, ?_⟩
    have h' : (if d = 108 then l.at w else if d = 114 then r.at w else none) = some v := h
    by_cases d1 : d = 108
    · rw [if_pos d1] at h'
      exact .inl ⟨d1, h'⟩
    · rw [if_neg d1] at h'
      by_cases d2 : d = 114
      · rw [if_pos d2] at h'
        exact .inr ⟨d2, h'⟩
      · rw [if_neg d2] at h'
        cases h'
def alph : List Nat := (Str.ofString "abcdefghijklmnopqrstuvwxyz").cps.toList
theorem alph_mem {c : Nat} (h : 97 ≤ c ∧ c ≤ 122) : c ∈ alph := by
  have e2 : alph = (List.range 26).map (· + 97) := by decide +kernel
  rw [e2]
  exact List.mem_map.mpr ⟨c - 97, List.mem_range.mpr (by omega), by omega⟩
theorem sel_all {zs : List Nat} {k : Kd} {X : B} {q : List Nat} (h : ∀ c ∈ X.wk k, c ∈ zs) : sel zs (X.steps k q) = X.steps k q := by
  unfold sel
  rw [List.filter_eq_self]
  intro s hs
  refine decide_eq_true (h _ ?_)
  rw [← X.steps_wk k q]
  exact List.mem_map.mpr ⟨s, hs, rfl⟩
theorem wk_mem (k : Kd) (X : B) (c : Nat) : c ∈ X.wk k ↔ c ∈ X.pre := by
  cases k
  · exact Iff.rfl
  · exact X.mid_mem c
  · show c ∈ X.post ↔ c ∈ X.pre
    induction X with
    | nil => exact Iff.rfl
    | node l x r h1 h2 =>
      show c ∈ l.post ++ r.post ++ [x] ↔ c ∈ x :: (l.pre ++ r.pre)
      simp only [List.mem_append, List.mem_cons, List.mem_nil_iff, or_false, h1, h2]
      constructor
      · rintro ((h | h) | h)
        · exact .inr (.inl h)
        · exact .inr (.inr h)
        · exact .inl h
      · rintro (h | h | h)
        · exact .inr h
        · exact .inl (.inl h)
        · exact .inl (.inr h)
theorem steps_all {k : Kd} {X : B} (h : ∀ c ∈ X.pre, 97 ≤ c ∧ c ≤ 122) : sel alph (X.steps k []) = X.steps k [] := sel_all fun c hc => alph_mem (h c ((wk_mem k X c).mp hc))
theorem cnt_alph {X : B} (h : ∀ c ∈ X.pre, 97 ≤ c ∧ c ≤ 122) : X.cnt alph = X.size := cnt_all fun c hc => alph_mem (h c hc)
/-! ### way_at -/
def spWayAt (K : PySem.W.Frag) : Sp := fun vs H Q _ => ∃ (sp cp : Addr) (ss : List V) (ds : List B) (zs : List Nat) (k : Kd) (n : Nat) (X : B) (W : List Nat) (c : Nat), vs = [.ref sp, .ref cp, .str k.str, vn n] ∧ H sp = some (.lst ss) ∧ SpAt H ss ds ∧ ds.length ≤ 300 ∧ H cp = some (.lst (ds.map fun d => vn (d.cnt zs))) ∧ ds[ds.length - 1]? = some X ∧ n < X.cnt zs ∧ (sel zs (X.steps k []))[n]? = some (W, c) ∧
  ∀ H', Same H H' → W.length ≤ 300 → Q (vt W) H'
section
variable {P : Program} {w : World} {K : PySem.W.Frag} {mg : Str → Option Value} {base : Heap} {f : Addr} {fd : FuncData}
theorem ok_wayAt (F : Fun K "way_at" "way_at" s_way_at f fd) (Dis_index : Df P w K mg base 2 "is_index" ["value", "many"] spIndex) (Dway_to : Df P w K mg base 2 "way_to" ["spots", "counts", "kind", "index"] (spWay K)) : FnOk P w K mg base CX0 3 f fd ["spots", "sizes", "kind", "place"] (spWayAt K) := by
  refine F.ok sc_way_at (fun vs H Q E h => ?_) (fun cdv A outer s H vs Q E hr h => ?_)
  · obtain ⟨sp, cp, ss, ds, zs, k, n, X, W, c, rfl, _⟩ := h
    rfl
  obtain ⟨sp, cp, ss, ds, zs, k, n, X, W, c, rfl, es, sa, dl, ec, eX, hn, hW, q⟩ := h
  refine ⟨_, (pss_cons (ps_if (pt_not (pt_val (pe_call Dis_index.ok (hr.mono (by omega)) rfl Dis_index.g Dis_index.kp Dis_index.b .nil pass0 (pa_cons (pv 3) (pa_cons (pe_ix ix_list (pv 1) (pe_un un_neg pe_int) (fun _ _ => rfl)) pa_nil)))))
      (pss_one ps_never) pss_nil)
    (pss_one (ps_ret (pe_call Dway_to.ok (hr.mono (by omega)) rfl Dway_to.g Dway_to.kp Dway_to.b .nil pass0 (pa_cons (pv 0) (pa_cons (pv 1) (pa_cons (pv 2) (pa_cons (pv 3) pa_nil)))))))), ?_⟩
  refine ⟨_, rfl, _, rfl, _, rfl, cp, _, _, _, rfl, rfl, SqL.of ec, at_last (v := vn (X.cnt zs)) (by rw [List.length_map, List.getElem?_map, eX]; rfl), ?_⟩
  refine ⟨_, _, rfl, ?_⟩
  rw [decide_eq_true (by omega : (0 : Int) ≤ (n : Int)), decide_eq_true (by omega : (n : Int) < (X.cnt zs : Int))]
  refine ⟨_, rfl, iteF ?_⟩
  exact ⟨_, rfl, _, rfl, _, rfl, _, rfl, sp, cp, ss, ds, zs, k, n, X, W, c, rfl, es, sa, dl, ec, eX, hW, q⟩
end
/-! ### label_on, label_in -/
def spLabOn : Sp := fun vs H Q _ => ∃ (sp : Addr) (ss : List V) (ds : List B) (X : B) (W : List Nat) (c : Nat) (l r : B), vs = [.ref sp, vt W] ∧ H sp = some (.lst ss) ∧ SpAt H ss ds ∧ ds.length ≤ 300 ∧ ds[ds.length - 1]? = some X ∧ X.at W = some (.node l c r) ∧ Q (.str (ch c)) H
section
variable {P : Program} {w : World} {K : PySem.W.Frag} {mg : Str → Option Value} {base : Heap} {f : Addr} {fd : FuncData}
theorem ok_labOn {k : Nat} (F : Fun K "label_on" "label_on" s_label_on f fd) (M : Mgs mg) : FnOk P w K mg base CX0 (k + 1) f fd ["spots", "way"] spLabOn := by
  refine F.ok sc_label_on (fun vs H Q E h => ?_) (fun cdv A outer s H vs Q E hr h => ?_)
  · obtain ⟨sp, ss, ds, X, W, c, l, r, rfl, _⟩ := h
    rfl
  obtain ⟨sp, ss, ds, X, W, c, l, r, rfl, es, sa, dl, eX, hW, q⟩ := h
  refine ⟨_, (pss_cons (ps_set (i := 2) sc_label_on.nd rfl (.inl rfl) (pe_op op_sub (pe_callB call_len_seq rfl M.len PySem.boot_len (pa_cons (pv 0) pa_nil)) pe_int))
    (pss_cons (ps_for PassesOwn.never rfl (pi_str (pv 1)) (pg_name (i := 3) sc_label_on.nd rfl (.inl rfl))
      (pss_cons (ps_asg (pe_ix ix_list (pv 0) (pv 2) (fun _ _ => rfl)) (pg_tup rfl (pgs_cons (pg_name (i := 4) sc_label_on.nd rfl (.inl rfl)) (pgs_cons (pg_name (i := 5) sc_label_on.nd rfl (.inl rfl)) (pgs_cons (pg_name (i := 6) sc_label_on.nd rfl (.inl rfl)) pgs_nil)))))
    (pss_one (ps_set (i := 2) sc_label_on.nd rfl (.inl rfl) (pe_ifExp (pt_cmpR op_eq (pv 3) pe_str (nomark _)) (pv 4) (pv 6))))))
    (pss_one (ps_ret (pe_ix ix_tup (pe_ix ix_list (pv 0) (pv 2) (fun _ _ => rfl)) pe_int (fun _ _ => rfl)))))), ?_⟩
  have sl := sa.len
  have dx := (List.getElem?_eq_some_iff.mp eX).1
  refine ⟨_, rfl, sp, ss, rfl, .inl (SqL.of es), _, _, rfl, rfl, ?_⟩
  have ei : ((ss.length : Nat) : Int) - 1 = ((ds.length - 1 : Nat) : Int) := by omega
  have e1 : vn (ds.length - 1) = V.int (((ss.length : Nat) : Int) - 1) := congrArg V.int ei.symm
  refine ⟨_, rfl, _, rfl, ?_⟩
  refine for_text (x := tx W) (fun j σ H' => H' = H ∧ ∃ (at0 : Nat) (u : B) (o3 o4 o5 o6 : Option V), σ = [some (.ref sp), some (vt W), some (vn at0), o3, o4, o5, o6] ∧ ds[at0]? = some u ∧ u.at (W.drop j) = some (.node l c r))
    ⟨rfl, ds.length - 1, X, none, none, none, none, by rw [e1]; rfl, eX, hW⟩ (fun j d σ H1 hd hp => ?_) (fun σ H1 hp => ?_)
  · obtain ⟨rfl, at0, u, o3, o4, o5, o6, rfl, eu, hu⟩ := hp
    have hd' : W[j]? = some d := hd
    have hj := (List.getElem?_eq_some_iff.mp hd').1
    rw [List.drop_eq_getElem_cons hj, (List.getElem?_eq_some_iff.mp hd').2] at hu
    obtain ⟨l', x', r', rfl, hs⟩ := at_cons hu
    obtain ⟨a, i, i', h1, h2, hi, hi', el, er⟩ := sa.node eu
    refine ⟨_, rfl, _, rfl, sp, _, _, _, rfl, rfl, SqL.of es, atI_nat h1, a, _, rfl, SqT.of h2, rfl, _, _, rfl, _, _, rfl, _, _, rfl, rfl, ?_⟩
    refine ⟨_, rfl, rfl, _, rfl, ?_⟩
    rcases hs with ⟨rfl, hs⟩ | ⟨rfl, hs⟩
    · refine iteS (by rw [str_l']; rfl) ?_
      exact ⟨_, rfl, rfl, i, l', _, _, _, _, rfl, el, hs⟩
    · refine iteR (by rw [str_l']; exact fun z => by cases tx_inj (a := [114]) z) ?_
      exact ⟨_, rfl, rfl, i', r', _, _, _, _, rfl, er, hs⟩
  · obtain ⟨rfl, at0, u, o3, o4, o5, o6, rfl, eu, hu⟩ := hp
    rw [tx_cps, List.drop_eq_nil_of_le (Nat.le_refl _), B.at_nil] at hu
    cases hu
    obtain ⟨a, i, i', h1, h2, hi, hi', el, er⟩ := sa.node eu
    exact ⟨_, rfl, _, rfl, sp, _, _, _, rfl, rfl, SqL.of es, atI_nat h1, a, _, 1, _, rfl, rfl, SqT.of h2, atI_nat (j := 1) rfl, q⟩
/-- what stands at a place of a walk -/
def spLabIn : Sp := fun vs H Q _ => ∃ (p : Addr) (us : List V) (es : List En) (X : B) (k : Kd) (n c : Nat), vs = [.ref p, .str k.str, vn n] ∧ H p = some (.tup us) ∧ EnAt H us es ∧ GoodN 12 es ∧ 1 ≤ es.length ∧ es.length ≤ 20 ∧ (fulls es)[es.length - 1]? = some X ∧ (X.wk k)[n]? = some c ∧
  ∀ H', Same H H' → Q (.str (ch c)) H'
theorem ok_labIn {tL : Tok} (F : Fun K "label_in" "label_in" s_label_in f fd) (mLET : mg "LETTERS" = some (.str "abcdefghijklmnopqrstuvwxyz" tL)) (Dspots_of : Df P w K mg base 31 "spots_of" ["nest"] (spSpots K)) (Dcounts_in : Df P w K mg base 1 "counts_in" ["spots", "letters"] spCounts)
    (Dlabel_on : Df P w K mg base 1 "label_on" ["spots", "way"] spLabOn) (Dway_at : Df P w K mg base 3 "way_at" ["spots", "sizes", "kind", "place"] (spWayAt K)) : FnOk P w K mg base CX0 32 f fd ["nest", "kind", "place"] spLabIn := by
  refine F.ok sc_label_in (fun vs H Q E h => ?_) (fun cdv A outer s H vs Q E hr h => ?_)
  · obtain ⟨p, us, es, X, k, n, c, rfl, _⟩ := h
    rfl
  obtain ⟨p, us, es, X, k, n, c, rfl, ep, en, gn, e1, e20, eX, hc, q⟩ := h
  obtain ⟨xsz, xlt⟩ := full_size gn e20 eX
  refine ⟨_, (pss_cons (ps_set (i := 3) sc_label_in.nd rfl (.inl rfl) (pe_call Dspots_of.ok (hr.mono (by omega)) rfl Dspots_of.g Dspots_of.kp Dspots_of.b .nil pass0 (pa_cons (pv 0) pa_nil)))
    (pss_cons (ps_set (i := 4) sc_label_in.nd rfl (.inl rfl) (pe_call Dcounts_in.ok (hr.mono (by omega)) rfl Dcounts_in.g Dcounts_in.kp Dcounts_in.b .nil pass0 (pa_cons (pv 3) (pa_cons (pe_glob (v := .str _) rfl mLET ⟨_, rfl⟩) pa_nil))))
    (pss_one (ps_ret (pe_call Dlabel_on.ok (hr.mono (by omega)) rfl Dlabel_on.g Dlabel_on.kp Dlabel_on.b .nil pass0 (pa_cons (pv 3) (pa_cons (pe_call Dway_at.ok (hr.mono (by omega)) rfl Dway_at.g Dway_at.kp Dway_at.b .nil pass0 (pa_cons (pv 3) (pa_cons (pv 4) (pa_cons (pv 1) (pa_cons (pv 2) pa_nil))))) pa_nil))))))), ?_⟩
  refine ⟨_, rfl, p, us, es, rfl, ep, en, gn, e1, e20, fun sp ss ds H1 s1 nsp es1 sa dl last => ?_⟩
  refine ⟨_, rfl, sp, ss, ds, alph, rfl, es1, sa, dl, fun p2 H2 s2 e2 => ?_⟩
  have hd : ds[ds.length - 1]? = some X := last.trans eX
  rw [← X.steps_wk k [], List.getElem?_map] at hc
  obtain ⟨⟨W, c'⟩, hW, hc'⟩ := Option.map_eq_some_iff.mp hc
  have hc2 : c' = c := hc'
  subst hc2
  have hn : n < X.size := by
    have := (List.getElem?_eq_some_iff.mp hW).1
    rw [X.steps_len] at this
    exact this
  have sa2 := sa.keep (Tw.Same.keepT s2)
  refine ⟨_, rfl, _, rfl, _, rfl, _, rfl, _, rfl, sp, p2, ss, ds, alph, k, n, X, W, c', rfl, s2 _ _ es1, sa2, dl, e2, hd, by rw [cnt_alph xlt]; exact hn, by rw [steps_all xlt]; exact hW, fun H3 s3 wl => ?_⟩
  obtain ⟨w', l', r', e3, e4⟩ := steps_at k X [] W c' (List.mem_of_getElem? hW)
  rw [List.nil_append] at e3
  subst e3
  exact ⟨sp, ss, ds, X, W, c', l', r', rfl, s3 _ _ (s2 _ _ es1), sa2.keep (Tw.Same.keepT s3), dl, hd, e4, q H3 (s1.trans (s2.trans s3))⟩
end
/-! ### place_on, other_place -/
theorem at_signs : ∀ (t : B) (W : List Nat) {v : B}, t.at W = some v → ∀ d ∈ W, d = 108 ∨ d = 114
  | _, [], _, _, d, hd => by cases hd
  | t, e :: W, v, h, d, hd => by
    obtain ⟨l, x, r, rfl, hs⟩ := at_cons h
    rcases List.mem_cons.mp hd with rfl | hd
    · rcases hs with ⟨z, _⟩ | ⟨z, _⟩
      · exact .inl z
      · exact .inr z
    · rcases hs with ⟨_, z⟩ | ⟨_, z⟩
      · exact at_signs l W z d hd
      · exact at_signs r W z d hd
def stepsOf (W : List Nat) : List Nat := W ++ [0]
theorem turn_mem (k : Kd) {n : Nat} (h : isT n) : n ∈ k.turns := by
  unfold isT at h
  cases k <;> simp only [Kd.turns, List.mem_cons, List.mem_nil_iff, or_false] <;> omega
theorem tw_eq {a b : Nat} (h : tw a = tw b) : a = b := by
  unfold tw at h
  by_cases a0 : a = 0
  · by_cases b0 : b = 0
    · omega
    · rw [if_pos a0, if_neg b0] at h; cases h
  · by_cases b0 : b = 0
    · rw [if_neg a0, if_pos b0] at h; cases h
    · rw [if_neg a0, if_neg b0] at h
      exact (List.cons.inj h).1
def spPlaceOn : Sp := fun vs H Q _ => ∃ (sp cp : Addr) (ss : List V) (ds : List B) (zs : List Nat) (k : Kd) (X : B) (W : List Nat) (c : Nat) (l r : B), vs = [.ref sp, .ref cp, .str k.str, vt W] ∧ H sp = some (.lst ss) ∧ SpAt H ss ds ∧ ds.length ≤ 300 ∧ H cp = some (.lst (ds.map fun d => vn (d.cnt zs))) ∧ ds[ds.length - 1]? = some X ∧ X.at W = some (.node l c r) ∧ c ∈ zs ∧ W.length ≤ 300 ∧
  ∀ (m : Nat) (H' : Hp), Same H H' → (sel zs (X.steps k []))[m]? = some (W, c) → Q (vn m) H'
theorem seg_side {k : Kd} {zs : List Nat} {l r : B} {x : Nat} {q : List Nat} {n : Nat} (h0 : n ≠ 0) (h : isT n) : seg k zs l x r q n = sel zs ((sideB (.node l x r) l r n).steps k (q ++ [n])) := by
  unfold seg sideB
  rw [if_neg h0, if_neg h0]
  by_cases h1 : n = 108
  · rw [if_pos h1, if_pos h1, h1]
  · have h2 : n = 114 := by unfold isT at h; omega
    rw [if_neg h1, if_neg h1, h2]
section
variable {P : Program} {w : World} {K : PySem.W.Frag} {mg : Str → Option Value} {base : Heap} {f : Addr} {fd : FuncData}
theorem ok_placeOn {aT : Addr} (F : Fun K "place_on" "place_on" s_place_on f fd) (M : Mgs mg) (T : Turns K w mg aT) (Dturned : Df P w K mg base 1 "turned" ["spots", "counts", "at", "turn"] spTurned) : FnOk P w K mg base CX0 2 f fd ["spots", "sizes", "kind", "way"] spPlaceOn := by
  have mT := T.g
  refine F.ok sc_place_on (fun vs H Q E h => ?_) (fun cdv A outer s H vs Q E hr h => ?_)
  · obtain ⟨sp, cp, ss, ds, zs, k, X, W, c, l, r, rfl, _⟩ := h
    rfl
  obtain ⟨sp, cp, ss, ds, zs, k, X, W, c, lX, rX, rfl, es, sa, dl, ec, eX, hW, hc, wl, q⟩ := h
  refine ⟨_, (pss_cons (ps_set (i := 4) sc_place_on.nd rfl (.inl rfl) pe_int)
    (pss_cons (ps_set (i := 5) sc_place_on.nd rfl (.inl rfl) (pe_op op_sub (pe_callB call_len_seq rfl M.len PySem.boot_len (pa_cons (pv 0) pa_nil)) pe_int))
    (pss_cons (ps_for PassesOwn.never rfl (pi_list (pe_lst (pa_starS rfl (pv 3) (pa_cons pe_str pa_nil)))) (pg_name (i := 6) sc_place_on.nd rfl (.inl rfl))
      (pss_cons (ps_for PassesOwn.never rfl (pi_tup (pe_ix ix_kdict (pe_glob (v := .ref _) rfl mT rfl) (pv 2) (fun _ _ => rfl))) (pg_name (i := 7) sc_place_on.nd rfl (.inl rfl))
      (pss_cons (ps_asg (pe_call Dturned.ok (hr.mono (by omega)) rfl Dturned.g Dturned.kp Dturned.b .nil pass0 (pa_cons (pv 0) (pa_cons (pv 1) (pa_cons (pv 5) (pa_cons (pv 7) pa_nil))))) (pg_tup rfl (pgs_cons (pg_name (i := 8) sc_place_on.nd rfl (.inl rfl)) (pgs_cons (pg_name (i := 9) sc_place_on.nd rfl (.inl rfl)) pgs_nil))))
    (pss_cons (ps_if (pt_cmpR op_eq (pv 7) (pv 6) (nomark _))
      (pss_one ps_break) pss_nil)
    (pss_one (ps_aug (i := 4) sc_place_on.nd rfl (.inl rfl) (pv 9) ip_add)))))
    (pss_one (ps_set (i := 5) sc_place_on.nd rfl (.inl rfl) (pv 8)))))
    (pss_one (ps_ret (pv 4)))))), ?_⟩
  have sl := sa.len
  have dx := (List.getElem?_eq_some_iff.mp eX).1
  refine ⟨_, rfl, sp, ss, rfl, .inl (SqL.of es), _, _, rfl, rfl, ?_⟩
  have ei : ((ss.length : Nat) : Int) - 1 = ((ds.length - 1 : Nat) : Int) := by omega
  have e1 : vn (ds.length - 1) = V.int (((ss.length : Nat) : Int) - 1) := congrArg V.int ei.symm
  obtain ⟨bT, kd, sq⟩ := T.d k
  refine ⟨_, rfl, _, rfl, (by rw [tx_size]; omega), ?_, fun pl npl => ?_⟩
  · rw [List.length_append, List.length_map, tx_cps]
    exact small (by show W.length + 1 ≤ 1000; omega)
  have eL : ((tx W).cps.toList.map fun c => V.str ⟨#[c]⟩) ++ [V.str (Str.ofString "")] = (stepsOf W).map fun n => vt (tw n) := by
    unfold stepsOf
    rw [List.map_append, tx_cps, str_0]
    have h0 : ∀ d ∈ W, d ≠ 0 := fun d hd z => by
      have := at_signs X W hW d hd
      omega
    have e2 : (W.map fun c => V.str ⟨#[c]⟩) = W.map fun n => vt (tw n) := by
      refine List.map_congr_left fun d hd => ?_
      show V.str (ch d) = V.str (tx (tw d))
      rw [tw_ne (h0 d hd), tx_one]
    rw [e2]
    rfl
  rw [eL] at *
  have k1 := same_new npl (.lst ((stepsOf W).map fun n => vt (tw n)))
  have epl := upd_same (H := H) (a := pl) (o := .lst ((stepsOf W).map fun n => vt (tw n)))
  generalize upd H pl (.lst ((stepsOf W).map fun n => vt (tw n))) = H1 at k1 epl ⊢
  have sW : (stepsOf W).length = W.length + 1 := by unfold stepsOf; rw [List.length_append]; rfl
  refine ⟨pl, rfl, ⟨_, SqL.of epl⟩, ?_⟩
  refine for_list (K := K) (a := pl) (xs := (stepsOf W).map fun n => vt (tw n)) (fun j σ H' => Same H1 H' ∧ ∃ (place at0 : Nat) (o6 o7 o8 o9 : Option V), σ = [some (.ref sp), some (.ref cp), some (.str k.str), some (vt W), some (vn place), some (vn at0), o6, o7, o8, o9] ∧
      ((j ≤ W.length ∧ ∃ u, ds[at0]? = some u ∧ u.at (W.drop j) = some (.node lX c rX) ∧ ∀ m, (sel zs (u.steps k (W.take j)))[m]? = some (W, c) → (sel zs (X.steps k []))[place + m]? = some (W, c)) ∨ (j = W.length + 1 ∧ (sel zs (X.steps k []))[place]? = some (W, c))))
    ⟨Same.refl _, 0, ds.length - 1, none, none, none, none, by rw [e1]; rfl, .inl ⟨Nat.zero_le _, X, eX, hW, fun m hm => by rw [Nat.zero_add]; exact hm⟩⟩ (fun j σ H' _ hp => SqL.of (hp.1 _ _ epl)) (fun j v σ H2 hv hp => ?_) (fun σ H2 hp => ?_)
  · obtain ⟨s2, place, at0, o6, o7, o8, o9, rfl, hp⟩ := hp
    rw [List.getElem?_map] at hv
    obtain ⟨d, hd, rfl⟩ := Option.map_eq_some_iff.mp hv
    have hj := (List.getElem?_eq_some_iff.mp hd).1
    rw [sW] at hj
    obtain ⟨hjW, u, eu, hu, hpl⟩ := hp.resolve_right fun z => absurd z.1 (by omega)
    have s02 := k1.trans s2
    -- what is to be found here
    obtain ⟨l, x, r, rfl, hdT, hend⟩ : ∃ l x r, u = .node l x r ∧ isT d ∧ ((d = 0 ∧ j = W.length ∧ x = c) ∨ (d ≠ 0 ∧ j < W.length ∧ W[j]? = some d ∧ (sideB (.node l x r) l r d).at (W.drop (j + 1)) = some (.node lX c rX))) := by
      by_cases hlt : j < W.length
      · have hd' : W[j]? = some d := by
          unfold stepsOf at hd
          rw [List.getElem?_append_left hlt] at hd
          exact hd
        rw [List.drop_eq_getElem_cons hlt, (List.getElem?_eq_some_iff.mp hd').2] at hu
        obtain ⟨l, x, r, rfl, hs⟩ := at_cons hu
        rcases hs with ⟨rfl, hs⟩ | ⟨rfl, hs⟩
        · exact ⟨l, x, r, rfl, .inr (.inl rfl), .inr ⟨by decide, hlt, hd', hs⟩⟩
        · exact ⟨l, x, r, rfl, .inr (.inr rfl), .inr ⟨by decide, hlt, hd', hs⟩⟩
      · have hjl : j = W.length := by omega
        subst hjl
        unfold stepsOf at hd
        rw [List.getElem?_append_right (Nat.le_refl _), Nat.sub_self] at hd
        cases hd
        rw [List.drop_eq_nil_of_le (Nat.le_refl _), B.at_nil] at hu
        cases hu
        exact ⟨lX, c, rX, rfl, .inl rfl, .inl ⟨rfl, rfl, rfl⟩⟩
    rw [sel_node] at hpl
    refine ⟨_, rfl, aT, k.str, _, rfl, rfl, kd, bT, rfl, ⟨_, sq H2⟩, ?_⟩
    refine for_tup (K := K) (a := bT) (xs := k.turns.map fun n => vt (tw n)) (fun t σ H' => Same H1 H' ∧ ∃ (place : Nat) (o7 o8 o9 : Option V), σ = [some (.ref sp), some (.ref cp), some (.str k.str), some (vt W), some (vn place), some (vn at0), some (vt (tw d)), o7, o8, o9] ∧ d ∈ k.turns.drop t ∧
        ∀ m, ((k.turns.drop t).flatMap (seg k zs l x r (W.take j)))[m]? = some (W, c) → (sel zs (X.steps k []))[place + m]? = some (W, c))
      ⟨s2, place, o7, o8, o9, rfl, turn_mem k hdT, hpl⟩ (fun _ _ H' _ _ => sq H') (fun t v σ H3 hv hp => ?_) (fun σ H3 hp => ?_)
    · obtain ⟨s3, place, o7, o8, o9, rfl, hdt, hp3⟩ := hp
      rw [List.getElem?_map] at hv
      obtain ⟨n, hn, rfl⟩ := Option.map_eq_some_iff.mp hv
      have hnT := turns_isT k n (List.mem_of_getElem? hn)
      have ht := (List.getElem?_eq_some_iff.mp hn).1
      rw [List.drop_eq_getElem_cons ht, (List.getElem?_eq_some_iff.mp hn).2] at hdt hp3
      rw [List.flatMap_cons] at hp3
      have s03 := k1.trans s3
      refine ⟨_, rfl, _, rfl, _, rfl, _, rfl, sp, cp, ss, ds, zs, at0, n, x, l, r, rfl, s03 _ _ es, sa.keep (Tw.Same.keepT s03), s03 _ _ ec, eu, hnT, fun p i H4 s4 ep ei hlt => ?_⟩
      refine ⟨p, _, rfl, SqT.of ep, rfl, _, _, rfl, _, _, rfl, rfl, ?_⟩
      refine ⟨_, rfl, _, rfl, rfl, _, rfl, ?_⟩
      by_cases hnd : n = d
      · subst hnd
        refine iteS rfl ?_
        refine ⟨_, rfl, ?_⟩
        refine ⟨s3.trans s4, place, i, _, _, _, _, rfl, ?_⟩
        rcases hend with ⟨rfl, rfl, rfl⟩ | ⟨d0, hlt', hWd, hat⟩
        · refine .inr ⟨rfl, ?_⟩
          have := hp3 0 (by
            rw [List.getElem?_append_left]
            · show (sel zs [(W.take W.length, x)])[0]? = some (W, x)
              rw [sel_one, if_pos hc, List.take_length]
              rfl
            · rw [seg_len]
              show 0 < (if x ∈ zs then 1 else 0)
              rw [if_pos hc]
              decide)
          exact this
        · refine .inl ⟨hlt', _, ei, hat, fun m hm => hp3 m ?_⟩
          rw [take_next hWd, ← seg_side d0 hnT] at hm
          rw [List.getElem?_append_left (List.getElem?_eq_some_iff.mp hm).1]
          exact hm
      · refine iteR (fun z => hnd (tw_eq (tx_inj z))) ?_
        refine ⟨_, rfl, _, rfl, _, _, rfl, rfl, ?_⟩
        have e' : vn (place + segN zs l x r n) = V.int ((place : Int) + (segN zs l x r n : Int)) := congrArg V.int (by omega)
        refine ⟨s3.trans s4, place + segN zs l x r n, _, _, _, by rw [e']; rfl, ?_, fun m hm => ?_⟩
        · rcases List.mem_cons.mp hdt with z | z
          · exact absurd z.symm hnd
          · exact z
        · have := hp3 (segN zs l x r n + m) (by
            rw [List.getElem?_append_right (by rw [seg_len]; omega), seg_len, Nat.add_sub_cancel_left]
            exact hm)
          rw [Nat.add_assoc]
          exact this
    · obtain ⟨s3, place, o7, o8, o9, rfl, hdt, _⟩ := hp
      rw [List.length_map, List.drop_eq_nil_of_le (Nat.le_refl _)] at hdt
      cases hdt
  · obtain ⟨s2, place, at0, o6, o7, o8, o9, rfl, hp⟩ := hp
    rw [List.length_map, sW] at hp
    rcases hp with ⟨z, _⟩ | ⟨_, h⟩
    · exact absurd z (by omega)
    · exact ⟨_, rfl, q place H2 (k1.trans s2) h⟩
end
/-! ### other_place -/
section
variable {P : Program} {w : World} {K : PySem.W.Frag} {mg : Str → Option Value} {base : Heap} {f : Addr} {fd : FuncData}
def spOther : Sp := fun vs H Q _ => ∃ (p : Addr) (us : List V) (es : List En) (X : B) (k k2 : Kd) (n : Nat) (W : List Nat) (c : Nat), vs = [.ref p, .str k.str, vn n, .str k2.str] ∧ H p = some (.tup us) ∧ EnAt H us es ∧ GoodN 12 es ∧ 1 ≤ es.length ∧ es.length ≤ 20 ∧ (fulls es)[es.length - 1]? = some X ∧ (X.steps k [])[n]? = some (W, c) ∧
  ∀ (m : Nat) (H' : Hp), Same H H' → (X.steps k2 [])[m]? = some (W, c) → Q (vn m) H'
theorem ok_other {tL : Tok} (F : Fun K "other_place" "other_place" s_other_place f fd) (mLET : mg "LETTERS" = some (.str "abcdefghijklmnopqrstuvwxyz" tL)) (Dspots_of : Df P w K mg base 31 "spots_of" ["nest"] (spSpots K)) (Dcounts_in : Df P w K mg base 1 "counts_in" ["spots", "letters"] spCounts)
    (Dplace_on : Df P w K mg base 2 "place_on" ["spots", "sizes", "kind", "way"] spPlaceOn) (Dway_at : Df P w K mg base 3 "way_at" ["spots", "sizes", "kind", "place"] (spWayAt K)) : FnOk P w K mg base CX0 32 f fd ["nest", "kind", "place", "other"] spOther := by
  refine F.ok sc_other_place (fun vs H Q E h => ?_) (fun cdv A outer s H vs Q E hr h => ?_)
  · obtain ⟨p, us, es, X, k, k2, n, W, c, rfl, _⟩ := h
    rfl
  obtain ⟨p, us, es, X, k, k2, n, W, c, rfl, ep, en, gn, e1, e20, eX, hW, q⟩ := h
  obtain ⟨xsz, xlt⟩ := full_size gn e20 eX
  refine ⟨_, (pss_cons (ps_set (i := 4) sc_other_place.nd rfl (.inl rfl) (pe_call Dspots_of.ok (hr.mono (by omega)) rfl Dspots_of.g Dspots_of.kp Dspots_of.b .nil pass0 (pa_cons (pv 0) pa_nil)))
    (pss_cons (ps_set (i := 5) sc_other_place.nd rfl (.inl rfl) (pe_call Dcounts_in.ok (hr.mono (by omega)) rfl Dcounts_in.g Dcounts_in.kp Dcounts_in.b .nil pass0 (pa_cons (pv 4) (pa_cons (pe_glob (v := .str _) rfl mLET ⟨_, rfl⟩) pa_nil))))
    (pss_one (ps_ret (pe_call Dplace_on.ok (hr.mono (by omega)) rfl Dplace_on.g Dplace_on.kp Dplace_on.b .nil pass0 (pa_cons (pv 4) (pa_cons (pv 5) (pa_cons (pv 3) (pa_cons (pe_call Dway_at.ok (hr.mono (by omega)) rfl Dway_at.g Dway_at.kp Dway_at.b .nil pass0 (pa_cons (pv 4) (pa_cons (pv 5) (pa_cons (pv 1) (pa_cons (pv 2) pa_nil))))) pa_nil))))))))), ?_⟩
  refine ⟨_, rfl, p, us, es, rfl, ep, en, gn, e1, e20, fun sp ss ds H1 s1 nsp es1 sa dl last => ?_⟩
  refine ⟨_, rfl, sp, ss, ds, alph, rfl, es1, sa, dl, fun p2 H2 s2 e2 => ?_⟩
  have hd : ds[ds.length - 1]? = some X := last.trans eX
  have hn : n < X.size := by
    have := (List.getElem?_eq_some_iff.mp hW).1
    rw [X.steps_len] at this
    exact this
  have sa2 := sa.keep (Tw.Same.keepT s2)
  refine ⟨_, rfl, _, rfl, _, rfl, _, rfl, _, rfl, _, rfl, _, rfl, sp, p2, ss, ds, alph, k, n, X, W, c, rfl, s2 _ _ es1, sa2, dl, e2, hd, by rw [cnt_alph xlt]; exact hn, by rw [steps_all xlt]; exact hW, fun H3 s3 wl => ?_⟩
  obtain ⟨w', l', r', e3, e4⟩ := steps_at k X [] W c (List.mem_of_getElem? hW)
  rw [List.nil_append] at e3
  subst e3
  have hc : c ∈ alph := alph_mem (xlt c ((wk_mem k X c).mp (by rw [← X.steps_wk k []]; exact List.mem_map.mpr ⟨(W, c), List.mem_of_getElem? hW, rfl⟩)))
  exact ⟨sp, p2, ss, ds, alph, k2, X, W, c, l', r', rfl, s3 _ _ (s2 _ _ es1), sa2.keep (Tw.Same.keepT s3), dl, s3 _ _ e2, hd, e4, hc, wl, fun m H4 s4 hm => q m H4 (s1.trans (s2.trans (s3.trans s4))) (by rw [steps_all xlt] at hm; exact hm)⟩
end
/-! ### nth_label -/
def spNth : Sp := fun vs H Q _ => ∃ (p : Addr) (us : List V) (es : List En) (X : B) (k : Kd) (c i : Nat) (W : List Nat), vs = [.ref p, .str k.str, .str (ch c), vn i] ∧ H p = some (.tup us) ∧ EnAt H us es ∧ GoodN 12 es ∧ 1 ≤ es.length ∧ es.length ≤ 20 ∧ (fulls es)[es.length - 1]? = some X ∧ (sel [c] (X.steps k []))[i]? = some (W, c) ∧
  ∀ (m : Nat) (H' : Hp), Same H H' → (X.steps k [])[m]? = some (W, c) → Q (vn m) H'
theorem sel_mem {zs : List Nat} {L : List (List Nat × Nat)} {x : List Nat × Nat} (h : x ∈ sel zs L) : x ∈ L := (List.mem_filter.mp h).1
section
variable {P : Program} {w : World} {K : PySem.W.Frag} {mg : Str → Option Value} {base : Heap} {f : Addr} {fd : FuncData}
theorem ok_nth {tL : Tok} (F : Fun K "nth_label" "nth_label" s_nth_label f fd) (mLET : mg "LETTERS" = some (.str "abcdefghijklmnopqrstuvwxyz" tL)) (Dspots_of : Df P w K mg base 31 "spots_of" ["nest"] (spSpots K)) (Dcounts_in : Df P w K mg base 1 "counts_in" ["spots", "letters"] spCounts)
    (Dis_index : Df P w K mg base 2 "is_index" ["value", "many"] spIndex) (Dplace_on : Df P w K mg base 2 "place_on" ["spots", "sizes", "kind", "way"] spPlaceOn) (Dway_to : Df P w K mg base 2 "way_to" ["spots", "counts", "kind", "index"] (spWay K)) : FnOk P w K mg base CX0 32 f fd ["nest", "kind", "label", "index"] spNth := by
  refine F.ok sc_nth_label (fun vs H Q E h => ?_) (fun cdv A outer s H vs Q E hr h => ?_)
  · obtain ⟨p, us, es, X, k, c, i, W, rfl, _⟩ := h
    rfl
  obtain ⟨p, us, es, X, k, c, i, W, rfl, ep, en, gn, e1, e20, eX, hW, q⟩ := h
  obtain ⟨xsz, xlt⟩ := full_size gn e20 eX
  refine ⟨_, (pss_cons (ps_set (i := 4) sc_nth_label.nd rfl (.inl rfl) (pe_call Dspots_of.ok (hr.mono (by omega)) rfl Dspots_of.g Dspots_of.kp Dspots_of.b .nil pass0 (pa_cons (pv 0) pa_nil)))
    (pss_cons (ps_set (i := 5) sc_nth_label.nd rfl (.inl rfl) (pe_call Dcounts_in.ok (hr.mono (by omega)) rfl Dcounts_in.g Dcounts_in.kp Dcounts_in.b .nil pass0 (pa_cons (pv 4) (pa_cons (pv 2) pa_nil))))
    (pss_cons (ps_if (pt_not (pt_val (pe_call Dis_index.ok (hr.mono (by omega)) rfl Dis_index.g Dis_index.kp Dis_index.b .nil pass0 (pa_cons (pv 3) (pa_cons (pe_ix ix_list (pv 5) (pe_un un_neg pe_int) (fun _ _ => rfl)) pa_nil)))))
      (pss_one ps_never) pss_nil)
    (pss_one (ps_ret (pe_call Dplace_on.ok (hr.mono (by omega)) rfl Dplace_on.g Dplace_on.kp Dplace_on.b .nil pass0 (pa_cons (pv 4) (pa_cons (pe_call Dcounts_in.ok (hr.mono (by omega)) rfl Dcounts_in.g Dcounts_in.kp Dcounts_in.b .nil pass0 (pa_cons (pv 4) (pa_cons (pe_glob (v := .str _) rfl mLET ⟨_, rfl⟩) pa_nil))) (pa_cons (pv 1) (pa_cons (pe_call Dway_to.ok (hr.mono (by omega)) rfl Dway_to.g Dway_to.kp Dway_to.b .nil pass0 (pa_cons (pv 4) (pa_cons (pv 5) (pa_cons (pv 1) (pa_cons (pv 3) pa_nil))))) pa_nil)))))))))), ?_⟩
  refine ⟨_, rfl, p, us, es, rfl, ep, en, gn, e1, e20, fun sp ss ds H1 s1 nsp es1 sa dl last => ?_⟩
  refine ⟨_, rfl, _, rfl, sp, ss, ds, [c], rfl, es1, sa, dl, fun p2 H2 s2 e2 => ?_⟩
  have hd : ds[ds.length - 1]? = some X := last.trans eX
  have hi : i < X.cnt [c] := by
    have := (List.getElem?_eq_some_iff.mp hW).1
    rw [sel_len] at this
    exact this
  have sa2 := sa.keep (Tw.Same.keepT s2)
  refine ⟨_, rfl, _, rfl, _, rfl, p2, _, _, _, rfl, rfl, SqL.of e2, at_last (v := vn (X.cnt [c])) (by rw [List.length_map, List.getElem?_map, hd]; rfl), ?_⟩
  refine ⟨_, _, rfl, ?_⟩
  rw [decide_eq_true (by omega : (0 : Int) ≤ (i : Int)), decide_eq_true (by omega : (i : Int) < (X.cnt [c] : Int))]
  refine ⟨_, rfl, iteF ?_⟩
  refine ⟨_, rfl, _, rfl, sp, ss, ds, alph, rfl, s2 _ _ es1, sa2, dl, fun p3 H3 s3 e3 => ?_⟩
  have sa3 := sa2.keep (Tw.Same.keepT s3)
  have es3 := s3 _ _ (s2 _ _ es1)
  refine ⟨_, rfl, _, rfl, _, rfl, _, rfl, _, rfl, sp, p2, ss, ds, [c], k, i, X, W, c, rfl, es3, sa3, dl, s3 _ _ e2, hd, hW, fun H4 s4 wl => ?_⟩
  have hm := sel_mem (List.mem_of_getElem? hW)
  obtain ⟨w', l', r', e5, e4⟩ := steps_at k X [] W c hm
  rw [List.nil_append] at e5
  subst e5
  have hc : c ∈ alph := alph_mem (xlt c ((wk_mem k X c).mp (by rw [← X.steps_wk k []]; exact List.mem_map.mpr ⟨(W, c), hm, rfl⟩)))
  exact ⟨sp, p3, ss, ds, alph, k, X, W, c, l', r', rfl, s4 _ _ es3, sa3.keep (Tw.Same.keepT s4), dl, s4 _ _ e3, hd, e4, hc, wl, fun m H5 s5 hm => q m H5 (s1.trans (s2.trans (s3.trans (s4.trans s5)))) (by rw [steps_all xlt] at hm; exact hm)⟩
end
/-! ### values of any kind, and how they are shown -/
mutual
inductive DQ (D : Deck) (H : Hp) : V → PyData → Prop
  | non : DQ D H .non .none
  | bl (b : Bool) : DQ D H (.bl b) (.bool b)
  | int (i : Int) : DQ D H (.int i) (.int i)
  | str (x : Str) : DQ D H (.str x) (.str x)
  | lst {a : Addr} {xs : List V} {ds : List PyData} : Off D a → H a = some (.lst xs) → DQAll D H xs ds → DQ D H (.ref a) (.list ds)
  | tup {a : Addr} {xs : List V} {ds : List PyData} : Off D a → H a = some (.tup xs) → DQAll D H xs ds → DQ D H (.ref a) (.tuple ds)
  | emp {a : Addr} : Off D a → H a = some (.dK []) → DQ D H (.ref a) (.dict [])
  | ent {a : Addr} {x : Str} {i : Int} : Off D a → H a = some (.dK [(.inr x, .int i)]) → DQ D H (.ref a) (.dict [(.str x, .int i)])
inductive DQAll (D : Deck) (H : Hp) : List V → List PyData → Prop
  | nil : DQAll D H [] []
  | cons {v : V} {vs : List V} {d : PyData} {ds : List PyData} : DQ D H v d → DQAll D H vs ds → DQAll D H (v :: vs) (d :: ds)
end
mutual
theorem dq_sameD {D : Deck} {H H' : Hp} (s : SameD D H H') : ∀ {v : V} {d : PyData}, DQ D H v d → DQ D H' v d
  | _, _, .non => .non
  | _, _, .bl b => .bl b
  | _, _, .int i => .int i
  | _, _, .str x => .str x
  | _, _, .lst o e a => .lst o (s.at o e) (dqAll_sameD s a)
  | _, _, .tup o e a => .tup o (s.at o e) (dqAll_sameD s a)
  | _, _, .emp o e => .emp o (s.at o e)
  | _, _, .ent o e => .ent o (s.at o e)
theorem dqAll_sameD {D : Deck} {H H' : Hp} (s : SameD D H H') : ∀ {vs : List V} {ds : List PyData}, DQAll D H vs ds → DQAll D H' vs ds
  | _, _, .nil => .nil
  | _, _, .cons h a => .cons (dq_sameD s h) (dqAll_sameD s a)
end
theorem dq_same {D : Deck} {H H' : Hp} (s : Same H H') {v : V} {d : PyData} (h : DQ D H v d) : DQ D H' v d := dq_sameD (SameD.of s) h
theorem dqAll_same {D : Deck} {H H' : Hp} (s : Same H H') {v : List V} {d : List PyData} (h : DQAll D H v d) : DQAll D H' v d := dqAll_sameD (SameD.of s) h
theorem dqAll_len {D : Deck} {H : Hp} : ∀ {vs : List V} {ds : List PyData}, DQAll D H vs ds → vs.length = ds.length
  | _, _, .nil => rfl
  | _, _, .cons _ a => congrArg (· + 1) (dqAll_len a)
theorem dqAll_get {D : Deck} {H : Hp} : ∀ {vs : List V} {ds : List PyData} {i : Nat} {v : V}, DQAll D H vs ds → vs[i]? = some v → ∃ d, ds[i]? = some d ∧ DQ D H v d
  | _, _, _, _, .nil, h => by simp at h
  | _, _, 0, _, .cons h _, e => by
    cases e
    exact ⟨_, rfl, h⟩
  | _, _, i + 1, _, .cons _ a, e => dqAll_get (i := i) a e
theorem dqAll_app {D : Deck} {H : Hp} : ∀ {vs vs' : List V} {ds ds' : List PyData}, DQAll D H vs ds → DQAll D H vs' ds' → DQAll D H (vs ++ vs') (ds ++ ds')
  | _, _, _, _, .nil, h => h
  | _, _, _, _, .cons h a, h' => .cons h (dqAll_app a h')
theorem BAt.dq {D : Deck} {H : Hp} {n : Nat} (d : DeckOk H D n) {v : V} {t : B} (h : BAt H v t) : DQ D H v t.data := by
  obtain ⟨c, r, h1, h2, h3, _⟩ := d.ex
  induction h with
  | nil => exact .non
  | node e _ _ i1 i2 => exact .tup ⟨ne_of e h1 (by intro z; cases z), ne_of e h2 (by intro z; cases z), ne_of e h3 (by intro z; cases z)⟩ e (.cons i1 (.cons (.str _) (.cons i2 .nil)))
def okI (i : Int) : Bool := decide (-1 ≤ i) && decide (i < 10 ^ 30)
def okS (x : Str) : Bool := decide (x.length ≤ 90) && x.cps.toList.all (· < 128)
mutual
def gd : PyData → Bool
  | .none => true
  | .bool _ => true
  | .int i => okI i
  | .str x => okS x
  | .list xs => gds xs
  | .tuple xs => gds xs
  | .dict kvs => match kvs with
    | [] => true
    | [(.str x, .int i)] => okS x && okI i
    | _ => false
def gds : List PyData → Bool
  | [] => true
  | x :: xs => gd x && gds xs
end
mutual
def wt : PyData → Nat
  | .none => 4
  | .bool _ => 5
  | .int _ => 31
  | .str _ => 902
  | .list xs => 3 + wts xs
  | .tuple xs => 3 + wts xs
  | .dict _ => 940
def wts : List PyData → Nat
  | [] => 0
  | x :: xs => wt x + 2 + wts xs
end
theorem gd_str {x : Str} (h : gd (.str x) = true) : x.length ≤ 90 ∧ ∀ c ∈ x.cps.toList, c < 128 := by
  simp only [gd, okS, Bool.and_eq_true, decide_eq_true_eq, List.all_eq_true] at h
  exact h
theorem okS_gd {x : Str} (h : okS x = true) : gd (.str x) = true := by simp only [gd]; exact h
theorem okI_gd {i : Int} (h : okI i = true) : gd (.int i) = true := by simp only [gd]; exact h
theorem reprText_le {x : Str} (h : gd (.str x) = true) : (reprText x).length ≤ 902 := by
  obtain ⟨h1, h2⟩ := gd_str h
  have := StrLaws.reprText_len x (fun c hc => Nat.lt_of_lt_of_le (h2 c hc) (by decide))
  omega
theorem int_show {i : Int} (h : gd (.int i) = true) : (Str.ofString (toString i)).length ≤ 31 ∧ i.natAbs.log2 < 1920 := by
  simp only [gd, okI, Bool.and_eq_true, decide_eq_true_eq] at h
  by_cases z : i = -1
  · subst z
    decide +kernel
  · exact small_shown (by omega) h.2
theorem listText_le (ts : List Str) : (listText ts).length ≤ piled ts + 3 := by
  have h := textFrom_len_le ts 0 "["
  have e : (listText ts).length = (textFrom 0 "[" ts).length + 1 := by
    show (textFrom 0 "[" ts ++ "]").length = _
    rw [strLen_append]
    rfl
  have z : ∀ l : List Str, (l.map (·.length)).sum + 2 * l.length = piled l := by
    intro l
    induction l with
    | nil => rfl
    | cons t l ih =>
      rw [piled_cons, List.map_cons, List.sum_cons, List.length_cons]
      omega
  have z2 := z ts
  have z3 : (("[" : String) : Str).length = 1 := rfl
  omega
mutual
theorem shown_le : ∀ d : PyData, gd d = true → d.shown.length ≤ wt d ∧ d.showable = true
  | .none, _ => by
    simp only [PyData.shown, wt, PyData.showable, and_true]
    decide +kernel
  | .bool b, _ => by
    simp only [PyData.shown, wt, PyData.showable, and_true]
    cases b <;> decide +kernel
  | .int i, h => by
    obtain ⟨h1, h2⟩ := int_show h
    simp only [PyData.shown, wt, PyData.showable, decide_eq_true_eq]
    exact ⟨h1, h2⟩
  | .str x, h => by
    have h1 := reprText_le h
    simp only [PyData.shown, wt, PyData.showable, and_true]
    exact h1
  | .list xs, h => by
    simp only [gd] at h
    obtain ⟨h1, h2⟩ := showns_le xs h
    simp only [PyData.shown, wt, PyData.showable]
    exact ⟨Nat.le_trans (listText_le _) (by omega), h2⟩
  | .tuple xs, h => by
    simp only [gd] at h
    obtain ⟨h1, h2⟩ := showns_le xs h
    simp only [PyData.shown, wt, PyData.showable]
    exact ⟨Nat.le_trans (fmt_text _) (by omega), h2⟩
  | .dict kvs, h => by
    simp only [gd] at h
    cases kvs with
    | nil =>
      simp only [PyData.shown, PyData.shownKv, wt, PyData.showable, PyData.showableKv, and_true]
      decide +kernel
    | cons p r =>
      obtain ⟨k, v⟩ := p
      cases k <;> first | exact absurd h Bool.false_ne_true | skip
      rename_i x
      cases v <;> first | exact absurd h Bool.false_ne_true | skip
      rename_i i
      cases r with
      | cons _ _ => exact absurd h Bool.false_ne_true
      | nil =>
      obtain ⟨h1, h2⟩ := Bool.and_eq_true_iff.mp (show (okS x && okI i) = true from h)
      have a1 := reprText_le (okS_gd h1)
      obtain ⟨a2, a3⟩ := int_show (okI_gd h2)
      refine ⟨?_, ?_⟩
      · simp only [PyData.shown, PyData.shownKv, wt]
        have e0 : Str.join ", " [reprText x ++ ": " ++ Str.ofString (toString i)] = reprText x ++ ": " ++ Str.ofString (toString i) := rfl
        unfold dictText
        rw [e0]
        rw [strLen_append, strLen_append, strLen_append, strLen_append]
        have l1 : (("{" : String) : Str).length = 1 := rfl
        have l2 : (("}" : String) : Str).length = 1 := rfl
        have l3 : ((": " : String) : Str).length = 2 := rfl
        omega
      · simp only [PyData.showable, PyData.showableKv, Bool.and_true, Bool.true_and, decide_eq_true_eq]
        exact a3
theorem showns_le : ∀ ds : List PyData, gds ds = true → piled (PyData.shownAll ds) ≤ wts ds ∧ PyData.showableAll ds = true
  | [], _ => by
    simp only [PyData.shownAll, wts, PyData.showableAll, and_true]
    exact Nat.le_refl _
  | d :: ds, h => by
    simp only [gds, Bool.and_eq_true] at h
    obtain ⟨h1, h2⟩ := shown_le d h.1
    obtain ⟨h3, h4⟩ := showns_le ds h.2
    simp only [PyData.shownAll, wts, PyData.showableAll, h2, h4, Bool.and_self, and_true]
    rw [piled_cons]
    omega
end
/-! ### repr of such a value -/
section
variable {X : Cx} {pins : List (Addr × Obj)} {σ : L2.St} {H : Hp} {s : Shared} {D : Deck}
theorem obj_lst (I : Inv X pins σ H s) {a : Addr} {xs : List V} (e : H a = some (.lst xs)) : ∃ (its : List Value) (o : Obj) (n : Nat), Vals xs its ∧ s.heap.get? a = some o ∧ o.cls = .type "list" ∧ o.data = .seq its.toArray n := by
  obtain ⟨_, its, n, r, h⟩ := (show ObjOk X.prog X.w H s.heap a (.lst xs) from I.hok a _ e)
  exact ⟨its, _, n, r, h, rfl, rfl⟩
theorem obj_tup (I : Inv X pins σ H s) {a : Addr} {xs : List V} (e : H a = some (.tup xs)) : ∃ (its : List Value) (o : Obj) (n : Nat), Vals xs its ∧ s.heap.get? a = some o ∧ o.cls = .type "tuple" ∧ o.data = .seq its.toArray n := by
  obtain ⟨_, its, r, o, h1, h2, n, h3⟩ := (show ObjOk X.prog X.w H s.heap a (.tup xs) from I.hok a _ e)
  exact ⟨its, o, n, r, h1, h2, h3⟩
theorem obj_emp (I : Inv X pins σ H s) {a : Addr} (e : H a = some (.dK [])) : ∃ (o : Obj) (n : Nat), s.heap.get? a = some o ∧ o.cls = .type "dict" ∧ o.data = .dict #[] n ∧ (a == sysModules) = false := by
  obtain ⟨_, ne, vs, kv, o, es, ep, h1, ex, h2, _, ps, _⟩ := (show ObjOk X.prog X.w H s.heap a (.dK []) from I.hok a _ e)
  cases kv
  have hes : es = #[] := by
    cases hl : es.toList with
    | nil => exact Array.toList_eq_nil_iff.mp hl
    | cons e l =>
      rw [hl] at ps
      cases ps
  subst hes
  exact ⟨o, ep, h1, ex.1, h2, ne⟩
theorem obj_ent (I : Inv X pins σ H s) {a : Addr} {x : Str} {i : Int} (e : H a = some (.dK [(.inr x, .int i)])) : ∃ (o : Obj) (es : Array DictEntry) (n : Nat) (hh : Int) (t t2 : Tok), s.heap.get? a = some o ∧ o.cls = .type "dict" ∧ o.data = .dict es n ∧ es.toList = [⟨hh, .str x t, .int i t2⟩] ∧ (a == sysModules) = false := by
  obtain ⟨_, ne, vs, kv, o, es, ep, h1, ex, h2, _, ps, _⟩ := (show ObjOk X.prog X.w H s.heap a (.dK [(.inr x, .int i)]) from I.hok a _ e)
  cases kv with
  | @cons a' b' l1 l2 hh tt =>
  cases tt
  obtain ⟨k1, k2⟩ := b'
  obtain ⟨e1, t2, e2⟩ := hh
  have e1 : Sum.inr x = k1 := e1
  subst e1
  have e2 : k2 = .int i t2 := e2
  subst e2
  cases hl : es.toList with
  | nil => rw [hl] at ps; cases ps
  | cons en l =>
    rw [hl] at ps
    cases ps with
    | cons p1 p2 p3 =>
    cases p3
    obtain ⟨hv, kk, vv⟩ := en
    have p1 : Value.isStrOf x kk = true := p1
    have p2 : vv = .int i t2 := p2
    subst p2
    obtain ⟨t, rfl⟩ : ∃ t, kk = .str x t := by
      rcases keyIs_shape (k := .inr x) (show keyIs (.inr x) kk = true from p1) with ⟨_, _, e, _⟩ | ⟨y, t, e, rfl⟩
      · cases e
      · cases e; exact ⟨t, rfl⟩
    exact ⟨o, es, ep, hv, t, t2, h1, ex.1, h2, hl, ne⟩
mutual
theorem dq_reads (I : Inv X pins σ H s) : ∀ (d : PyData) (v : V) (u : Value), DQ D H v d → RelV v u → ∃ as, Reads s.heap u d as
  | .none, _, _, h, r => by
    cases h
    cases r
    exact ⟨_, .none⟩
  | .bool b, _, _, h, r => by
    cases h
    cases r
    exact ⟨_, .bool b⟩
  | .int i, _, _, h, r => by
    cases h
    obtain ⟨t, rfl⟩ := r
    exact ⟨_, .int i t⟩
  | .str x, _, _, h, r => by
    cases h
    obtain ⟨t, rfl⟩ := r
    exact ⟨_, .str x t⟩
  | .list ds, _, _, h, r => by
    cases h with
    | lst o e al =>
      cases r
      obtain ⟨its, ob, n, rv, h1, h2, h3⟩ := obj_lst I e
      obtain ⟨as, ra⟩ := dq_readsAll I ds _ its al rv
      exact ⟨_, .list h1 h2 h3 ra⟩
  | .tuple ds, _, _, h, r => by
    cases h with
    | tup o e al =>
      cases r
      obtain ⟨its, ob, n, rv, h1, h2, h3⟩ := obj_tup I e
      obtain ⟨as, ra⟩ := dq_readsAll I ds _ its al rv
      exact ⟨_, .tuple h1 h2 h3 ra⟩
  | .dict kvs, _, _, h, r => by
    cases h with
    | emp o e =>
      cases r
      obtain ⟨ob, n, h1, h2, h3, _⟩ := obj_emp I e
      exact ⟨_, .dict h1 h2 h3 .nil .nil⟩
    | ent o e =>
      cases r
      obtain ⟨ob, es, n, hh, t, t2, h1, h2, h3, h4, _⟩ := obj_ent I e
      exact ⟨_, .dict h1 h2 h3 (by rw [h4]; exact .cons (.str _ _) .nil) (by rw [h4]; exact .cons (.int _ _) .nil)⟩
theorem dq_readsAll (I : Inv X pins σ H s) : ∀ (ds : List PyData) (vs : List V) (us : List Value), DQAll D H vs ds → Vals vs us → ∃ as, ReadsAll s.heap us ds as
  | [], _, _, h, r => by
    cases h
    cases r
    exact ⟨_, .nil⟩
  | d :: ds, _, _, h, r => by
    cases h with
    | cons h1 h2 =>
      cases r with
      | cons r1 r2 =>
        obtain ⟨as, q1⟩ := dq_reads I d _ _ h1 r1
        obtain ⟨bs, q2⟩ := dq_readsAll I ds _ _ h2 r2
        exact ⟨_, .cons q1 q2⟩
end
theorem entries0 {as : List Addr} {h₀ : Heap} {d : Nat} {prog : Program} {w : World} : ReprEntriesK prog w as h₀ d (#[] : Array DictEntry).toList [] := .nil
mutual
theorem dq_repr (I : Inv X pins σ H s) : ∀ (d : PyData) (v : V) (u : Value), DQ D H v d → RelV v u → gd d = true → wt d ≤ 1000000 → ∃ bs, ReadAtMost s.heap d.depth bs ∧ ReprK X.prog X.w bs s.heap d.depth u d.shown
  | .none, _, _, h, r, _, _ => by
    cases h
    cases r
    exact ⟨[], (fun _ z => nomatch z), by simp only [PyData.shown]; exact .of_is ReprIs.none _ _ _⟩
  | .bool b, _, _, h, r, _, _ => by
    cases h
    cases r
    exact ⟨[], (fun _ z => nomatch z), by simp only [PyData.shown]; exact .of_is (ReprIs.bool b) _ _ _⟩
  | .int i, _, _, h, r, g, _ => by
    cases h
    obtain ⟨t, rfl⟩ := r
    exact ⟨[], (fun _ z => nomatch z), by simp only [PyData.shown]; exact .of_is (ReprIs.int t (int_show g).2) _ _ _⟩
  | .str x, _, _, h, r, g, _ => by
    cases h
    obtain ⟨t, rfl⟩ := r
    have hx : (reprText x).length ≤ sizeLine := small (Nat.le_trans (reprText_le g) (by decide))
    exact ⟨[], (fun _ z => nomatch z), by simp only [PyData.shown]; exact .of_is (ReprIs.str x t hx) _ _ _⟩
  | .list ds, _, _, h, r, g, z => by
    have rd := dq_reads I (.list ds) _ _ h r
    cases h with
    | @lst a xs _ o e al =>
      cases r
      simp only [gd] at g
      simp only [wt] at z
      obtain ⟨its, ob, n, rv, h1, h2, h3⟩ := obj_lst I e
      obtain ⟨bs, hb, hk⟩ := dq_reprAll I ds _ its al rv g (by omega)
      obtain ⟨as, rd⟩ := rd
      have hna : a ∉ bs := not_mem_of_deeper rd (by simp only [PyData.depth]; omega) hb
      refine ⟨a :: bs, ReadAtMost.cons rd (by simp only [PyData.depth]; omega) hb, ?_⟩
      simp only [PyData.depth, PyData.shown]
      cases its with
      | nil =>
        cases rv
        cases al
        simp only [PyData.shownAll, listText_nil]
        exact ReprK.listEmpty h1 h2 h3
      | cons y l => exact ReprK.list h1 h2 h3 hna (by simpa using hk.length_eq) (fun i w e => hk.item i w (by simpa using e))
  | .tuple ds, _, _, h, r, g, z => by
    have rd := dq_reads I (.tuple ds) _ _ h r
    cases h with
    | @tup a xs _ o e al =>
      cases r
      simp only [gd] at g
      simp only [wt] at z
      obtain ⟨its, ob, n, rv, h1, h2, h3⟩ := obj_tup I e
      obtain ⟨bs, hb, hk⟩ := dq_reprAll I ds _ its al rv g (by omega)
      obtain ⟨as, rd⟩ := rd
      have hna : a ∉ bs := not_mem_of_deeper rd (by simp only [PyData.depth]; omega) hb
      refine ⟨a :: bs, ReadAtMost.cons rd (by simp only [PyData.depth]; omega) hb, ?_⟩
      simp only [PyData.depth, PyData.shown]
      exact ReprK.tuple h1 h2 h3 hna hk
  | .dict kvs, _, _, h, r, g, _ => by
    have rd := dq_reads I (.dict kvs) _ _ h r
    cases h with
    | @emp a o e =>
      cases r
      obtain ⟨ob, n, h1, h2, h3, hs⟩ := obj_emp I e
      obtain ⟨as, rd⟩ := rd
      refine ⟨[a], ReadAtMost.cons rd (n := 0) (Nat.zero_le _) (fun _ z => nomatch z), ?_⟩
      simp only [PyData.depth, PyData.shown, PyData.shownKv, PyData.depthKv]
      exact ReprK.dict h1 h2 h3 hs (fun z => nomatch z) entries0
    | @ent a x i o e =>
      cases r
      obtain ⟨ob, es, n, hh, t, t2, h1, h2, h3, h4, hs⟩ := obj_ent I e
      obtain ⟨as, rd⟩ := rd
      simp only [gd, Bool.and_eq_true] at g
      refine ⟨[a], ReadAtMost.cons rd (n := 0) (Nat.zero_le _) (fun _ z => nomatch z), ?_⟩
      have hx : (reprText x).length ≤ sizeLine := small (Nat.le_trans (reprText_le (okS_gd g.1)) (by decide))
      simp only [PyData.depth, PyData.shown, PyData.shownKv, PyData.depthKv]
      exact ReprK.dict h1 h2 h3 hs (fun z => nomatch z) (by rw [h4]; exact .cons (.of_is (ReprIs.str x t hx) _ _ _) (.of_is (ReprIs.int t2 (int_show (okI_gd g.2)).2) _ _ _) .nil)
theorem dq_reprAll (I : Inv X pins σ H s) : ∀ (ds : List PyData) (vs : List V) (us : List Value), DQAll D H vs ds → Vals vs us → gds ds = true → wts ds ≤ 1000000 → ∃ bs, ReadAtMost s.heap (PyData.depthAll ds) bs ∧ ReprAllK X.prog X.w bs s.heap (PyData.depthAll ds) us (PyData.shownAll ds)
  | [], _, _, h, r, _, _ => by
    cases h
    cases r
    exact ⟨[], (fun _ z => nomatch z), by simp only [PyData.shownAll]; exact .nil⟩
  | d :: ds, _, _, h, r, g, z => by
    cases h with
    | cons h1 h2 =>
      cases r with
      | cons r1 r2 =>
        simp only [gds, Bool.and_eq_true] at g
        simp only [wts] at z
        obtain ⟨b1, hb1, k1⟩ := dq_repr I d _ _ h1 r1 g.1 (by omega)
        obtain ⟨b2, hb2, k2⟩ := dq_reprAll I ds _ _ h2 r2 g.2 (by omega)
        simp only [PyData.depthAll, PyData.shownAll]
        refine ⟨b1 ++ b2, (hb1.mono (Nat.le_max_left _ _)).append (hb2.mono (Nat.le_max_right _ _)), ?_⟩
        refine .cons ((k1.more ?_).level_le (Nat.le_max_left _ _)) (k2.more_le ?_ (Nat.le_max_right _ _))
        · intro b hb
          exact List.mem_append_left _ hb
        · intro b hb
          exact List.mem_append_right _ hb
end
end
theorem call_reprQ {X : Cx} (hg : X.A.guards = some []) (hu : X.A.units + 64 < cLine) : CallR X (.builtin "repr") (fun xs H Q => ∃ (v : V) (D : Deck) (d : PyData), xs = [v] ∧ DQ D H v d ∧ gd d = true ∧ wt d ≤ 1000000 ∧ d.depth ≤ 60 ∧ Q (.str d.shown) H) := by
  intro pins s σ H xs us Q I r h
  obtain ⟨v, D, d, rfl, hd, g, z, hz, q⟩ := h
  obtain ⟨u, rfl, rx⟩ := vals1 r
  obtain ⟨hl, _⟩ := shown_le d g
  have big : (1000000 : Nat) ≤ sizeLine := by decide
  have fits : d.shown.length ≤ sizeLine := by omega
  have fin : ∀ (h' : Heap) (t : Tok) (tk : Tok), (∀ b o, s.heap.get? b = some o → h'.get? b = some o) → EP X pins σ Q (.str d.shown t) { s with heap := h', toks := tk } := fun h' t tk hk => ⟨.str d.shown, H, I.kept (t' := tk) hk, ⟨t, rfl⟩, q⟩
  have nil0 : ∀ b ∈ ([] : List Addr), True := fun _ _ => trivial
  have key := dq_repr I d v u hd rx g z
  have rds := dq_reads I d v u hd rx
  cases hd with
  | non =>
    cases rx
    simp only [PyData.shown] at fin
    exact PySem.P.repr_of_none (fin s.heap _ _ fun _ _ e => e)
  | bl b =>
    cases rx
    simp only [PyData.shown] at fin
    exact PySem.P.repr_of_bool (fin s.heap _ _ fun _ _ e => e)
  | int i =>
    obtain ⟨t, rfl⟩ := rx
    simp only [PyData.shown] at fin
    exact PySem.P.repr_of_int (int_show g).2 (fin s.heap _ _ fun _ _ e => e)
  | str x =>
    obtain ⟨t, rfl⟩ := rx
    simp only [PyData.shown] at fin fits
    exact PySem.P.repr_of_str (fin s.heap _ _ fun _ _ e => e) fits
  | @lst a xs ds o e al =>
    cases rx
    simp only [gd] at g
    simp only [wt] at z
    simp only [PyData.shown] at fin fits
    simp only [PyData.depth] at hz
    obtain ⟨its, ob, n, rv, h1, h2, h3⟩ := obj_lst I e
    obtain ⟨bs, hb, hk⟩ := dq_reprAll I ds _ its al rv g (by omega)
    obtain ⟨as, rd⟩ := rds
    have hna : a ∉ bs := not_mem_of_deeper rd (by simp only [PyData.depth]; omega) hb
    refine call_repr_slot (by omega) ⟨ob, h1, h2⟩ F.slot_list_repr.toG ?_
    cases its with
    | nil =>
      cases rv
      cases al
      simp only [PyData.shownAll, listText_nil] at fin
      exact call_list_repr_empty ⟨ob, h1, h2⟩ h1 h3 ⟨_, _, rfl, fin s.heap _ _ fun _ _ e => e⟩
    | cons y l => exact call_list_reprK h1 h2 h3 hna (by simpa using hk.length_eq) (fun i w e => hk.item i w (by simpa using e)) hg (fun b _ => Clear.nil b) (by show X.A.units + 1 + (PyData.depthAll ds + 1) < cLine; omega) (fun _ _ e => e) (fun h' u tk hk => ⟨_, _, rfl, fin h' u tk hk⟩) fits
  | @tup a xs ds o e al =>
    cases rx
    simp only [gd] at g
    simp only [wt] at z
    simp only [PyData.shown] at fin fits
    simp only [PyData.depth] at hz
    obtain ⟨its, ob, n, rv, h1, h2, h3⟩ := obj_tup I e
    obtain ⟨bs, hb, hk⟩ := dq_reprAll I ds _ its al rv g (by omega)
    obtain ⟨as, rd⟩ := rds
    have hna : a ∉ bs := not_mem_of_deeper rd (by simp only [PyData.depth]; omega) hb
    refine call_repr_slot (by omega) ⟨ob, h1, h2⟩ F.slot_tuple_repr ?_
    exact call_tuple_reprK h1 h2 h3 hna hk hg (fun b _ => Clear.nil b) (by show X.A.units + 1 + (PyData.depthAll ds + 1) < cLine; omega) (fun _ _ e => e) (fun h' u tk hk => ⟨_, _, rfl, fin h' u tk hk⟩) fits
  | @emp a o e =>
    cases rx
    simp only [PyData.shown, PyData.shownKv] at fin fits
    obtain ⟨ob, n, h1, h2, h3, hs⟩ := obj_emp I e
    refine call_repr_slot (by omega) ⟨ob, h1, h2⟩ F.slot_dict_repr ?_
    exact call_dict_reprK h1 h2 h3 hs (as := []) (fun z => nomatch z) (d := 0) entries0 hg (fun b _ => Clear.nil b) (by show X.A.units + 1 + (0 + 1) < cLine; omega) (fun _ _ e => e) (fun h' u tk hk => ⟨_, _, rfl, fin h' u tk hk⟩) fits
  | @ent a x i o e =>
    cases rx
    simp only [PyData.shown, PyData.shownKv] at fin fits
    simp only [gd, Bool.and_eq_true] at g
    obtain ⟨ob, es, n, hh, t, t2, h1, h2, h3, h4, hs⟩ := obj_ent I e
    have hx : (reprText x).length ≤ sizeLine := small (Nat.le_trans (reprText_le (okS_gd g.1)) (by decide))
    refine call_repr_slot (by omega) ⟨ob, h1, h2⟩ F.slot_dict_repr ?_
    exact call_dict_reprK h1 h2 h3 hs (as := []) (fun z => nomatch z) (d := 0) (by rw [h4]; exact .cons (.of_is (ReprIs.str x t hx) _ _ _) (.of_is (ReprIs.int t2 (int_show (okI_gd g.2)).2) _ _ _) .nil) hg (fun b _ => Clear.nil b) (by show X.A.units + 1 + (0 + 1) < cLine; omega) (fun _ _ e => e) (fun h' u tk hk => ⟨_, _, rfl, fin h' u tk hk⟩) fits
def tyD : PyData → String
  | .none => "NoneType"
  | .bool _ => "bool"
  | .int _ => "int"
  | .str _ => "str"
  | .list _ => "list"
  | .tuple _ => "tuple"
  | .dict _ => "dict"
theorem dq_ty {K : PySem.W.Frag} {D : Deck} {H : Hp} {v : V} {d : PyData} (h : DQ D H v d) : TyX K H v (.type (tyD d)) := by
  cases h with
  | non => exact .base .non
  | bl b => exact .base (.bl b)
  | int i => exact .base (.int i)
  | str x => exact .base (.str x)
  | lst _ e _ => exact .base (.lst e)
  | tup _ e _ => exact .base (.tup e)
  | emp _ e => exact .base (.dK e)
  | ent _ e => exact .base (.dK e)
def isStrD : PyData → Bool
  | .str _ => true
  | _ => false
def isTupD : PyData → Bool
  | .tuple _ => true
  | _ => false
theorem kit_str (d : PyData) : kitB (tyD d) "str" = some (isStrD d) := by
  cases d <;> (simp only [tyD, isStrD]; decide +kernel)
theorem kit_tup (d : PyData) : kitB (tyD d) "tuple" = some (isTupD d) := by
  cases d <;> (simp only [tyD, isTupD]; decide +kernel)
theorem isStr_of {d : PyData} (h : isStrD d = true) : ∃ x, d = .str x := by
  cases d <;> first | exact ⟨_, rfl⟩ | exact absurd h Bool.false_ne_true
theorem gds_app : ∀ {a b : List PyData}, gds (a ++ b) = (gds a && gds b)
  | [], b => by simp only [List.nil_append, gds, Bool.true_and]
  | d :: a, b => by
    have h := gds_app (a := a) (b := b)
    simp only [List.cons_append, gds, h, Bool.and_assoc]
/-! ### whole numbers among all values -/
def isI : PyData → Bool
  | .int _ => true
  | .bool _ => true
  | _ => false
def isBo : PyData → Bool
  | .bool _ => true
  | _ => false
def isW : PyData → Bool
  | .int _ => true
  | _ => false
theorem kit_int (d : PyData) : kitB (tyD d) "int" = some (isI d) := by
  cases d <;> (simp only [tyD, isI]; decide +kernel)
theorem kit_bo (d : PyData) : kitB (tyD d) "bool" = some (isBo d) := by
  cases d <;> (simp only [tyD, isBo]; decide +kernel)
def isIx (d : PyData) (lo hi : Int) : Bool := match d with
  | .int i => decide (lo ≤ i) && decide (i ≤ hi)
  | _ => false
theorem DQ.intI {D : Deck} {H : Hp} {v : V} {i : Int} (h : DQ D H v (.int i)) : v = .int i := by cases h; rfl
def spWholeQ : Sp := fun vs H Q _ => ∃ (v : V) (D : Deck) (d : PyData), vs = [v] ∧ DQ D H v d ∧ Q (.bl (isW d)) H
def spIndexQ : Sp := fun vs H Q _ => ∃ (v : V) (D : Deck) (d : PyData) (m : Int), vs = [v, .int m] ∧ DQ D H v d ∧ Q (.bl (isIx d 0 (m - 1))) H
def spFrom : Sp := fun vs H Q _ => ∃ (v : V) (D : Deck) (d : PyData) (lo hi : Int), vs = [v, .int lo, .int hi] ∧ DQ D H v d ∧ Q (.bl (isIx d lo hi)) H
section
variable {P : Program} {w : World} {K : PySem.W.Frag} {mg : Str → Option Value} {base : Heap} {f : Addr} {fd : FuncData}
theorem ok_wholeQ {k : Nat} (F : Fun K "is_whole_number" "is_whole_number" s_is_whole_number f fd) (M : Mgs mg) : FnOk P w K mg base CX0 (k + 1) f fd ["value"] spWholeQ := by
  refine F.ok sc_is_whole_number (fun vs H Q E h => ?_) (fun cdv A outer s H vs Q E hr h => ?_)
  · obtain ⟨v, D, d, rfl, _⟩ := h
    rfl
  obtain ⟨v, D, d, rfl, hd, q⟩ := h
  refine ⟨_, (pss_one (ps_ret (pe_and (pe_callB call_isi rfl M.isinstance (by decide +kernel) (pa_cons (pv 0) (pa_cons (pe_bltn (v := .ty "int") rfl M.int (by decide +kernel) rfl) pa_nil))) (pe_one (pe_not (pe_callB call_isi rfl M.isinstance (by decide +kernel) (pa_cons (pv 0) (pa_cons (pe_bltn (v := .ty "bool") rfl M.bool (by decide +kernel) rfl) pa_nil)))))))), ?_⟩
  refine ⟨_, rfl, _, _, _, _, isI d, rfl, .ty _, dq_ty hd, kit_ty (kit_int d), _, rfl, ?_⟩
  cases hi : isI d with
  | false =>
    have : isW d = false := by cases d <;> first | rfl | cases hi
    rw [this] at q
    exact iteF q
  | true =>
    refine iteT ⟨_, rfl, _, _, _, _, isBo d, rfl, .ty _, dq_ty hd, kit_ty (kit_bo d), _, rfl, ?_⟩
    have : isW d = !isBo d := by cases d <;> first | rfl | cases hi
    rw [this] at q
    exact q
theorem ok_indexQ {k : Nat} (F : Fun K "is_index" "is_index" s_is_index f fd) (M : Mgs mg) (Dis_whole_number : Df P w K mg base (k + 1) "is_whole_number" ["value"] spWholeQ) : FnOk P w K mg base CX0 (k + 2) f fd ["value", "many"] spIndexQ := by
  refine F.ok (k := k + 1) sc_is_index (fun vs H Q E h => ?_) (fun cdv A outer s H vs Q E hr h => ?_)
  · obtain ⟨v, D, d, m, rfl, _⟩ := h
    rfl
  obtain ⟨v, D, d, m, rfl, hd, q⟩ := h
  refine ⟨_, (pss_one (ps_ret (pe_and (pe_call Dis_whole_number.ok (hr.mono (by omega)) rfl Dis_whole_number.g Dis_whole_number.kp Dis_whole_number.b .nil pass0 (pa_cons (pv 0) pa_nil)) (pe_one (pe_chain op_le op_lt pe_int (pv 0) (pv 1)))))), ?_⟩
  refine ⟨_, rfl, v, D, d, rfl, hd, _, rfl, ?_⟩
  cases d with
  | int i =>
    have := hd.intI
    subst this
    refine iteT ⟨_, rfl, _, _, rfl, rfl, _, rfl, ?_⟩
    have q : Q (.bl (decide (0 ≤ i) && decide (i ≤ m - 1))) H := q
    by_cases h0 : 0 ≤ i
    · rw [decide_eq_true h0] at q ⊢
      refine iteT ⟨_, rfl, _, _, rfl, rfl, ?_⟩
      show Q (V.bl (decide (i < m))) H
      rw [show decide (i < m) = decide (i ≤ m - 1) from decide_eq_decide.mpr (by omega)]
      exact q
    · rw [decide_eq_false h0] at q ⊢
      exact iteF q
  | _ => exact iteF q
theorem ok_lwhole {k : Nat} (F : Fun K "_law_whole" "_law_whole" s__law_whole f fd) (M : Mgs mg) : FnOk P w K mg base CX0 (k + 1) f fd ["_law_value", "_law_low", "_law_high"] spFrom := by
  refine F.ok sc__law_whole (fun vs H Q E h => ?_) (fun cdv A outer s H vs Q E hr h => ?_)
  · obtain ⟨v, D, d, lo, hi, rfl, _⟩ := h
    rfl
  obtain ⟨v, D, d, lo, hi, rfl, hd, q⟩ := h
  refine ⟨_, (pss_one (ps_ret (pe_and (pe_callB call_isi rfl M.isinstance (by decide +kernel) (pa_cons (pv 0) (pa_cons (pe_bltn (v := .ty "int") rfl M.int (by decide +kernel) rfl) pa_nil))) (pe_and (pe_not (pe_callB call_isi rfl M.isinstance (by decide +kernel) (pa_cons (pv 0) (pa_cons (pe_bltn (v := .ty "bool") rfl M.bool (by decide +kernel) rfl) pa_nil)))) (pe_one (pe_chain op_le op_le (pv 1) (pv 0) (pv 2))))))), ?_⟩
  refine ⟨_, rfl, _, _, _, _, isI d, rfl, .ty _, dq_ty hd, kit_ty (kit_int d), _, rfl, ?_⟩
  cases d with
  | bool b => exact iteT ⟨_, rfl, _, _, _, _, true, rfl, .ty _, dq_ty hd, kit_ty (kit_bo (.bool b)), _, rfl, _, rfl, iteF q⟩
  | int i =>
    have := hd.intI
    subst this
    refine iteT ⟨_, rfl, _, _, _, _, false, rfl, .ty _, dq_ty hd, kit_ty (kit_bo (.int i)), _, rfl, _, rfl, iteT ⟨_, rfl, _, rfl, _, _, rfl, rfl, _, rfl, ?_⟩⟩
    have q : Q (.bl (decide (lo ≤ i) && decide (i ≤ hi))) H := q
    by_cases h0 : lo ≤ i
    · rw [decide_eq_true h0] at q ⊢
      exact iteT ⟨_, rfl, _, _, rfl, rfl, q⟩
    · rw [decide_eq_false h0] at q ⊢
      exact iteF q
  | _ => exact iteF q
end
/-! ### own errors with one field, over ValueError or LookupError -/
section
open PySem.Builtin PySem.Builtin.ObjectAttr PySem.HandSPX
/-- own classes, then the mro of the built-in one -/
def refsT (tail : List Value) : List Value → Bool
  | .ref _ :: r => refsT tail r
  | l => l == tail
/-- a family of errors: what the library says of its built-in class -/
structure Fam (B newId initId : String) (tail : List Value) : Prop where
  facts : ExcBaseFacts B newId initId tail
  pass : ∀ self, refuseLoop self "__setattr__" tail = pure ()
  obj : tail.contains (.type "object") = true
theorem famV : Fam "ValueError" "ValueError.__new__" "ValueError.__init__" [.type "ValueError", .type "Exception", .type "BaseException", .type "object"] := ⟨F.excBase_ValueError, fun self => F.store_ValueError.passes self, by decide +kernel⟩
theorem famL : Fam "LookupError" "LookupError.__new__" "LookupError.__init__" [.type "LookupError", .type "Exception", .type "BaseException", .type "object"] := ⟨F.excBase_LookupError, fun self => F.store_LookupError.passes self, by decide +kernel⟩
theorem refsT_or {tail : List Value} (l : List Value) (h : refsT tail l = true) : (∃ c r, l = .ref c :: r ∧ refsT tail r = true) ∨ l = tail := by
  unfold refsT at h
  split at h
  · exact .inl ⟨_, _, rfl, h⟩
  · exact .inr (beq_iff_eq.mp h)
theorem refsT_all {tail : List Value} {Good : List Value → Prop} (h0 : Good tail) (hs : ∀ c r, Good r → Good (.ref c :: r)) : ∀ l : List Value, refsT tail l = true → Good l
  | [], h => by
    rcases refsT_or [] h with ⟨_, _, e, _⟩ | e
    · cases e
    · rw [e]; exact h0
  | a :: r, h => by
    rcases refsT_or (a :: r) h with ⟨c, r', e, h'⟩ | e
    · cases e
      exact hs c r (refsT_all h0 hs r h')
    · rw [e]; exact h0
variable {B newId initId : String} {tail : List Value}
theorem Fam.passes (fam : Fam B newId initId tail) (self : Value) (l : List Value) (h : refsT tail l = true) : refuseLoop self "__setattr__" l = pure () :=
  refsT_all (Good := fun l => refuseLoop self "__setattr__" l = pure ()) (fam.pass self) (fun c r e => by rw [refuseLoop_ref]; exact e) l h
theorem refsT_has (X : String) (l : List Value) (h : refsT tail l = true) : l.contains (.type X) = tail.contains (.type X) :=
  refsT_all (Good := fun l => l.contains (.type X) = tail.contains (.type X)) rfl (fun c r e => by rw [List.contains_cons, e]; rfl) l h
theorem Fam.some (fam : Fam B newId initId tail) (l : List Value) (h : refsT tail l = true) : l.isEmpty = false := by
  cases l with
  | nil =>
    have e := refsT_has "object" [] h
    rw [fam.obj] at e
    exact absurd e (by decide)
  | cons _ _ => rfl
/-- the first field of an error -/
theorem first_field {prog : Program} {w : World} {A : Around} {R : Result → Shared → Prop} {hp : Heap} {g : Array GenState} {d : Drawn} {t : Nat} {os : OsState} {K : PySem.W.Frag} {name : Str} {tk : Tok} {v : Value} {x C : Addr} {fv : Array Value} {cd : ClassData}
    (fam : Fam B newId initId tail) (inK : K.In hp) (isX : hp.get? x = some { cls := .ref C, data := .fields fv }) (isC : PySem.W.clsIn K C = some cd)
    (isM : refsT tail cd.mro = true) (dict : cd.hasDict = true) (free : PySem.W.findIn K (.ref C) name = some none)
    (done : ∀ h' tk' dx, (∀ b o, b ≠ x → hp.get? b = some o → h'.get? b = some o) → hp.objs.size ≤ dx → dx ≠ x →
      h'.get? x = some { cls := .ref C, dict := some dx, data := .fields fv } → h'.Ns1 dx (fun y => if y = name then some v else none) → R (.ok (.ret .none)) ⟨h', g, d, tk', os⟩) :
    codeAny (model prog w) A (.call (.builtin "object.__setattr__") ⟨[.ref x, .str name tk, v], []⟩) R ⟨hp, g, d, t, os⟩ := by
  have at0 : PySem.W.InstAt hp x { cls := .ref C, data := .fields fv } C none := ⟨isX, rfl, rfl, trivial⟩
  have store := PySem.F.store_object
  have hasObj : cd.mro.contains (.type "object") = true := (refsT_has "object" _ isM).trans fam.obj
  have notNew : x ≠ hp.objs.size := Nat.ne_of_lt (Heap.lt_size isX)
  have isSub : PySem.W.Looks (model prog w) hp (isInstance (.ref x) (.type "object")) true := by
    refine at0.type.andThen (PySem.W.looks_mroIn inK ?_)
    unfold PySem.W.mroIn
    rw [isC, Option.bind_some, if_neg (by rw [fam.some _ isM]; decide), hasObj]
  refine codeAny_call_builtin store.slot.plain store.entry ?_
  refine @PySem.W.check_slot (model prog w) _ _ ⟨hp, g, d, t, os⟩ "object.__setattr__" "object" "__setattr__" (.ref x) [.str name tk, v] [] _ store.kind store.split isSub
    (store.args (.ref x) (.str name tk) v) ?_
  have mroL : PySem.W.Looks (model prog w) hp (mroOf (.ref C)) cd.mro := (PySem.W.looks_clsIn inK isC).andThen .now
  have noTaker : PySem.W.Looks (model prog w) hp (storeTaker? none) none := .now
  have clsL : PySem.W.Looks (model prog w) hp (classData C) cd := PySem.W.looks_clsIn inK isC
  rw [PySem.W.osa_eq, refuse_eq]
  refine wpAny_bind (wpAny_bind (at0.type.at (wpAny_bind (mroL.at ?_))))
  rw [fam.passes _ _ isM]
  refine wpAny_pure (wpAny_bind (at0.type.at (wpAny_bind ((PySem.W.looks_findIn inK free).at ?_))))
  refine wpAny_bind (noTaker.at ?_)
  show wpAny _ _ (storeInOwnDict (.ref x) (.ref C) (.str name tk) name v false) _ _ _
  obtain ⟨nm, bs, mro, nsA, qn, hd, sn, sb, ab, col, del⟩ := cd
  dsimp only at dict
  subst dict
  unfold storeInOwnDict ownDictForStores
  repeat (first
    | with_reducible refine store_in_new ?_ ?_
    | with_reducible refine wpAny_loadPart_at isX ?_
    | with_reducible refine clsL.at ?_
    | wp_step)
  · refine ⟨_, #[], _, (Heap.get?_update_ne _ _ _ _ notNew.symm).trans (Heap.get?_push_at rfl rfl), rfl, ?_, fun _ => rfl⟩
    intro e he
    exact absurd he (by simp)
  · intro h' tk' ns1 same
    have isX1 : (hp.push { cls := .type "dict", data := .dict #[] }).get? x = some { cls := .ref C, data := .fields fv } := Heap.get?_push_of_some _ isX
    refine done h' tk' hp.objs.size ?_ (Nat.le_refl _) notNew.symm ?_ ns1
    · intro b o hb ho
      refine (same.2 b (Nat.ne_of_lt (Heap.lt_size ho))).trans ?_
      exact (Heap.get?_update_ne _ _ _ _ hb).trans (Heap.get?_push_of_some _ ho)
    · exact (same.2 x notNew).trans (Heap.get?_update_self _ isX1 rfl)
end
abbrev veT : List Value := [.type "ValueError", .type "Exception", .type "BaseException", .type "object"]
abbrev leT : List Value := [.type "LookupError", .type "Exception", .type "BaseException", .type "object"]
/-! ### errors with the field value -/
def iA_value (p1 p2 : Pos) : Arguments := { posonlyargs := [], args := [{ arg := "self", annotation := none, pos := p1 }, { arg := "value", annotation := none, pos := p2 }], vararg := none, kwonlyargs := [], kw_defaults := [], kwarg := none, defaults := [] }
def iB_value (q1 q2 q3 q4 : Pos) : List Stmt := [.Assign [.Attribute (.Name "self" q1) "value" q2] (.Name "value" q3) q4]
def iS_value : Scope := { kind := .function, names := [(PySem.Str.ofString "self", .local), (PySem.Str.ofString "value", .local)], isGenerator := false, isCoroutine := false, more := [] }
/-- what the written part says of the class cn, at C, and of its __init__, at fI -/
structure Err_value (K : PySem.W.Frag) (mg : Str → Option Value) (newId : String) (tail : List Value) (cn qn : Str) (C fI : Addr) : Prop where
  gC : mg cn = some (.ref C)
  nd : (cn == ("__debug__" : Str)) = false
  cls : ∃ nm q N bs bm sn sub ab col dd k0 k1 k2 k3 k5, K.lookup C = some (excClassObj nm q C N bs bm true sn sub ab col dd k0 k1 k2 k3 k5 newId) ∧ refsT tail bm = true
  sa : PySem.W.findIn K (.ref C) "__setattr__" = some (some (.builtin "object.__setattr__"))
  ga : PySem.W.findIn K (.ref C) "__getattribute__" = some (some (.builtin "BaseException.__getattribute__"))
  gg : PySem.W.findIn K (.ref C) "__getattr__" = some none
  noN : PySem.W.findIn K (.ref C) "value" = some none
  iC : PySem.W.findIn K (.ref C) "__init__" = some (some (.ref fI))
  tC : PySem.W.typeIn K (.ref fI) = some (.type "function")
  kC : PySem.W.keepIn K (.ref C) = true
  exC : PySem.W.subIn K (.ref C) (.type "BaseException") = some true
  tyC : PySem.W.typeIn K (.ref C) = some (.type "type")
  hdC : PySem.W.hasDictIn K C = true
  fn : ∃ (oc : Value) (od : Option Addr) (doc pm : Value) (an : Option Addr) (cdv ct : Value) (osl : Array (Option Value)) (p1 p2 q1 q2 q3 q4 : Pos),
    K.lookup fI = some ⟨oc, od, .func (PySem.W.fnOf "__init__" qn (iA_value p1 p2) (iB_value q1 q2 q3 q4) iS_value .none .none doc pm an cdv ct), osl⟩ ∧ PySem.W.codeIn K cdv qn = true
section
open PySem.Builtin PySem.Builtin.ObjectAttr PySem.HandSPX
variable {prog : Program} {w : World} {A : Around} {E : Value → Shared → Prop} {R : Result → Shared → Prop} {s : Shared} {K : PySem.W.Frag} {mg : Str → Option Value} {C fI : Addr} {B newId initId : String} {tail : List Value} {cn qn : Str}
theorem init_value (fam : Fam B newId initId tail) (T : Err_value K mg newId tail cn qn C fI) {x t0 : Addr} {v : Value} (inK : K.In s.heap) (lim : s.heap.NoLimit) (isX : s.heap.get? x = some (excO C t0)) (offK : K.lookup x = none) (room : A.depth < recursionLimit)
    (done : ∀ h' tk dx, (∀ b o, b ≠ x → s.heap.get? b = some o → h'.get? b = some o) → h'.get? x = some { cls := .ref C, dict := some dx, data := .fields #[.ref t0, .none, .none, .none, .bool false, .none] } → s.heap.objs.size ≤ dx → dx ≠ x →
      h'.Ns1 dx (fun y => if y = "value" then some v else none) → R (.ok (.ret .none)) { s with heap := h', toks := tk }) :
    codeAny (model prog w) A (.call (.ref fI) ⟨[.ref x, v], []⟩) R s := by
  obtain ⟨oc, od, doc, pm, an, cdv, ct, osl, p1, p2, q1, q2, q3, q4, isF, isCode⟩ := T.fn
  obtain ⟨nm, q, N, bs, bm, sn, sub, ab, col, dd, k0, k1, k2, k3, k5, isC, isM⟩ := T.cls
  have cls : PySem.W.clsIn K C = some { name := nm, bases := bs, mro := .ref C :: bm, ns := N, qualname := q, hasDict := true, slotNames := sn, subclasses := sub, abstract := ab, collection := col, hasDel := false } := by
    unfold PySem.W.clsIn
    rw [isC] <;> rfl
  refine Att.call_fn (binds := [("self", .ref x), ("value", v)]) inK lim isF isCode room (BindsTo.of_eq (by first | rfl | with_unfolding_all rfl)) (by first | rfl | decide | with_unfolding_all rfl) (fun s₁ IC => ?_) rfl rfl rfl
  obtain ⟨h₁, tk₁, rfl⟩ := IC.toInCall.same
  have keep : ∀ b o, s.heap.get? b = some o → h₁.get? b = some o := IC.toInCall.keep
  have locals := IC.toInCall.ns
  have inK₁ : K.In h₁ := inK.keeps keep
  have isX₁ := keep _ _ isX
  show wpAny _ _ (execs _ _) _ _ _
  refine wpAny_execs_cons (plainObj_wpAny_Assign_Attribute ?_)
  refine wpAny_Name (wpAny_loadName_local (by rfl) (by rfl) locals (v := v) (by first | rfl | with_unfolding_all rfl | kernel_rfl) ?_) (by decide)
  refine wpAny_Name (wpAny_loadName_local (by rfl) (by rfl) locals (v := .ref x) (by first | rfl | with_unfolding_all rfl | kernel_rfl) ?_) (by decide)
  refine PySem.W.set_plain inK₁ (ox := excO C t0) (od := none) ⟨isX₁, rfl, rfl, trivial⟩ T.sa ?_
  refine first_field fam inK₁ isX₁ cls (show refsT tail (.ref C :: bm) = true from isM) rfl T.noN (fun h₃ tk₃ dx k₃ dn dne hx₃ hn₃ => ?_)
  show wpAny _ _ (execs _ _) _ _ _
  have z : s.heap.objs.size < h₁.objs.size := locals.lt
  exact wpAny_execs_nil (done h₃ tk₃ dx (fun b o hb e => k₃ b o hb (keep b o e)) hx₃ (Nat.le_of_lt (Nat.lt_of_lt_of_le z dn)) dne hn₃)
/-- a made error -/
structure Made_value (h h' : Heap) (e C d : Addr) (v : Value) : Prop where
  keep : ∀ b o, h.get? b = some o → h'.get? b = some o
  new : h.objs.size ≤ e
  obj : ∃ oe vs, h'.get? e = some oe ∧ oe.cls = .ref C ∧ oe.dict = some d ∧ oe.data = .fields vs ∧ vs[1]? = some .none
  dbig : h.objs.size ≤ d
  dne : d ≠ e
  ns : h'.Ns1 d (fun y => if y = "value" then some v else none)
theorem made_value (fam : Fam B newId initId tail) (T : Err_value K mg newId tail cn qn C fI) {v : Value} (inK : K.In s.heap) (lim : s.heap.NoLimit) (room : A.depth + 1 < recursionLimit)
    (done : ∀ h' tk e d, Made_value s.heap h' e C d v → R (.ok (.ret (.ref e))) { s with heap := h', toks := tk }) :
    codeAny (model prog w) A (.call (.ref C) ⟨[v], []⟩) R s := by
  obtain ⟨nm, q, N, bs, bm, sn, sub, ab, col, dd, k0, k1, k2, k3, k5, isC, isM⟩ := T.cls
  obtain ⟨hp, g, dr, tk, os⟩ := s
  have keep : ∀ b o, hp.get? b = some o → ((hp.push (PySem.W.kdv_tup [v])).push (excO C hp.objs.size)).get? b = some o := fun b o e => Heap.get?_push_of_some _ (Heap.get?_push_of_some _ e)
  have isE : ((hp.push (PySem.W.kdv_tup [v])).push (excO C hp.objs.size)).get? (hp.objs.size + 1) = some (excO C hp.objs.size) := by heap_get
  have offK : K.lookup (hp.objs.size + 1) = none := by
    cases e : K.lookup (hp.objs.size + 1) with
    | none => rfl
    | some o => exact absurd (Nat.lt_of_succ_lt (Heap.lt_size (inK _ _ e))) (Nat.lt_irrefl _)
  refine call_own fam.facts (fun X => refsT_has X bm isM) (inK _ _ isC) (PySem.W.looks_findIn inK T.iC) (fun self => PySem.W.bind_fn inK self T.tC) (by show 1 ≤ sizeLine; decide) ?_
  refine init_value (s := ⟨(hp.push (PySem.W.kdv_tup [v])).push (excO C hp.objs.size), g, dr, tk, os⟩) fam T (inK.keeps keep) (lim.keeps keep) isE offK ?_ fun h' tk' dx k' hx dn dne hns => ?_
  · show A.depth + 1 < recursionLimit
    exact room
  · have old : ∀ b o, hp.get? b = some o → h'.get? b = some o := fun b o e => k' b o (Nat.ne_of_lt (Nat.lt_succ_of_lt (Heap.lt_size e))) (keep b o e)
    have z : hp.objs.size + 1 + 1 ≤ dx := by
      have y := dn
      rw [Heap.size_push, Heap.size_push] at y
      exact y
    exact ⟨rfl, done h' tk' (hp.objs.size + 1) dx ⟨old, Nat.le_succ _, ⟨_, _, hx, rfl, rfl, rfl, rfl⟩, (show hp.objs.size ≤ dx by omega), dne, hns⟩⟩
end
theorem rel_value {v : V} {u : Value} (r : RelV v u) (f : Str) : RelO (List.lookup f [(("value" : Str), v)]) (if f = "value" then some u else none) := by
  by_cases h : f = "value"
  · subst h
    rw [if_pos rfl, show List.lookup ("value" : Str) [(("value" : Str), v)] = some v by simp [List.lookup]]
    exact r
  · have e : (f == ("value" : Str)) = false := by simpa using h
    rw [if_neg h, show List.lookup f [(("value" : Str), v)] = none by simp [List.lookup, e]]
    trivial
section
variable {X : Cx} {C fI : Addr} {B newId initId : String} {tail : List Value} {cn qn : Str}
/-- cn(e) -/
def tMk_value (C : Addr) (ta : TA) : L2.St → Hp → XK → Prop := fun σ H Q => ta σ H fun vs H1 => ∃ v, vs = [v] ∧ ∀ d, H1 d = none → Q (.ref C) (some d) (upd H1 d (.xd [(("value" : Str), v)]))
theorem pmk_value {a : Expr} {ta : TA} {p pos : Pos} {k : Nat} (fam : Fam B newId initId tail) (T : Err_value X.K X.mg newId tail cn qn C fI) (hr : Room k X.A) (ha : PA X [a] ta) (hg : Gl X cn)
    (he : starEach (a :: []) X.env = (false, eval a X.env) :: starEach [] X.env := by rfl) (hpl : (backTo pos (starEach [] X.env)).any (·.1) = false := by rfl) :
    PMk X (.Call (.Name cn p) [a] [] pos) (tMk_value C ta) := by
  intro pins s σ H Q I h
  refine wpAny_Call_Name_kw (ld_glob I hg T.gC ?_ T.nd)
  refine PySem.W.callWith_K (h₀ := X.base) I.ok.mod.kin T.kC (thn (ha.run pos pins s σ H _ I h) ?_) he hpl
  rintro us s1 ⟨vs, H1, I1, r1, v, rfl, q1⟩
  refine ⟨I1.kIn, ?_⟩
  cases r1 with
  | @cons _ v' _ us' rv rn =>
    cases rn
    show wpAny _ _ (call (.ref C) [v']) _ _ _
    have lim := I1.nolimit
    obtain ⟨hp, g, dr, tk, os⟩ := s1
    refine wpAny_call (made_value fam T I1.kIn lim (by have := hr.dp; omega) fun h' tk' e d M => ?_)
    show MkP X pins σ Q (.ref e) ⟨h', g, dr, tk', os⟩
    obtain ⟨oe, fv, hoe, hc, hd, hdat, h1⟩ := M.obj
    obtain ⟨G', g1, g2⟩ := restrict h' fun b => decide (b ≠ e)
    have gk : ∀ b, b ≠ e → G'.get? b = h'.get? b := fun b hb => g1 b (decide_eq_true hb)
    have ge : G'.get? e = none := g2 e (by simp)
    have old : ∀ b o, hp.get? b = some o → G'.get? b = some o := by
      intro b o z
      refine (gk b (Nat.ne_of_lt (Nat.lt_of_lt_of_le (Heap.lt_size z) M.new))).trans ?_
      exact M.keep b o z
    have ok : ObjOk X.prog X.w (upd H1 d (.xd [(("value" : Str), v)])) G' d (.xd [(("value" : Str), v)]) :=
      ⟨_, M.ns.at (fun o z => (gk d M.dne).trans z), fun f => rel_value rv f⟩
    have J : Inv X pins σ (upd H1 d (.xd [(("value" : Str), v)])) ⟨G', g, dr, tk', os⟩ := I1.laid (t' := tk') old M.dbig ok
    refine ⟨e, oe, fv, ⟨G', g, dr, tk', os⟩, _, .ref C, some d, rfl, J, ?_, ge, hoe, ⟨hc, hd⟩, hdat, h1, ?_, rfl, I1.bare, raises_own T.exC T.tyC, q1 d (I1.hok.fresh M.dbig)⟩
    · intro b o z
      by_cases hb : b = e
      · have z' : G'.get? b = some o := z
        rw [hb, ge] at z'
        cases z'
      · exact (gk b hb).symm.trans z
    · rw [upd_ne (Ne.symm M.dne)]
      exact I1.hok.fresh M.new
/-- raise cn(e) -/
def tRaise_value (C : Addr) (W : WX) (ta : TA) : TS := fun _ σ H => tMk_value C ta σ H fun cls d H' => W cls d σ H'
theorem ps_raise_value {a : Expr} {ta : TA} {W : WX} {p pos pos2 : Pos} {k : Nat} (hc : X.calm = true) (fam : Fam B newId initId tail) (T : Err_value X.K X.mg newId tail cn qn C fI) (hr : Room k X.A) (tk : Takes X W) (ha : PA X [a] ta) (hg : Gl X cn)
    (he : starEach (a :: []) X.env = (false, eval a X.env) :: starEach [] X.env := by rfl) (hpl : (backTo pos (starEach [] X.env)).any (·.1) = false := by rfl) :
    PS X (.Raise (some (.Call (.Name cn p) [a] [] pos)) none pos2) (tRaise_value C W ta) := ps_raise hc tk (pmk_value fam T hr ha hg he hpl)
/-- err.value, err the error that the suite holds (at a; its class cls, its dict d) -/
def tFld_value (C : Addr) (a : Addr) (cls : Value) (d : Option Addr) (te : TE) : TE := fun σ H Q => te σ H fun x H1 => x = .ref a ∧ cls = .ref C ∧ ∃ (dd : Addr) (v : V), d = some dd ∧ H1 dd = some (.xd [(("value" : Str), v)]) ∧ Q v H1
theorem pe_fld_value {a : Addr} {oe : Obj} {cls : Value} {d : Option Addr} {pn : List (Addr × Obj)} {e : Expr} {te : TE} {pos : Pos} (T : Err_value X.K X.mg newId tail cn qn C fI) (hz : Zc cls d oe) (hf : ∃ vs, oe.data = .fields vs) (he : PE (X.suite a ((a, oe) :: pn)) e te)
    (hb : attributeBase e "value" X.env (eval e X.env) = eval e X.env := by rfl) :
    PE (X.suite a ((a, oe) :: pn)) (.Attribute e "value" pos) (tFld_value C a cls d te) := by
  constructor
  intro pins s σ H Q I h
  refine attr_of hb (thn (he.run pins s σ H _ I h) ?_)
  rintro u s1 ⟨x, H1, I1, rx, rfl, rfl, dd, v, rfl, ea, q⟩
  cases rx
  obtain ⟨ha, _⟩ := I1.pin (a, oe) (List.mem_append_left _ List.mem_cons_self)
  obtain ⟨vs, hd⟩ := hf
  have ok : ObjOk X.prog X.w H1 s1.heap dd (.xd [(("value" : Str), v)]) := I1.hok dd _ ea
  obtain ⟨mA, hns, hr⟩ := ok
  obtain ⟨od, ho, hl⟩ := lookIn_ns hns
  have look : List.lookup ("value" : Str) [(("value" : Str), v)] = some v := by simp [List.lookup]
  obtain ⟨u, hu, ru⟩ := RelO.some_of (v := v) (o := mA "value") (by rw [← look]; exact hr "value")
  have J : PySem.W.InstAt s1.heap a oe C (some od) := ⟨ha, hz.1, by unfold PySem.W.notCls; rw [hd] <;> rfl, by rw [hz.2]; exact ho⟩
  exact HandSPX.exc_get I1.kIn J T.ga T.gg T.exC (PySem.W.findObj_own T.hdC T.noN rfl (by rw [hl, hu])) (handed_of ru) ⟨v, H1, I1.tok _, ru, q⟩
end
/-! ### places and indexes that may be anything -/
/-- a def whose promise has errors -/
structure DfX (P : Program) (w : World) (K : PySem.W.Frag) (mg : Str → Option Value) (base : Heap) (k : Nat) (nm : Str) (ps : List Str) (sp : Sp) where
  f : Addr
  fd : FuncData
  ok : FnOk P w K mg base (L2.CX P w) k f fd ps sp
  b : Binds K fd ps []
  kp : PySem.W.keepIn K (.ref f) = true
  g : mg nm = some (.ref f)
/-- the error of class C that holds v -/
def ErTo (C : Addr) (H : Hp) (E : XK) (v : V) : Prop := ∀ (H' : Hp) (p : Addr), Same H H' → H' p = none → E (.ref C) (some p) (upd H' p (.xd [(("value" : Str), v)]))
def spWayAtX (C : Addr) : Sp := fun vs H Q E => ∃ (sp cp : Addr) (ds : List B) (zs : List Nat) (k : Kd) (X : B) (v : V) (D : Deck) (d : PyData), vs = [.ref sp, .ref cp, .str k.str, v] ∧ H cp = some (.lst (ds.map fun d => vn (d.cnt zs))) ∧ ds[ds.length - 1]? = some X ∧ DQ D H v d ∧ isIx d 0 ((X.cnt zs : Int) - 1) = false ∧ ErTo C H E v
def spLabInX (C : Addr) : Sp := fun vs H Q E => ∃ (p : Addr) (us : List V) (es : List En) (X : B) (k : Kd) (v : V) (D : Deck) (d : PyData), vs = [.ref p, .str k.str, v] ∧ H p = some (.tup us) ∧ EnAt H us es ∧ GoodN 12 es ∧ 1 ≤ es.length ∧ es.length ≤ 20 ∧ (fulls es)[es.length - 1]? = some X ∧ DQ D H v d ∧ isIx d 0 ((X.size : Int) - 1) = false ∧ ErTo C H E v
def spOtherX (C : Addr) : Sp := fun vs H Q E => ∃ (p : Addr) (us : List V) (es : List En) (X : B) (k k2 : Kd) (v : V) (D : Deck) (d : PyData), vs = [.ref p, .str k.str, v, .str k2.str] ∧ H p = some (.tup us) ∧ EnAt H us es ∧ GoodN 12 es ∧ 1 ≤ es.length ∧ es.length ≤ 20 ∧ (fulls es)[es.length - 1]? = some X ∧ DQ D H v d ∧ isIx d 0 ((X.size : Int) - 1) = false ∧ ErTo C H E v
def spNthX (C : Addr) : Sp := fun vs H Q E => ∃ (p : Addr) (us : List V) (es : List En) (X : B) (k : Kd) (c : Nat) (v : V) (D : Deck) (d : PyData), vs = [.ref p, .str k.str, .str (ch c), v] ∧ H p = some (.tup us) ∧ EnAt H us es ∧ GoodN 12 es ∧ 1 ≤ es.length ∧ es.length ≤ 20 ∧ (fulls es)[es.length - 1]? = some X ∧ DQ D H v d ∧ isIx d 0 ((X.cnt [c] : Int) - 1) = false ∧ ErTo C H E v
section
variable {P : Program} {w : World} {K : PySem.W.Frag} {mg : Str → Option Value} {base : Heap} {f : Addr} {fd : FuncData} {C fI : Addr} {qn : Str}
theorem ok_wayAtX (F : Fun K "way_at" "way_at" s_way_at f fd) (hE : Err_value K mg "LookupError.__new__" leT "NoPlace" qn C fI) (Dis_index : Df P w K mg base 2 "is_index" ["value", "many"] spIndexQ) : FnOk P w K mg base (L2.CX P w) 3 f fd ["spots", "sizes", "kind", "place"] (spWayAtX C) := by
  refine F.okX (k := 2) sc_way_at (fun vs H Q E h => ?_) (fun cdv A outer s H vs Q E hr h => ?_)
  · obtain ⟨sp, cp, ds, zs, k, X, v, D, d, rfl, _⟩ := h
    rfl
  obtain ⟨sp, cp, ds, zs, k, X, v, D, d, rfl, ec, eX, hd, hi, q⟩ := h
  refine ⟨_, (pss_cons (ps_if (pt_not (pt_val (pe_call Dis_index.ok (hr.mono (by omega)) rfl Dis_index.g Dis_index.kp Dis_index.b .nil pass0 (pa_cons (pv 3) (pa_cons (pe_ix ix_list (pv 1) (pe_un un_neg pe_int) (fun _ _ => rfl)) pa_nil)))))
      (pss_one (ps_raise_value rfl famL hE hr (takes_of rfl rfl rfl rfl) (pa_cons (pv 3) pa_nil) rfl)) pss_nil)
    (pss_one ps_never)), ?_⟩
  refine ⟨_, rfl, _, rfl, _, rfl, cp, _, _, _, rfl, rfl, SqL.of ec, at_last (v := vn (X.cnt zs)) (by rw [List.length_map, List.getElem?_map, eX]; rfl), ?_⟩
  refine ⟨v, D, d, _, rfl, hd, ?_⟩
  rw [hi]
  exact ⟨_, rfl, iteT ⟨_, rfl, _, rfl, fun p np => q H p (Same.refl H) np⟩⟩
theorem ok_labInX {tL : Tok} (F : Fun K "label_in" "label_in" s_label_in f fd) (mLET : mg "LETTERS" = some (.str "abcdefghijklmnopqrstuvwxyz" tL)) (Dspots_of : Df P w K mg base 31 "spots_of" ["nest"] (spSpots K)) (Dcounts_in : Df P w K mg base 1 "counts_in" ["spots", "letters"] spCounts)
    (Dlabel_on : Df P w K mg base 1 "label_on" ["spots", "way"] spLabOn) (Dway_at : DfX P w K mg base 3 "way_at" ["spots", "sizes", "kind", "place"] (spWayAtX C)) : FnOk P w K mg base (L2.CX P w) 32 f fd ["nest", "kind", "place"] (spLabInX C) := by
  refine F.okX (k := 31) sc_label_in (fun vs H Q E h => ?_) (fun cdv A outer s H vs Q E hr h => ?_)
  · obtain ⟨p, us, es, X, k, v, D, d, rfl, _⟩ := h
    rfl
  obtain ⟨p, us, es, X, k, v, D, d, rfl, ep, en, gn, e1, e20, eX, hd, hi, q⟩ := h
  obtain ⟨xsz, xlt⟩ := full_size gn e20 eX
  refine ⟨_, (pss_cons (ps_set (i := 3) sc_label_in.nd rfl (.inl rfl) (pe_call Dspots_of.ok (hr.mono (by omega)) rfl Dspots_of.g Dspots_of.kp Dspots_of.b .nil pass0 (pa_cons (pv 0) pa_nil)))
    (pss_cons (ps_set (i := 4) sc_label_in.nd rfl (.inl rfl) (pe_call Dcounts_in.ok (hr.mono (by omega)) rfl Dcounts_in.g Dcounts_in.kp Dcounts_in.b .nil pass0 (pa_cons (pv 3) (pa_cons (pe_glob (v := .str _) rfl mLET ⟨_, rfl⟩) pa_nil))))
    (pss_one (ps_ret (pe_call Dlabel_on.ok (hr.mono (by omega)) rfl Dlabel_on.g Dlabel_on.kp Dlabel_on.b .nil pass0 (pa_cons (pv 3) (pa_cons (pe_callS Dway_at.ok (hr.mono (by omega)) rfl Dway_at.g Dway_at.kp Dway_at.b (fun σ => passAt (takes_of rfl rfl rfl rfl) σ) (pa_cons (pv 3) (pa_cons (pv 4) (pa_cons (pv 1) (pa_cons (pv 2) pa_nil))))) pa_nil))))))), ?_⟩
  refine ⟨_, rfl, p, us, es, rfl, ep, en, gn, e1, e20, fun sp ss ds H1 s1 nsp es1 sa dl last => ?_⟩
  refine ⟨_, rfl, sp, ss, ds, alph, rfl, es1, sa, dl, fun p2 H2 s2 e2 => ?_⟩
  have hdl : ds[ds.length - 1]? = some X := last.trans eX
  have s12 := s1.trans s2
  exact ⟨_, rfl, _, rfl, _, rfl, _, rfl, _, rfl, sp, p2, ds, alph, k, X, v, D, d, rfl, e2, hdl, dq_same s12 hd, (by rw [cnt_alph xlt]; exact hi), fun H3 r s3 nr => q H3 r (s12.trans s3) nr⟩
theorem ok_otherX {tL : Tok} (F : Fun K "other_place" "other_place" s_other_place f fd) (mLET : mg "LETTERS" = some (.str "abcdefghijklmnopqrstuvwxyz" tL)) (Dspots_of : Df P w K mg base 31 "spots_of" ["nest"] (spSpots K)) (Dcounts_in : Df P w K mg base 1 "counts_in" ["spots", "letters"] spCounts)
    (Dplace_on : Df P w K mg base 2 "place_on" ["spots", "sizes", "kind", "way"] spPlaceOn) (Dway_at : DfX P w K mg base 3 "way_at" ["spots", "sizes", "kind", "place"] (spWayAtX C)) : FnOk P w K mg base (L2.CX P w) 32 f fd ["nest", "kind", "place", "other"] (spOtherX C) := by
  refine F.okX (k := 31) sc_other_place (fun vs H Q E h => ?_) (fun cdv A outer s H vs Q E hr h => ?_)
  · obtain ⟨p, us, es, X, k, k2, v, D, d, rfl, _⟩ := h
    rfl
  obtain ⟨p, us, es, X, k, k2, v, D, d, rfl, ep, en, gn, e1, e20, eX, hd, hi, q⟩ := h
  obtain ⟨xsz, xlt⟩ := full_size gn e20 eX
  refine ⟨_, (pss_cons (ps_set (i := 4) sc_other_place.nd rfl (.inl rfl) (pe_call Dspots_of.ok (hr.mono (by omega)) rfl Dspots_of.g Dspots_of.kp Dspots_of.b .nil pass0 (pa_cons (pv 0) pa_nil)))
    (pss_cons (ps_set (i := 5) sc_other_place.nd rfl (.inl rfl) (pe_call Dcounts_in.ok (hr.mono (by omega)) rfl Dcounts_in.g Dcounts_in.kp Dcounts_in.b .nil pass0 (pa_cons (pv 4) (pa_cons (pe_glob (v := .str _) rfl mLET ⟨_, rfl⟩) pa_nil))))
    (pss_one (ps_ret (pe_call Dplace_on.ok (hr.mono (by omega)) rfl Dplace_on.g Dplace_on.kp Dplace_on.b .nil pass0 (pa_cons (pv 4) (pa_cons (pv 5) (pa_cons (pv 3) (pa_cons (pe_callS Dway_at.ok (hr.mono (by omega)) rfl Dway_at.g Dway_at.kp Dway_at.b (fun σ => passAt (takes_of rfl rfl rfl rfl) σ) (pa_cons (pv 4) (pa_cons (pv 5) (pa_cons (pv 1) (pa_cons (pv 2) pa_nil))))) pa_nil))))))))), ?_⟩
  refine ⟨_, rfl, p, us, es, rfl, ep, en, gn, e1, e20, fun sp ss ds H1 s1 nsp es1 sa dl last => ?_⟩
  refine ⟨_, rfl, sp, ss, ds, alph, rfl, es1, sa, dl, fun p2 H2 s2 e2 => ?_⟩
  have hdl : ds[ds.length - 1]? = some X := last.trans eX
  have s12 := s1.trans s2
  exact ⟨_, rfl, _, rfl, _, rfl, _, rfl, _, rfl, _, rfl, _, rfl, sp, p2, ds, alph, k, X, v, D, d, rfl, e2, hdl, dq_same s12 hd, (by rw [cnt_alph xlt]; exact hi), fun H3 r s3 nr => q H3 r (s12.trans s3) nr⟩
theorem ok_nthX (F : Fun K "nth_label" "nth_label" s_nth_label f fd) (hE : Err_value K mg "LookupError.__new__" leT "NoIndex" qn C fI) (Dspots_of : Df P w K mg base 31 "spots_of" ["nest"] (spSpots K)) (Dcounts_in : Df P w K mg base 1 "counts_in" ["spots", "letters"] spCounts)
    (Dis_index : Df P w K mg base 2 "is_index" ["value", "many"] spIndexQ) : FnOk P w K mg base (L2.CX P w) 32 f fd ["nest", "kind", "label", "index"] (spNthX C) := by
  refine F.okX (k := 31) sc_nth_label (fun vs H Q E h => ?_) (fun cdv A outer s H vs Q E hr h => ?_)
  · obtain ⟨p, us, es, X, k, c, v, D, d, rfl, _⟩ := h
    rfl
  obtain ⟨p, us, es, X, k, c, v, D, d, rfl, ep, en, gn, e1, e20, eX, hd, hi, q⟩ := h
  refine ⟨_, (pss_cons (ps_set (i := 4) sc_nth_label.nd rfl (.inl rfl) (pe_call Dspots_of.ok (hr.mono (by omega)) rfl Dspots_of.g Dspots_of.kp Dspots_of.b .nil pass0 (pa_cons (pv 0) pa_nil)))
    (pss_cons (ps_set (i := 5) sc_nth_label.nd rfl (.inl rfl) (pe_call Dcounts_in.ok (hr.mono (by omega)) rfl Dcounts_in.g Dcounts_in.kp Dcounts_in.b .nil pass0 (pa_cons (pv 4) (pa_cons (pv 2) pa_nil))))
    (pss_cons (ps_if (pt_not (pt_val (pe_call Dis_index.ok (hr.mono (by omega)) rfl Dis_index.g Dis_index.kp Dis_index.b .nil pass0 (pa_cons (pv 3) (pa_cons (pe_ix ix_list (pv 5) (pe_un un_neg pe_int) (fun _ _ => rfl)) pa_nil)))))
      (pss_one (ps_raise_value rfl famL hE hr (takes_of rfl rfl rfl rfl) (pa_cons (pv 3) pa_nil) rfl)) pss_nil)
    (pss_one ps_never)))), ?_⟩
  refine ⟨_, rfl, p, us, es, rfl, ep, en, gn, e1, e20, fun sp ss ds H1 s1 nsp es1 sa dl last => ?_⟩
  refine ⟨_, rfl, _, rfl, sp, ss, ds, [c], rfl, es1, sa, dl, fun p2 H2 s2 e2 => ?_⟩
  have hdl : ds[ds.length - 1]? = some X := last.trans eX
  have s12 := s1.trans s2
  refine ⟨_, rfl, _, rfl, _, rfl, p2, _, _, _, rfl, rfl, SqL.of e2, at_last (v := vn (X.cnt [c])) (by rw [List.length_map, List.getElem?_map, hdl]; rfl), ?_⟩
  refine ⟨v, D, d, _, rfl, dq_same s12 hd, ?_⟩
  rw [hi]
  exact ⟨_, rfl, iteT ⟨_, rfl, _, rfl, fun r nr => q H2 r s12 nr⟩⟩
end
/-! ### isinstance of a caught error that has a dict; several clauses 'except x as n' -/
/-- isinstance(e, c), e the error of the suite: its class D, its dict d -/
def rIsD (K : PySem.W.Frag) (D a : Addr) (d : Option Addr) : List V → Hp → VK → Prop := fun xs H Q =>
  ∃ c u b dd fs, xs = [.ref a, c] ∧ ClsV c u ∧ d = some dd ∧ H dd = some (.xd fs) ∧ PySem.W.kitOne K (.ref D) u = some b ∧ Q (.bl b) H
def rIsDT (K : PySem.W.Frag) (D a : Addr) (d : Option Addr) : List V → Hp → VK → Prop := fun xs H Q =>
  ∃ tp cs us b dd fs, xs = [.ref a, .ref tp] ∧ H tp = some (.tup cs) ∧ Paired ClsV cs us ∧ d = some dd ∧ H dd = some (.xd fs) ∧ PySem.W.kitAny K (.ref D) us = some b ∧ Q (.bl b) H
section
variable {X : Cx} {a D : Addr} {d : Option Addr} {oe : Obj} {pn : List (Addr × Obj)}
theorem inst_of {pins : List (Addr × Obj)} {s : Shared} {σ : L2.St} {H : Hp} {dd : Addr} {fs : List (Str × V)} (hz : Zc (.ref D) (some dd) oe) (hf : ∃ vs, oe.data = .fields vs)
    (I : Inv (X.suite a ((a, oe) :: pn)) pins σ H s) (e : H dd = some (.xd fs)) : ∃ od, PySem.W.InstAt s.heap a oe D (some od) := by
  have here := (I.pin (a, oe) (List.mem_append_left _ List.mem_cons_self)).1
  have ok : ObjOk X.prog X.w H s.heap dd (.xd fs) := I.hok dd _ e
  obtain ⟨mA, ns, -⟩ := ok
  obtain ⟨od, ho, -⟩ := lookIn_ns ns
  refine ⟨od, here, hz.1, ?_, ?_⟩
  · obtain ⟨vs, hv⟩ := hf
    unfold PySem.W.notCls
    rw [hv] <;> rfl
  · rw [hz.2]; exact ho
theorem kit_exD {K : PySem.W.Frag} {od : Option Obj} (C : ExcC K D) : PySem.W.KitX K (.ref a) (.ref D) (fun h => PySem.W.InstAt h a oe D od) := by
  have known : (PySem.W.clsIn K D).isSome = true := by
    obtain ⟨cd, hc, _⟩ := PySem.W.any_some C.hd
    rw [hc] <;> rfl
  exact PySem.W.kitx_exc known C.hg C.hk C.hs C.ha C.hn C.ht C.hm
theorem call_isD (C : ExcC X.K D) (hz : Zc (.ref D) d oe) (hf : ∃ vs, oe.data = .fields vs) : CallR (X.suite a ((a, oe) :: pn)) (.builtin "isinstance") (rIsD X.K D a d) := by
  rintro pins s σ H _ us Q I r ⟨c, u, b, dd, fs, rfl, k, rfl, eH, e, q⟩
  obtain ⟨u1, u2, rfl, r1, r2⟩ := vals2 r
  cases k.eq r2
  cases (show u1 = Value.ref a from r1)
  obtain ⟨od, J⟩ := inst_of hz hf I eH
  refine PySem.W.kia_one (kit_exD C) I.kIn J e (by intro z; cases z) fun tk => ?_
  exact ⟨.bl b, H, I.tok tk, rfl, q⟩
theorem call_isDT (C : ExcC X.K D) (hz : Zc (.ref D) d oe) (hf : ∃ vs, oe.data = .fields vs) : CallR (X.suite a ((a, oe) :: pn)) (.builtin "isinstance") (rIsDT X.K D a d) := by
  rintro pins s σ H _ us Q I r ⟨tp, cs, ws, b, dd, fs, rfl, hT, k, rfl, eH, e, q⟩
  obtain ⟨u1, u2, rfl, r1, r2⟩ := vals2 r
  cases (show u2 = Value.ref tp from r2)
  cases (show u1 = Value.ref a from r1)
  obtain ⟨od, J⟩ := inst_of hz hf I eH
  have okT : ObjOk X.prog X.w H s.heap tp (.tup cs) := I.hok tp _ hT
  obtain ⟨-, its, rv, ⟨oc, od', dt, sl⟩, there, kind, n, data⟩ := okT
  dsimp only at kind data
  subst kind data
  cases ClsV.all k rv
  refine PySem.W.kia_tup (kit_exD C) I.kIn J there e (by intro z; cases z) fun tk => ?_
  exact ⟨.bl b, H, I.tok tk, rfl, q⟩
end
/-- an error of the body, landed in X: sI is the state without it, s the state with it -/
structure Down (X : Cx) (pins : List (Addr × Obj)) (σ : L2.St) (H : Hp) (cls : Value) (d : Option Addr) (a : Addr) (B : Heap) (sI s : Shared) : Prop where
  inv : Inv X pins σ H sI
  base : ∀ b o, sI.heap.get? b = some o → b ∉ frs X.stack → B.get? b = some o
  up : sI.heap.UpToSlots s.heap
  fly : HandSPX.FlyingZ B (X.env :: X.outer) a (Zc cls d) s.heap
  free : H a = none
  os : s.os = sI.os
  bare : AllBare s.gens
section
variable {X : Cx} {pins : List (Addr × Obj)} {σ : L2.St} {H : Hp} {cls : Value} {d : Option Addr} {a : Addr} {B : Heap} {sI s : Shared}
theorem Down.here (w : Down X pins σ H cls d a B sI s) : Inv X pins σ H s := w.inv.landed w.base w.fly.1 w.up w.os w.bare
theorem Down.moved (w : Down X pins σ H cls d a B sI s) {h' : Heap} (fl : HandSPX.FlyingZ B (X.env :: X.outer) a (Zc cls d) h') (up : s.heap.UpToSlots h') : Down X pins σ H cls d a B sI { s with heap := h' } :=
  { w with up := w.up.trans up, fly := fl }
theorem Down.apart (w : Down X pins σ H cls d a B sI s) : a ∉ (X.env :: X.outer).filterMap (·.frame) := by
  intro hm
  obtain ⟨oe, vs, he, -, hd⟩ := w.fly.there
  obtain ⟨-, o, e, no⟩ := w.fly.2.2.1.mem hm
  cases he.symm.trans e
  exact no vs hd
/-- the state, seen from the suite of a clause -/
theorem Down.suite (w : Down X pins σ H cls d a B sI s) (hf : X.env.frame = some X.env.locals) :
    ∃ oe, Zc cls d oe ∧ (∃ vs, oe.data = .fields vs) ∧ s.heap.get? a = some oe ∧ Inv (X.suite a ((a, oe) :: (X.pn ++ pins))) [] σ H s := by
  obtain ⟨oe, vs, he, hz, hd⟩ := w.fly.there
  have no := w.apart
  refine ⟨oe, hz, ⟨vs, hd⟩, he, w.here.suite he hd w.free ?_ ?_⟩
  · intro z
    subst z
    exact no (List.mem_filterMap.mpr ⟨X.env, .head _, hf⟩)
  · intro z
    obtain ⟨e, me, q⟩ := List.mem_filterMap.mp z
    exact no (List.mem_filterMap.mpr ⟨e, .tail _ me, q⟩)
/-- no clause is left: the error goes on -/
theorem Down.on {Wout : WX} {D : Ends} (w : Down X pins σ H cls d a B sI s) (hs : X.stack = X.env :: X.outer) (hf : X.env.frame = some X.env.locals) (tk : Takes X Wout) (q : Wout cls d σ H) :
    wpAny (model X.prog X.w) X.A (handleBy (.ref a) X.env []) (SP X pins D) X.xe s := by
  have go : wpAny (model X.prog X.w) X.A (setFlight (.ref a) X.env.frame) (fun _ s4 => wpAny (model X.prog X.w) X.A (throw (.ref a) : Sem Flow) (SP X pins D) X.xe s4) X.xe s := by
    rw [hf]
    refine HandSPX.setFlight_upZ w.fly fun h4 held up4 => wpAny_throw (tk _ _ ?_)
    refine ⟨a, B, sI, pins, σ, H, cls, d, rfl, w.inv, w.base, w.up.trans up4, .inr (.inr ?_), w.free, w.os, w.bare, q⟩
    rw [hs]
    exact held
  obtain ⟨-, -, -, oe, vs, T, -, -, he, -, hd, h1, -⟩ := id w.fly
  refine wpAny_handleBy_nil ?_
  unfold PySem.passOn
  refine wpAny_bind (wpAny_field he hd h1 ?_)
  have nn : ¬ (Value.ref T == Value.none) = true := by simp
  rw [if_neg nn]
  first
    | exact wpAny_bind go
    | exact wpAny_bind (wpAny_pure (wpAny_bind go))
/-- the first of the clauses: it is taken, or the next ones are asked -/
theorem Down.clause {D : Ends} {x n : Str} {c : Value} {i : Nat} {b₀ : Stmt} {body : List Stmt} {p p' : Pos} {rest : List ExceptHandler} {ts : Addr → Value → Option Addr → TS} {W : WX}
    (w : Down X pins σ H cls d a B sI s) (hf : X.env.frame = some X.env.locals) (hN : X.N.Nodup) (hi : X.N[i]? = some n) (hln : X.env.kindOf n = some .local) (hc : Names X x c)
    (hsu : ∀ (oe : Obj) (pn : List (Addr × Obj)), Zc cls d oe → (∃ vs, oe.data = .fields vs) → PSs (X.suite a ((a, oe) :: pn)) (b₀ :: body) (ts a cls d))
    (q : wAs X.K c i ts W D cls d σ H) (hr : W cls d σ H → wpAny (model X.prog X.w) X.A (handleBy (.ref a) X.env rest) (SP X pins D) X.xe s) :
    wpAny (model X.prog X.w) X.A (handleBy (.ref a) X.env (.ExceptHandler (some (.Name x p)) (some n) (b₀ :: body) p' :: rest)) (SP X pins D) X.xe s := by
  obtain ⟨b, is, yes, no⟩ := q
  obtain ⟨oe, hz, -, he, S⟩ := w.suite hf
  refine wpAny_handleBy_cons (codeAny_handlers_test ?_) (by intro z; cases z)
  have ty : PySem.W.Looks (model X.prog X.w) s.heap (typeOf (.ref a)) cls := by
    intro A Q E s' k q
    refine wpAny_typeOf_ref (k _ _ he) ?_
    rw [hz.1]
    exact q
  have match_ := PySem.W.exm_one (M := model X.prog X.w) w.here.kIn ty is
  have name_ : ∀ {Q E : Value → Shared → Prop}, Q c s → wpAny (model X.prog X.w) (X.A.mark (some (.ref a))) (eval (.Name x p) X.env) Q E s := by
    intro Q E q
    rcases hc with ⟨g, nd, m | ⟨m, v, nn⟩⟩
    · exact ld_glob (X := X.suite a _) S g m q nd
    · exact ld_blt (X := X.suite a _) S g m v q nn nd
  refine name_ (match_.here ?_)
  cases b with
  | false => exact hr (no rfl)
  | true =>
    refine codeAny_handlers_suite_as (HandSPX.lands_againZ w.fly fun h4 fl4 up4 => ?_)
    obtain ⟨oe4, hz4, hd4, -, S4⟩ := (w.moved fl4 up4).suite hf
    refine store_ok (X := X.suite a _) (v := .ref a) S4 hN hi (.inl hln) rfl (fun s5 S5 => ?_) (.inr hln)
    refine wpAny_mono ((hsu oe4 (X.pn ++ pins) hz4 hd4).run [] s5 _ H _ S5 (yes rfl a w.free)) (fun f s6 r => ?_) (by intro _ _ z; exact z.elim)
    have ok := w.inv.ok
    cases f with
    | ret u =>
      obtain ⟨v6, σ6, H6, S6, r6, q6⟩ := r
      exact gone_ok (S6.unsuite ok) hN hi hln fun s7 J7 => ⟨v6, _, _, J7, r6, q6⟩
    | next =>
      obtain ⟨σ6, H6, S6, q6⟩ := r
      exact gone_ok (S6.unsuite ok) hN hi hln fun s7 J7 => ⟨_, _, J7, q6⟩
    | brk =>
      obtain ⟨σ6, H6, S6, q6⟩ := r
      exact gone_ok (S6.unsuite ok) hN hi hln fun s7 J7 => ⟨_, _, J7, q6⟩
    | cont =>
      obtain ⟨σ6, H6, S6, q6⟩ := r
      exact gone_ok (S6.unsuite ok) hN hi hln fun s7 J7 => ⟨_, _, J7, q6⟩
theorem Down.new (w : Down X pins σ H cls d a B sI s) (hs : X.stack = X.env :: X.outer) : X.base.get? a = none := by
  cases e : X.base.get? a with
  | none => rfl
  | some o =>
    have no := w.apart
    have z := w.base a o (w.inv.bs a o e).1 (by rw [hs]; exact no)
    rw [w.fly.2.1] at z
    cases z
end
/-- clauses 'except x as n', n in slot i, with what each does and what the one behind the last wishes -/
inductive Clauses (X : Cx) (n : Str) (i : Nat) (Wout : WX) : List ExceptHandler → (Ends → WX) → Prop
  | nil : Clauses X n i Wout [] (fun _ => Wout)
  | cons {x : Str} {c : Value} {ts : Addr → Value → Option Addr → TS} {b₀ : Stmt} {body : List Stmt} {p p' : Pos} {rest : List ExceptHandler} {W : Ends → WX} (hc : Names X x c)
      (hsu : ∀ (a : Addr) (oe : Obj) (cls : Value) (d : Option Addr) (pn : List (Addr × Obj)), Zc cls d oe → (∃ vs, oe.data = .fields vs) → X.base.get? a = none → PSs (X.suite a ((a, oe) :: pn)) (b₀ :: body) (ts a cls d))
      (r : Clauses X n i Wout rest W) : Clauses X n i Wout (.ExceptHandler (some (.Name x p)) (some n) (b₀ :: body) p' :: rest) (fun D => wAs X.K c i ts (W D) D)
section
variable {X : Cx} {n : Str} {i : Nat} {Wout : WX}
theorem Clauses.run {hds : List ExceptHandler} {W : Ends → WX} (k : Clauses X n i Wout hds W) (hs : X.stack = X.env :: X.outer) (hf : X.env.frame = some X.env.locals) (hN : X.N.Nodup) (hi : X.N[i]? = some n) (hln : X.env.kindOf n = some .local) (tk : Takes X Wout)
    {pins : List (Addr × Obj)} {σ : L2.St} {H : Hp} {cls : Value} {d : Option Addr} {a : Addr} {B : Heap} {sI s : Shared} {D : Ends} (w : Down X pins σ H cls d a B sI s) (q : W D cls d σ H) :
    wpAny (model X.prog X.w) X.A (handleBy (.ref a) X.env hds) (SP X pins D) X.xe s := by
  induction k with
  | nil => exact w.on hs hf tk q
  | cons hc hsu r ih => exact w.clause hf hN hi hln hc (fun oe pn hz hf2 => hsu a oe cls d pn hz hf2 (w.new hs)) q ih
/-- try: body / except x1 as n: .. / except x2 as n: .. -/
theorem ps_tryA {body : List Stmt} {h₀ : ExceptHandler} {hds : List ExceptHandler} {pos : Pos} {tb : WX → TS} {W : Ends → WX} (hs : X.stack = X.env :: X.outer) (hf : X.env.frame = some X.env.locals) (hN : X.N.Nodup) (hi : X.N[i]? = some n) (hln : X.env.kindOf n = some .local)
    (tk : Takes X Wout) (hb : ∀ (W : WX) (pn : List (Addr × Obj)) (xe : Value → Shared → Prop), Takes (X.tr pn xe) W → PassesOwn (model X.prog X.w) X.A X.env xe → PSs (X.tr pn xe) body (tb W))
    (k : Clauses X n i Wout (h₀ :: hds) W) : PS X (.Try body (h₀ :: hds) [] [] pos) (fun D σ H => tb (W D) D σ H) := by
  constructor
  intro pins s σ H D I h
  have ok := I.ok
  let out : Value → Shared → Prop := fun e s₁ => wpAny (model X.prog X.w) X.A (noteFrame e X.env)
    (fun _ s₂ => wpAny (model X.prog X.w) X.A (setFlight e none) (fun _ s₃ => wpAny (model X.prog X.w) X.A (handleBy e X.env (h₀ :: hds)) (SP X pins D) X.xe s₃) X.xe s₂) X.xe s₁
  have tks : Takes (X.tr (X.pn ++ pins) out) (W D) := by
    rintro u s' ⟨a, B, sI, pins', σ', H', cls, d, rfl, J, nb, up, sky, na, os, ag, q⟩
    have fr : X.A.frames = some (X.env :: X.outer) := by rw [ok.frames, hs]
    have sky' := sky
    rw [show (X.tr (X.pn ++ pins) out).stack = X.env :: X.outer from hs] at sky'
    refine Sky.land (E₁ := X.xe) Zc.steady fr hf sky' fun h3 fl3 up3 => ?_
    exact k.run hs hf hN hi hln tk (sI := sI) (B := B) ⟨J.ofTry ok, nb, up.trans up3, fl3, na, os, ag⟩ q
  refine wpAny_Try_except (wpAny_mono ((hb (W D) (X.pn ++ pins) out tks PassesOwn.looking).run [] s σ H D (I.toTry _) h) ?_ fun _ _ he => he)
  · intro f s1 r
    cases f with
    | next =>
      obtain ⟨σ', H', J, q⟩ := r
      exact wpAny_execs_nil ⟨σ', H', J.ofTry ok, q⟩
    | ret u =>
      obtain ⟨v, σ', H', J, r', q⟩ := r
      exact ⟨v, σ', H', J.ofTry ok, r', q⟩
    | brk | cont =>
      obtain ⟨σ', H', J, q⟩ := r
      exact ⟨σ', H', J.ofTry ok, q⟩
end
/-! ### a caught error that is handed to a def -/
/-- the object at a, as it stands -/
def errO (a : Addr) (oe : Obj) : HO := .ext fun h => h.get? a = some oe
def off (H : Hp) (a : Addr) : Hp := fun b => if b = a then none else H b
theorem off_ne {H : Hp} {a b : Addr} (h : b ≠ a) : off H a b = H b := if_neg h
theorem off_same {H : Hp} {a : Addr} : off H a a = none := if_pos rfl
theorem off_upd {H : Hp} {a : Addr} {o : HO} (h : H a = none) : off (upd H a o) a = H := by
  funext b
  by_cases e : b = a
  · rw [e, off_same, h]
  · rw [off_ne e, upd_ne e]
theorem errO_at {P : Program} {w : World} {H : Hp} {h : Heap} {a : Addr} {oe : Obj} (x : HOk P w H h) (e : H a = some (errO a oe)) : h.get? a = some oe := (x a _ e).1
theorem errO_ok {P : Program} {w : World} {H : Hp} {h : Heap} {a : Addr} {oe : Obj} (e : h.get? a = some oe) : ObjOk P w H h a (errO a oe) := ⟨e, ⟨oe, e⟩, fun _ _ q k => k _ q⟩
section
variable {X : Cx} {pins : List (Addr × Obj)} {σ : L2.St} {H : Hp} {s : Shared} {a : Addr} {oe : Obj}
theorem env0_E (I : Inv X pins σ H s) (pn : (a, oe) ∈ X.pn) (nb : X.base.get? a = none) : Env0 X.prog X.w X.K X.mg X.base X.A X.stack s (upd H a (errO a oe)) := by
  obtain ⟨ha, hn, nL, nF, _⟩ := I.pin (a, oe) (List.mem_append_left _ pn)
  have e := I.env0
  refine ⟨e.frames, e.mod, fun b o h => ?_, e.bsz, e.funs, fun b hb => ?_, ?_, e.bare⟩
  · obtain ⟨h1, h2⟩ := e.bs b o h
    refine ⟨h1, ?_⟩
    rw [upd_ne (fun z => by rw [z, nb] at h; cases h)]
    exact h2
  · have hne : b ≠ a := fun z => by
      subst z
      rcases List.mem_cons.mp (I.stkSub b hb) with z | z
      · exact nL z
      · exact nF z
    rw [upd_ne hne]
    exact e.frf b hb
  · intro b u q
    by_cases hb : b = a
    · subst hb
      rw [upd_same] at q
      cases q
      exact errO_ok ha
    · rw [upd_ne hb] at q
      exact (I.hok b u q).stay (fun c v _ z => z) (fun c z => by rw [upd_ne (ne_of_none z hn)]; exact z) fun c xs z => by rw [upd_ne (ne_of_none z hn)]; exact z
theorem after_E {Q : VK} {u : Value} {s' : Shared} (I : Inv X pins σ H s) (pn : (a, oe) ∈ X.pn) (h : CE X.stack X.prog X.w (upd H a (errO a oe)) s (fun v H2 => H2 a = some (errO a oe) ∧ Q v (off H2 a)) u s') : EP X pins σ Q u s' := by
  obtain ⟨ha, hn, nL, nF, _⟩ := I.pin (a, oe) (List.mem_append_left _ pn)
  obtain ⟨v, H', os, bare, un, hok, r, e', q⟩ := h
  have ha' := errO_at hok e'
  refine I.after ⟨v, off H' a, os, bare, ⟨fun b o h1 h2 h3 h4 => ?_, fun b o h1 h2 h3 h4 => ?_, fun b o h1 h2 h3 => ?_, fun b o h1 h2 => ?_, fun b xs h1 => ?_, fun b o u h1 => ?_, fun b ps h1 => ?_⟩, fun b u q' => ?_, r, q⟩
  · by_cases hb : b = a
    · subst hb
      rw [ha] at h1
      rw [ha', h1]
    · exact un.keep b o h1 (by rw [upd_ne hb]; exact h2) h3 h4
  · have hb : b ≠ a := fun z => by
      subst z
      rcases List.mem_cons.mp (I.stkSub b h3) with z | z
      · exact nL z
      · exact nF z
    exact un.slot b o h1 (by rw [upd_ne hb]; exact h2) h3 h4
  · by_cases hb : b = a
    · rw [hb]
      exact off_same
    · rw [off_ne hb]
      exact un.free b o h1 (by rw [upd_ne hb]; exact h2) h3
  · exact un.there b o h1 h2
  · have hb := ne_of_none h1 hn
    rw [off_ne hb]
    exact un.tups b xs (by rw [upd_ne hb]; exact h1)
  · have hb := ne_of_none h1 hn
    rw [off_ne hb]
    exact un.frzs b o u (by rw [upd_ne hb]; exact h1)
  · have hb := ne_of_none h1 hn
    obtain ⟨m, z⟩ := un.tbls b ps (by rw [upd_ne hb]; exact h1)
    exact ⟨m, by rw [off_ne hb]; exact z⟩
  · have hb : b ≠ a := fun z => by rw [z, off_same] at q'; cases q'
    rw [off_ne hb] at q'
    refine (hok b u q').stay (fun c v _ z => z) (fun c z => ?_) fun c xs z => ?_
    · rw [off_ne (fun y => by rw [y, e'] at z; cases z)]
      exact z
    · rw [off_ne (fun y => by rw [y, e'] at z; cases z)]
      exact z
end
/-! ### defs called while an error is handled -/
structure RoomM (k : Nat) (A : Around) : Prop where
  dp : A.depth + 3 * k + 5 < recursionLimit
  un : A.units + 16 * k + 200 < cLine
theorem RoomM.mono {j k : Nat} {A : Around} (r : RoomM k A) (h : j ≤ k) : RoomM j A := ⟨by have := r.dp; omega, by have := r.un; omega⟩
theorem RoomM.deeper {k : Nat} {A : Around} (r : RoomM (k + 1) A) (env : Env) : RoomM k (A.deeper env) :=
  ⟨by have := r.dp; show A.depth + 1 + 3 * k + 5 < _; omega, by have := r.un; show A.units + 3 + 16 * k + 200 < _; omega⟩
theorem roomM_mark {k : Nat} {A : Around} {x : Option Value} (r : Room k A) : RoomM k (A.mark x) := ⟨r.dp, r.un⟩
structure FnM (P : Program) (w : World) (K : PySem.W.Frag) (mg : Str → Option Value) (base : Heap) (k : Nat) (f : Addr) (fd : FuncData) (ps : List Str) (sp : Sp) : Prop where
  len : ∀ vs H Q E, sp vs H Q E → vs.length = ps.length
  run : ∀ (A : Around) (outer : List Env) (s : Shared) (H : Hp) (args : Args) (us : List Value) (vs : List V) (Q : VK) (E : XK), RoomM k A → Env0 P w K mg base A outer s H → BindsTo s fd args (ps.zip us) → Vals vs us → sp vs H Q E →
    codeAny (model P w) A (.call (.ref f) args) (CR CX0 outer P w H s Q E) s
structure DfM (P : Program) (w : World) (K : PySem.W.Frag) (mg : Str → Option Value) (base : Heap) (k : Nat) (nm : Str) (ps : List Str) (sp : Sp) where
  f : Addr
  fd : FuncData
  ok : FnM P w K mg base k f fd ps sp
  b : Binds K fd ps []
  kp : PySem.W.keepIn K (.ref f) = true
  g : mg nm = some (.ref f)
/-- the context of such a def's body -/
def cxM (P : Program) (w : World) (K : PySem.W.Frag) (mg : Str → Option Value) (base : Heap) (N : List Str) (qual : Str) (scope : Scope) (f : Addr) (cd : Value) (A : Around) (outer : List Env) (s : Shared) (H : Hp) (E : XK) : Cx :=
  { cxOf CX0 P w K mg base N qual scope f cd A outer s H E with calm := false }
theorem inv_M {P : Program} {w : World} {K : PySem.W.Frag} {mg : Str → Option Value} {base : Heap} {N ps : List Str} {qual : Str} {scope : Scope} {f : Addr} {cd : Value} {A : Around} {outer : List Env} {s s1 : Shared} {H : Hp} {E : XK} {us : List Value} {vs : List V}
    (S : FnScope N ps scope) (e0 : Env0 P w K mg base A outer s H) (hl : vs.length = ps.length) (r : Vals vs us)
    (x : InCallC s s.heap.objs.size (bindL (envOfC qual scope s.heap.objs.size f cd).kindOf (ps.zip us) fun _ => none) (cellsFrom (s.heap.objs.size + 1) scope.names []) (bindC (envOfC qual scope s.heap.objs.size f cd).kindOf (ps.zip us) fun _ => none) s1) :
    Inv (cxM P w K mg base N qual scope f cd A outer s H E) [] (start N vs) H s1 := by
  have e1 : Env0 P w K mg base { A with handled := none } outer s H := ⟨e0.frames, e0.mod, e0.bs, e0.bsz, e0.funs, e0.frf, e0.hok, e0.bare⟩
  have I := inv_start (CX := CX0) (E := E) (cd := cd) (A := { A with handled := none }) S rfl e1 hl r x
  have o := I.ok
  exact ⟨⟨o.mod, o.kind, o.glob, o.blt, o.above, o.inj, o.has, o.cab, (fun z => Bool.noConfusion (show false = true from z)), Around.frames_deeper e0.frames, o.stk, o.exf, o.bs, o.bsz, o.noex, o.exfs, o.funs, o.frf⟩, I.os, I.bare, I.base, I.loc, I.cell, I.free, I.freeC, I.pin, I.hok, I.len⟩
theorem fnM {P : Program} {w : World} {K : PySem.W.Frag} {mg : Str → Option Value} {base : Heap} {f : Addr} {fd : FuncData} {N ps : List Str} {k : Nat} {x qual : Str} {st : Stmt} {sp : Sp} (F : Fun K x qual st f fd) (S : FnScope N ps (defScope st))
    (len : ∀ vs H Q E, sp vs H Q E → vs.length = ps.length)
    (body : ∀ (cdv : Value) (A : Around) (outer : List Env) (s : Shared) (H : Hp) (vs : List V) (Q : VK) (E : XK), RoomM k (A.deeper (envOfC qual (defScope st) s.heap.objs.size f cdv)) → sp vs H Q E →
      ∃ t, PSs (cxM P w K mg base N qual (defScope st) f cdv A outer s H E).nox (defBody st) t ∧ t { nx := fun _ H' => Q .non H', rt := Q } (start N vs) H) :
    FnM P w K mg base (k + 1) f fd ps sp := by
  refine ⟨len, ?_⟩
  intro A outer s H args us vs Q E room en bd rel hsp
  have hln := len _ _ _ _ hsp
  obtain ⟨oc, od, kV, doc, pm, an, cdv, ct, osl, rfl, look, code⟩ := F.ex
  have still : ∀ b o, base.get? b = some o → s.heap.get? b = some o := fun b o e => (en.bs b o e).1
  have inK : K.In s.heap := en.mod.kin.keeps still
  have noL : s.heap.NoLimit := en.mod.nolimit.keeps still
  have kinds : ∀ y ∈ ps.zip us, (defScope st).names.lookup y.1 = some .local ∨
      ((defScope st).names.lookup y.1 = some .cell ∧ ((cellsFrom (s.heap.objs.size + 1) (defScope st).names []).lookup y.1).isSome = true) := by
    rintro ⟨nm, u⟩ hy
    cases S.par nm (List.of_mem_zip hy).1 with
    | inl z => exact .inl z
    | inr z => exact .inr ⟨z, PySem.W.cellsFrom_some _ _ _ (.inl z)⟩
  have dep : A.depth < recursionLimit := by have := room.dp; omega
  have step := codeAny_call_function (prog := P) (w := w) (A := A) (s := s) dep (inK _ _ look) rfl S.co S.gen rfl (PySem.W.codeRec_of inK code)
    (R := CR CX0 outer P w H s Q E) (args := args)
  refine step (bd _ _ _ _ ?_)
  refine wpAny_newFunctionEnv_cells S.kind kinds ?_
  intro env isEnv s1 inC
  subst isEnv
  refine ⟨noL.keeps inC.toInCall.keep, codeAny_func ?_⟩
  obtain ⟨t, ht, hq⟩ := body cdv A outer s H vs Q E (room.deeper _) hsp
  have J : Inv (cxM P w K mg base N qual (defScope st) f cdv A outer s H E) [] (start N vs) H s1 := inv_M S en hln rel inC
  refine wpAny_mono (ht.nox.run [] s1 (start N vs) H _ J hq) ?_ ?_
  · intro fl s' done
    cases fl with
    | ret u =>
      obtain ⟨v, σ', H', I', rv, qv⟩ := done
      exact ⟨v, H', I'.os, I'.bare, I'.base, I'.hok, rv, qv⟩
    | next =>
      obtain ⟨σ', H', I', qv⟩ := done
      exact ⟨V.non, H', I'.os, I'.bare, I'.base, I'.hok, rfl, qv⟩
    | brk => exact done.elim fun _ z => z.elim fun _ z => z.2.elim
    | cont => exact done.elim fun _ z => z.elim fun _ z => z.2.elim
  · intro e s' z
    exact z
theorem pe_callM {X : Cx} {k : Nat} {f : Addr} {fd : FuncData} {ps : List Str} {sp : Sp} {x : Str} {p pos : Pos} {e : Expr} {es : List Expr} {t : TA}
    (G : FnM X.prog X.w X.K X.mg X.base k f fd ps sp) (room : RoomM k X.A) (isG : Gl X x) (at0 : X.mg x = some (.ref f)) (kp : PySem.W.keepIn X.K (.ref f) = true) (bd : Binds X.K fd ps []) (args : PA X (e :: es) t)
    (nd : (x == ("__debug__" : Str)) = false := by decide) (he : starEach (e :: es) X.env = (false, eval e X.env) :: starEach es X.env := by rfl) (hp : (backTo pos (starEach es X.env)).any (·.1) = false := by rfl) :
    PE X (.Call (.Name x p) (e :: es) [] pos) (tCall sp [] E0 t) := by
  constructor
  intro pins s σ H Q I h
  refine wpAny_Call_Name_kw (ld_glob I isG at0 ?_ nd)
  refine PySem.W.callWith_K (h₀ := X.base) I.ok.mod.kin kp (thn (args.run pos pins s σ H _ I h) ?_) he hp
  rintro us s1 ⟨vs, H1, I1, rel, q⟩
  refine ⟨I1.kIn, ?_⟩
  have q' : sp vs H1 Q E0 := by
    rw [List.append_nil] at q
    exact q
  have hl : (us ++ []).length = ps.length := by
    rw [List.append_nil, ← rel.length]
    exact G.len _ _ _ _ q'
  have bd' := bd s1 us I1.kIn hl
  rw [List.append_nil] at bd'
  refine wpAny_call (codeAny_mono (G.run X.A X.stack s1 H1 ⟨us, []⟩ us vs Q E0 room I1.env0 bd' rel q') ?_)
  intro r s' done
  cases r with
  | error e => exact done.elim
  | ok fl =>
    cases fl with
    | ret u => exact I1.after done
    | next => exact done.elim
    | brk => exact done.elim
    | cont => exact done.elim
/-- .. whatever the object is exactly -/
def tCallC (sp : Sp) (a : Addr) (cls : Value) (d : Option Addr) (t : TA) : TE := fun σ H Q => t σ H fun vs H1 => vs = [.ref a] ∧ ∀ oe : Obj, Zc cls d oe → (∃ vs, oe.data = .fields vs) → sp [.ref a] (upd H1 a (errO a oe)) (fun v H2 => H2 a = some (errO a oe) ∧ Q v (off H2 a)) E0
theorem pe_callC {X : Cx} {k : Nat} {f : Addr} {fd : FuncData} {ps : List Str} {sp : Sp} {x : Str} {p pos : Pos} {e : Expr} {t : TA} {a : Addr} {oe : Obj} {cls : Value} {d : Option Addr} (pn : (a, oe) ∈ X.pn) (nb : X.base.get? a = none) (hz : Zc cls d oe) (hf : ∃ vs, oe.data = .fields vs)
    (F : FnM X.prog X.w X.K X.mg X.base k f fd ps sp) (room : RoomM k X.A) (isG : Gl X x) (at0 : X.mg x = some (.ref f)) (kp : PySem.W.keepIn X.K (.ref f) = true) (bd : Binds X.K fd ps []) (ha : PA X [e] t)
    (nd : (x == ("__debug__" : Str)) = false := by decide) (he : starEach (e :: []) X.env = (false, eval e X.env) :: starEach [] X.env := by rfl) (hp : (backTo pos (starEach [] X.env)).any (·.1) = false := by rfl) :
    PE X (.Call (.Name x p) [e] [] pos) (tCallC sp a cls d t) := by
  constructor
  intro pins s σ H Q I h
  refine wpAny_Call_Name_kw (ld_glob I isG at0 ?_ nd)
  refine PySem.W.callWith_K (h₀ := X.base) I.ok.mod.kin kp (thn (ha.run pos pins s σ H _ I h) ?_) he hp
  rintro us s1 ⟨vs, H1, I1, rel, rfl, q0⟩
  have q := q0 oe hz hf
  refine ⟨I1.kIn, ?_⟩
  have hl : us.length = ps.length := by
    rw [← rel.length]
    exact F.len _ _ _ _ q
  have bd' := bd s1 us I1.kIn (by rw [List.append_nil]; exact hl)
  rw [List.append_nil] at bd'
  refine wpAny_call (codeAny_mono (F.run X.A X.stack s1 _ ⟨us, []⟩ us [.ref a] _ E0 room (env0_E I1 pn nb) bd' rel q) ?_)
  intro r s' done
  cases r with
  | error e => exact done.elim
  | ok fl =>
    cases fl with
    | ret u => exact after_E I1 pn done
    | next => exact done.elim
    | brk => exact done.elim
    | cont => exact done.elim
/-! ### what is asked of a caught error, in a def of its own -/
theorem inst_O {X : Cx} {pins : List (Addr × Obj)} {σ : L2.St} {H : Hp} {s : Shared} {a D : Addr} {oe : Obj} {d : Option Addr} (I : Inv X pins σ H s) (e : H a = some (errO a oe)) (hz : Zc (.ref D) d oe) (hf : ∃ vs, oe.data = .fields vs)
    (hd : d = none ∨ ∃ dd fs, d = some dd ∧ H dd = some (.xd fs)) : ∃ od, PySem.W.InstAt s.heap a oe D od := by
  have here := errO_at I.hok e
  obtain ⟨vs, hv⟩ := hf
  rcases hd with rfl | ⟨dd, fs, rfl, ed⟩
  · exact ⟨none, here, hz.1, by unfold PySem.W.notCls; rw [hv] <;> rfl, by rw [hz.2]; trivial⟩
  · have ok : ObjOk X.prog X.w H s.heap dd (.xd fs) := I.hok dd _ ed
    obtain ⟨mA, ns, -⟩ := ok
    obtain ⟨od, ho, -⟩ := lookIn_ns ns
    exact ⟨some od, here, hz.1, by unfold PySem.W.notCls; rw [hv] <;> rfl, by rw [hz.2]; exact ho⟩
def rIsO (K : PySem.W.Frag) : List V → Hp → VK → Prop := fun xs H Q => ∃ (a D : Addr) (oe : Obj) (d : Option Addr) (c : V) (u : Value) (b : Bool), xs = [.ref a, c] ∧ H a = some (errO a oe) ∧ Zc (.ref D) d oe ∧ (∃ vs, oe.data = .fields vs) ∧ (d = none ∨ ∃ dd fs, d = some dd ∧ H dd = some (.xd fs)) ∧ ExcC K D ∧ ClsV c u ∧ PySem.W.kitOne K (.ref D) u = some b ∧ Q (.bl b) H
theorem call_isO {X : Cx} : CallR X (.builtin "isinstance") (rIsO X.K) := by
  rintro pins s σ H _ us Q I r ⟨a, D, oe, d, c, u, b, rfl, eH, hz, hf, hd, C, k, e, q⟩
  obtain ⟨u1, u2, rfl, r1, r2⟩ := vals2 r
  cases k.eq r2
  cases (show u1 = Value.ref a from r1)
  obtain ⟨od, J⟩ := inst_O I eH hz hf hd
  refine PySem.W.kia_one (kit_exD C) I.kIn J e (by intro z; cases z) fun tk => ?_
  exact ⟨.bl b, H, I.tok tk, rfl, q⟩
/-- e.f, e an error -/
structure FldC (K : PySem.W.Frag) (C : Addr) (f : Str) : Prop where
  ga : PySem.W.findIn K (.ref C) "__getattribute__" = some (some (.builtin "BaseException.__getattribute__"))
  gg : PySem.W.findIn K (.ref C) "__getattr__" = some none
  exC : PySem.W.subIn K (.ref C) (.type "BaseException") = some true
  hdC : PySem.W.hasDictIn K C = true
  noN : PySem.W.findIn K (.ref C) f = some none
def tFldE (K : PySem.W.Frag) (f : Str) (te : TE) : TE := fun σ H Q => te σ H fun x H1 => ∃ (a C dd : Addr) (oe : Obj) (v : V), x = .ref a ∧ H1 a = some (errO a oe) ∧ Zc (.ref C) (some dd) oe ∧ (∃ vs, oe.data = .fields vs) ∧ H1 dd = some (.xd [(f, v)]) ∧ FldC K C f ∧ Q v H1
theorem pe_fldE {X : Cx} {e : Expr} {te : TE} {f : Str} {pos : Pos} (he : PE X e te) (hb : attributeBase e f X.env (eval e X.env) = eval e X.env := by rfl) : PE X (.Attribute e f pos) (tFldE X.K f te) := by
  constructor
  intro pins s σ H Q I h
  refine attr_of hb (thn (he.run pins s σ H _ I h) ?_)
  rintro u s1 ⟨x, H1, I1, rx, a, C, dd, oe, v, rfl, eH, hz, hf, ea, T, q⟩
  cases rx
  have ha := errO_at I1.hok eH
  obtain ⟨vs, hd⟩ := hf
  have ok : ObjOk X.prog X.w H1 s1.heap dd (.xd [(f, v)]) := I1.hok dd _ ea
  obtain ⟨mA, hns, hr⟩ := ok
  obtain ⟨od, ho, hl⟩ := lookIn_ns hns
  have look : List.lookup f [(f, v)] = some v := by simp [List.lookup]
  obtain ⟨u, hu, ru⟩ := RelO.some_of (v := v) (o := mA f) (by rw [← look]; exact hr f)
  have J : PySem.W.InstAt s1.heap a oe C (some od) := ⟨ha, hz.1, by unfold PySem.W.notCls; rw [hd] <;> rfl, by rw [hz.2]; exact ho⟩
  exact HandSPX.exc_get I1.kIn J T.ga T.gg T.exC (PySem.W.findObj_own T.hdC T.noN rfl (by rw [hl, hu])) (handed_of ru) ⟨v, H1, I1.tok _, ru, q⟩
/-! ### _law_call, _law_is_alone, _law_told -/
/-- the nest es lies at p, X its last whole tree -/
def NsAt (H : Hp) (p : Addr) (es : List En) (X : B) : Prop := ∃ us : List V, H p = some (.tup us) ∧ EnAt H us es ∧ GoodN 12 es ∧ 1 ≤ es.length ∧ es.length ≤ 20 ∧ (fulls es)[es.length - 1]? = some X
theorem NsAt.keep {H H' : Hp} (k : KeepT H H') {p : Addr} {es : List En} {X : B} (h : NsAt H p es X) : NsAt H' p es X := by
  obtain ⟨us, h1, h2, h3⟩ := h
  exact ⟨us, k _ _ h1, h2.keep k, h3⟩
def mny (X : B) (c : Nat) (door : Nat) : Nat := if door = 2 then X.cnt [c] else X.size
def erC (cP cI : Addr) (door : Nat) : Addr := if door = 2 then cI else cP
def spCall (cP cI : Addr) : Sp := fun vs H Q E => ∃ (door : Nat) (p : Addr) (es : List En) (X : B) (c : Nat) (v : V) (D : Deck) (d : PyData), vs = [vn door, .ref p, v, .str (ch c)] ∧ door < 3 ∧ NsAt H p es X ∧ DQ D H v d ∧
  (isIx d 0 ((mny X c door : Int) - 1) = true → ∀ H', Same H H' → Q .non H') ∧ (isIx d 0 ((mny X c door : Int) - 1) = false → ErTo (erC cP cI door) H E v)
theorem isIx_int {d : PyData} {D : Deck} {H : Hp} {v : V} {m : Nat} (h : isIx d 0 ((m : Int) - 1) = true) (hd : DQ D H v d) : ∃ n : Nat, v = vn n ∧ n < m ∧ d = .int (n : Int) := by
  cases d with
  | int i =>
    have := hd.intI
    subst this
    have h : (decide (0 ≤ i) && decide (i ≤ (m : Int) - 1)) = true := h
    rw [Bool.and_eq_true, decide_eq_true_eq, decide_eq_true_eq] at h
    have e : i = ((i.toNat : Nat) : Int) := by omega
    exact ⟨i.toNat, by show V.int i = V.int _; rw [← e], by omega, by rw [← e]⟩
  | _ => exact absurd h Bool.false_ne_true
section
variable {P : Program} {w : World} {K : PySem.W.Frag} {mg : Str → Option Value} {base : Heap} {f : Addr} {fd : FuncData} {cP cI : Addr}
theorem ok_callL (F : Fun K "_law_call" "_law_call" s__law_call f fd) (Dlabel_in : Df P w K mg base 32 "label_in" ["nest", "kind", "place"] spLabIn) (Dother_place : Df P w K mg base 32 "other_place" ["nest", "kind", "place", "other"] spOther) (Dnth_label : Df P w K mg base 32 "nth_label" ["nest", "kind", "label", "index"] spNth)
    (DXlabel_in : DfX P w K mg base 32 "label_in" ["nest", "kind", "place"] (spLabInX cP)) (DXother_place : DfX P w K mg base 32 "other_place" ["nest", "kind", "place", "other"] (spOtherX cP)) (DXnth_label : DfX P w K mg base 32 "nth_label" ["nest", "kind", "label", "index"] (spNthX cI)) :
    FnOk P w K mg base (L2.CX P w) 33 f fd ["_law_door", "_law_nest_here", "_law_value", "_law_letter"] (spCall cP cI) := by
  refine F.okX (k := 32) sc__law_call (fun vs H Q E h => ?_) (fun cdv A outer s H vs Q E hr h => ?_)
  · obtain ⟨door, p, es, X, c, v, D, d, rfl, _⟩ := h
    rfl
  obtain ⟨door, p, es, X, c, v, D, d, rfl, h3, ⟨us, hp, en, gn, e1, e20, eX⟩, hd, q1, q2⟩ := h
  cases hi : isIx d 0 ((mny X c door : Int) - 1) with
  | true =>
    obtain ⟨n, rfl, hn, rfl⟩ := isIx_int hi hd
    have q := q1 hi
    refine ⟨_, (pss_one (ps_if (pt_cmpR op_eq (pv 0) pe_int (nomark _))
      (pss_one (ps_expr (pe_call Dlabel_in.ok (hr.mono (by omega)) rfl Dlabel_in.g Dlabel_in.kp Dlabel_in.b .nil pass0 (pa_cons (pv 1) (pa_cons pe_str (pa_cons (pv 2) pa_nil)))))) (pss_one (ps_if (pt_cmpR op_eq (pv 0) pe_int (nomark _))
      (pss_one (ps_expr (pe_call Dother_place.ok (hr.mono (by omega)) rfl Dother_place.g Dother_place.kp Dother_place.b .nil pass0 (pa_cons (pv 1) (pa_cons pe_str (pa_cons (pv 2) (pa_cons pe_str pa_nil))))))) (pss_one (ps_expr (pe_call Dnth_label.ok (hr.mono (by omega)) rfl Dnth_label.g Dnth_label.kp Dnth_label.b .nil pass0 (pa_cons (pv 1) (pa_cons pe_str (pa_cons (pv 3) (pa_cons (pv 2) pa_nil))))))))))), ?_⟩
    match door, h3 with
    | 0, _ =>
      have hn : n < X.size := hn
      have hl : n < (X.wk .between).length := by rw [← X.steps_wk .between [], List.length_map, X.steps_len]; exact hn
      refine ⟨_, rfl, rfl, _, rfl, ?_⟩
      refine iteI rfl ⟨_, rfl, _, rfl, p, us, es, X, .between, n, _, rfl, hp, en, gn, e1, e20, eX, List.getElem?_eq_getElem hl, fun H' s' => q H' s'⟩
    | 1, _ =>
      have hn : n < X.size := hn
      have hl : n < (X.steps .first []).length := by rw [X.steps_len]; exact hn
      obtain ⟨⟨W, c'⟩, hW⟩ : ∃ z, (X.steps .first [])[n]? = some z := ⟨_, List.getElem?_eq_getElem hl⟩
      refine ⟨_, rfl, rfl, _, rfl, ?_⟩
      refine iteJ (by decide) ⟨_, rfl, rfl, _, rfl, ?_⟩
      refine iteI rfl ⟨_, rfl, _, rfl, p, us, es, X, .first, .last, n, W, c', rfl, hp, en, gn, e1, e20, eX, hW, fun m H' s' _ => q H' s'⟩
    | 2, _ =>
      have hn : n < X.cnt [c] := hn
      have hl : n < (sel [c] (X.steps .last [])).length := by rw [sel_len]; exact hn
      obtain ⟨⟨W, c'⟩, hW⟩ : ∃ z, (sel [c] (X.steps .last []))[n]? = some z := ⟨_, List.getElem?_eq_getElem hl⟩
      have hc : c' = c := by
        have := (List.mem_filter.mp (List.mem_of_getElem? hW)).2
        have := of_decide_eq_true this
        exact List.mem_singleton.mp this
      subst hc
      refine ⟨_, rfl, rfl, _, rfl, ?_⟩
      refine iteJ (by decide) ⟨_, rfl, rfl, _, rfl, ?_⟩
      refine iteJ (by decide) ⟨_, rfl, _, rfl, _, rfl, p, us, es, X, .last, c', n, W, rfl, hp, en, gn, e1, e20, eX, hW, fun m H' s' _ => q H' s'⟩
  | false =>
    have q := q2 hi
    refine ⟨_, (pss_one (ps_if (pt_cmpR op_eq (pv 0) pe_int (nomark _))
      (pss_one (ps_expr (pe_callS DXlabel_in.ok (hr.mono (by omega)) rfl DXlabel_in.g DXlabel_in.kp DXlabel_in.b (fun σ => passAt (takes_of rfl rfl rfl rfl) σ) (pa_cons (pv 1) (pa_cons pe_str (pa_cons (pv 2) pa_nil)))))) (pss_one (ps_if (pt_cmpR op_eq (pv 0) pe_int (nomark _))
      (pss_one (ps_expr (pe_callS DXother_place.ok (hr.mono (by omega)) rfl DXother_place.g DXother_place.kp DXother_place.b (fun σ => passAt (takes_of rfl rfl rfl rfl) σ) (pa_cons (pv 1) (pa_cons pe_str (pa_cons (pv 2) (pa_cons pe_str pa_nil))))))) (pss_one (ps_expr (pe_callS DXnth_label.ok (hr.mono (by omega)) rfl DXnth_label.g DXnth_label.kp DXnth_label.b (fun σ => passAt (takes_of rfl rfl rfl rfl) σ) (pa_cons (pv 1) (pa_cons pe_str (pa_cons (pv 3) (pa_cons (pv 2) pa_nil))))))))))), ?_⟩
    match door, h3 with
    | 0, _ =>
      refine ⟨_, rfl, rfl, _, rfl, ?_⟩
      exact iteI rfl ⟨_, rfl, _, rfl, p, us, es, X, .between, v, D, d, rfl, hp, en, gn, e1, e20, eX, hd, hi, q⟩
    | 1, _ =>
      refine ⟨_, rfl, rfl, _, rfl, ?_⟩
      refine iteJ (by decide) ⟨_, rfl, rfl, _, rfl, ?_⟩
      exact iteI rfl ⟨_, rfl, _, rfl, p, us, es, X, .first, .last, v, D, d, rfl, hp, en, gn, e1, e20, eX, hd, hi, q⟩
    | 2, _ =>
      refine ⟨_, rfl, rfl, _, rfl, ?_⟩
      refine iteJ (by decide) ⟨_, rfl, rfl, _, rfl, ?_⟩
      exact iteJ (by decide) ⟨_, rfl, _, rfl, _, rfl, p, us, es, X, .last, c, v, D, d, rfl, hp, en, gn, e1, e20, eX, hd, hi, q⟩
end
/-! ### _law_is_alone, _law_told -/
def rIsOT (K : PySem.W.Frag) : List V → Hp → VK → Prop := fun xs H Q => ∃ (a D tp : Addr) (oe : Obj) (d : Option Addr) (cs : List V) (us : List Value) (b : Bool), xs = [.ref a, .ref tp] ∧ H a = some (errO a oe) ∧ Zc (.ref D) d oe ∧ (∃ vs, oe.data = .fields vs) ∧ (d = none ∨ ∃ dd fs, d = some dd ∧ H dd = some (.xd fs)) ∧ ExcC K D ∧ H tp = some (.tup cs) ∧ Paired ClsV cs us ∧ PySem.W.kitAny K (.ref D) us = some b ∧ Q (.bl b) H
theorem call_isOT {X : Cx} : CallR X (.builtin "isinstance") (rIsOT X.K) := by
  rintro pins s σ H _ us Q I r ⟨a, D, tp, oe, d, cs, ws, b, rfl, eH, hz, hf, hd, C, hT, k, e, q⟩
  obtain ⟨u1, u2, rfl, r1, r2⟩ := vals2 r
  cases (show u2 = Value.ref tp from r2)
  cases (show u1 = Value.ref a from r1)
  obtain ⟨od, J⟩ := inst_O I eH hz hf hd
  have okT : ObjOk X.prog X.w H s.heap tp (.tup cs) := I.hok tp _ hT
  obtain ⟨-, its, rv, ⟨oc, od', dt, sl⟩, there, kind, n, data⟩ := okT
  dsimp only at kind data
  subst kind data
  cases ClsV.all k rv
  refine PySem.W.kia_tup (kit_exD C) I.kIn J there e (by intro z; cases z) fun tk => ?_
  exact ⟨.bl b, H, I.tok tk, rfl, q⟩
structure ErrA (K : PySem.W.Frag) (mg : Str → Option Value) (cP cI c1 c2 c3 : Addr) : Prop where
  gP : mg "NoPlace" = some (.ref cP)
  gI : mg "NoIndex" = some (.ref cI)
  g1 : mg "NoPath" = some (.ref c1)
  g2 : mg "NoKind" = some (.ref c2)
  g3 : mg "NoVersion" = some (.ref c3)
  mL : mg "LookupError" = none
  mV : mg "ValueError" = none
  xP : ExcC K cP
  xI : ExcC K cI
  kPL : PySem.W.kitOne K (.ref cP) (.type "LookupError") = some true
  kIL : PySem.W.kitOne K (.ref cI) (.type "LookupError") = some true
  aP : PySem.W.kitAny K (.ref cP) [.type "ValueError", .ref c1, .ref c2, .ref c3] = some false
  aI : PySem.W.kitAny K (.ref cI) [.type "ValueError", .ref c1, .ref c2, .ref c3] = some false
  kPP : PySem.W.kitOne K (.ref cP) (.ref cP) = some true
  kPI : PySem.W.kitOne K (.ref cP) (.ref cI) = some false
  kIP : PySem.W.kitOne K (.ref cI) (.ref cP) = some false
  kII : PySem.W.kitOne K (.ref cI) (.ref cI) = some true
  eP : PySem.W.exmOne K (.ref cP) (.ref cP) = some true
  eIP : PySem.W.exmOne K (.ref cI) (.ref cP) = some false
  eI : PySem.W.exmOne K (.ref cI) (.ref cI) = some true
def spAlone (cP cI : Addr) : Sp := fun vs H Q _ => ∃ (a C dd : Addr) (oe : Obj) (fs : List (Str × V)), vs = [.ref a] ∧ H a = some (errO a oe) ∧ Zc (.ref C) (some dd) oe ∧ (∃ vs, oe.data = .fields vs) ∧ H dd = some (.xd fs) ∧ (C = cP ∨ C = cI) ∧ ∀ H', Same H H' → Q (.bl true) H'
def spTold : Sp := fun vs H Q _ => ∃ (door : Nat) (p : Addr) (es : List En) (X : B) (c : Nat) (v : V) (D : Deck) (d : PyData), vs = [vn door, .ref p, v, .str (ch c)] ∧ door < 3 ∧ NsAt H p es X ∧ DQ D H v d ∧
  ∀ (L : Addr) (H' : Hp), Same H H' → H L = none → H' L = some (.lst (if isIx d 0 ((mny X c door : Int) - 1) = true then [.str "returns"] else [.str (if door = 2 then "index" else "place"), v, .bl true])) → Q (.ref L) H'
section
variable {P : Program} {w : World} {K : PySem.W.Frag} {mg : Str → Option Value} {base : Heap} {f : Addr} {fd : FuncData} {cP cI c1 c2 c3 iP iI : Addr} {qP qI : Str}
theorem ok_alone (F : Fun K "_law_is_alone" "_law_is_alone" s__law_is_alone f fd) (M : Mgs mg) (EA : ErrA K mg cP cI c1 c2 c3) : FnM P w K mg base 1 f fd ["_law_error"] (spAlone cP cI) := by
  refine fnM F (k := 0) sc__law_is_alone (fun vs H Q E h => ?_) (fun cdv A outer s H vs Q E hr h => ?_)
  · obtain ⟨a, C, dd, oe, fs, rfl, _⟩ := h
    rfl
  obtain ⟨a, C, dd, oe, fs, rfl, ea, hz, hf, ed, hC, q⟩ := h
  refine ⟨_, (pss_cons (ps_if (PW.pt (pw_or (pt_not (pt_val (pe_callB call_isO rfl M.isinstance (by decide +kernel) (pa_cons (pv 0) (pa_cons (pe_bltn (v := .ty "LookupError") rfl EA.mL (by decide +kernel) rfl) pa_nil))))) (pw_or1 (pt_val (pe_callB call_isOT rfl M.isinstance (by decide +kernel) (pa_cons (pv 0) (pa_cons (pe_tup (pa_cons (pe_bltn (v := .ty "ValueError") rfl EA.mV (by decide +kernel) rfl) (pa_cons (pe_glob (v := .ref c1) rfl EA.g1 rfl) (pa_cons (pe_glob (v := .ref c2) rfl EA.g2 rfl) (pa_cons (pe_glob (v := .ref c3) rfl EA.g3 rfl) pa_nil))))) pa_nil)))))))
      (pss_one (ps_ret pe_bl)) pss_nil)
    (pss_one (ps_ret (pe_cmpR op_ne (pe_callB call_isO rfl M.isinstance (by decide +kernel) (pa_cons (pv 0) (pa_cons (pe_glob (v := .ref cP) rfl EA.gP rfl) pa_nil))) (pe_callB call_isO rfl M.isinstance (by decide +kernel) (pa_cons (pv 0) (pa_cons (pe_glob (v := .ref cI) rfl EA.gI rfl) pa_nil))) (nomark _))))), ?_⟩
  have pr : Paired ClsV [.ty "ValueError", .ref c1, .ref c2, .ref c3] [.type "ValueError", .ref c1, .ref c2, .ref c3] := .cons (.ty _) (.cons (.own _) (.cons (.own _) (.cons (.own _) .nil)))
  rcases hC with rfl | rfl
  · refine ⟨_, rfl, a, C, oe, some dd, _, _, true, rfl, ea, hz, hf, .inr ⟨dd, fs, rfl, ed⟩, EA.xP, .ty _, EA.kPL, _, rfl, iteF ?_⟩
    refine ⟨_, rfl, (by show 4 ≤ sizeLine; decide), fun tp np => ?_⟩
    have k1 := same_new np (.tup [.ty "ValueError", .ref c1, .ref c2, .ref c3])
    have ea1 := k1 _ _ ea
    have ed1 := k1 _ _ ed
    refine ⟨a, C, tp, oe, some dd, _, _, false, rfl, ea1, hz, hf, .inr ⟨dd, fs, rfl, ed1⟩, EA.xP, upd_same, pr, EA.aP, _, rfl, iteF ?_⟩
    refine ⟨_, rfl, a, C, oe, some dd, _, _, true, rfl, ea1, hz, hf, .inr ⟨dd, fs, rfl, ed1⟩, EA.xP, .own _, EA.kPP, ?_⟩
    refine ⟨_, rfl, a, C, oe, some dd, _, _, false, rfl, ea1, hz, hf, .inr ⟨dd, fs, rfl, ed1⟩, EA.xP, .own _, EA.kPI, rfl, ?_⟩
    exact q _ k1
  · refine ⟨_, rfl, a, C, oe, some dd, _, _, true, rfl, ea, hz, hf, .inr ⟨dd, fs, rfl, ed⟩, EA.xI, .ty _, EA.kIL, _, rfl, iteF ?_⟩
    refine ⟨_, rfl, (by show 4 ≤ sizeLine; decide), fun tp np => ?_⟩
    have k1 := same_new np (.tup [.ty "ValueError", .ref c1, .ref c2, .ref c3])
    have ea1 := k1 _ _ ea
    have ed1 := k1 _ _ ed
    refine ⟨a, C, tp, oe, some dd, _, _, false, rfl, ea1, hz, hf, .inr ⟨dd, fs, rfl, ed1⟩, EA.xI, upd_same, pr, EA.aI, _, rfl, iteF ?_⟩
    refine ⟨_, rfl, a, C, oe, some dd, _, _, false, rfl, ea1, hz, hf, .inr ⟨dd, fs, rfl, ed1⟩, EA.xI, .own _, EA.kIP, ?_⟩
    refine ⟨_, rfl, a, C, oe, some dd, _, _, true, rfl, ea1, hz, hf, .inr ⟨dd, fs, rfl, ed1⟩, EA.xI, .own _, EA.kII, rfl, ?_⟩
    exact q _ k1
end
/-! ### _law_told -/
theorem off_at {H : Hp} {a : Addr} {oe : Obj} {H2 : Hp} (na : H a = none) (s : Same (upd H a (errO a oe)) H2) : H2 a = some (errO a oe) ∧ Same H (off H2 a) := by
  refine ⟨s _ _ upd_same, fun b o e => ?_⟩
  have hb : b ≠ a := ne_of_none e na
  rw [off_ne hb]
  exact s _ _ (by rw [upd_ne hb]; exact e)
theorem none_of {Hs H : Hp} {a : Addr} (s : Same Hs H) (n : H a = none) : Hs a = none := by
  cases e : Hs a with
  | none => rfl
  | some o => rw [s _ _ e] at n; cases n
section
variable {P : Program} {w : World} {K : PySem.W.Frag} {mg : Str → Option Value} {base : Heap} {f : Addr} {fd : FuncData} {cP cI c1 c2 c3 iP iI : Addr} {qP qI : Str}
theorem ok_told (F : Fun K "_law_told" "_law_told" s__law_told f fd) (M : Mgs mg) (EA : ErrA K mg cP cI c1 c2 c3) (hP : Err_value K mg "LookupError.__new__" leT "NoPlace" qP cP iP) (hI : Err_value K mg "LookupError.__new__" leT "NoIndex" qI cI iI)
    (D_law_call : DfX P w K mg base 33 "_law_call" ["_law_door", "_law_nest_here", "_law_value", "_law_letter"] (spCall cP cI)) (D_law_is_alone : DfM P w K mg base 1 "_law_is_alone" ["_law_error"] (spAlone cP cI)) :
    FnOk P w K mg base CX0 34 f fd ["_law_door", "_law_nest_here", "_law_value", "_law_letter"] spTold := by
  refine F.ok (k := 33) sc__law_told (fun vs H Q E h => ?_) (fun cdv A0 outer s H vs Q E hr h => ?_)
  · obtain ⟨door, p, es, X, c, v, D, d, rfl, _⟩ := h
    rfl
  obtain ⟨door, p, es, X, c, v, D, d, rfl, h3, ns, hd, q⟩ := h
  refine ⟨_, (pss_cons (ps_tryA (i := 4) (n := "_law_error") (Wout := fun _ _ _ _ => False) rfl rfl sc__law_told.nd rfl rfl takes_none5
      (fun W pn xe tk _ => pss_one (ps_expr (pe_callS D_law_call.ok (hr.mono (by omega)) rfl D_law_call.g D_law_call.kp D_law_call.b (fun σ => passAt tk σ) (pa_cons (pv 0) (pa_cons (pv 1) (pa_cons (pv 2) (pa_cons (pv 3) pa_nil)))))))
      (.cons ⟨rfl, by decide, .inl EA.gP⟩ (fun a oe cls d pn hz hf nb => (pss_one (ps_ret (pe_lst (pa_cons pe_str (pa_cons (pe_fld_value hP hz hf (pv 4)) (pa_cons (pe_callC (k := 1) (List.mem_cons_self) nb hz hf D_law_is_alone.ok (roomM_mark (hr.mono (show 1 ≤ 33 by decide))) rfl D_law_is_alone.g D_law_is_alone.kp D_law_is_alone.b (pa_cons (pv 4) pa_nil)) pa_nil))))))) (.cons ⟨rfl, by decide, .inl EA.gI⟩ (fun a oe cls d pn hz hf nb => (pss_one (ps_ret (pe_lst (pa_cons pe_str (pa_cons (pe_fld_value hI hz hf (pv 4)) (pa_cons (pe_callC (k := 1) (List.mem_cons_self) nb hz hf D_law_is_alone.ok (roomM_mark (hr.mono (show 1 ≤ 33 by decide))) rfl D_law_is_alone.g D_law_is_alone.kp D_law_is_alone.b (pa_cons (pv 4) pa_nil)) pa_nil))))))) .nil)))
    (pss_one (ps_ret (pe_lst (pa_cons pe_str pa_nil))))), ?_⟩
  refine ⟨_, rfl, _, rfl, _, rfl, _, rfl, door, p, es, X, c, v, D, d, rfl, h3, ns, hd, fun hi H1 s1 => ?_, fun hi => ?_⟩
  · refine ⟨(by show 1 ≤ sizeLine; decide), fun L nL => ?_⟩
    have k1 := same_new nL (.lst [.str "returns"])
    exact q L _ (s1.trans k1) (none_of s1 nL) (by rw [if_pos hi]; exact upd_same)
  · have fin : ∀ (H2 : Hp) (L : Addr), Same H H2 → H2 L = none → Q (.ref L) (upd H2 L (.lst [.str (if door = 2 then "index" else "place"), v, .bl true])) := fun H2 L s2 nL => by
      have k1 := same_new nL (.lst [.str (if door = 2 then "index" else "place"), v, .bl true])
      refine q L _ (s2.trans k1) (none_of s2 nL) ?_
      have e : ¬ isIx d 0 ((mny X c door : Int) - 1) = true := by rw [hi]; exact Bool.false_ne_true
      rw [if_neg e]
      exact upd_same
    intro H1 pe s1 np
    have k0 := same_new np (.xd [(("value" : Str), v)])
    have ed : (upd H1 pe (.xd [(("value" : Str), v)])) pe = some (.xd [(("value" : Str), v)]) := upd_same
    have s2 := s1.trans k0
    generalize upd H1 pe (.xd [(("value" : Str), v)]) = H2 at k0 ed s2 ⊢
    by_cases h2 : door = 2
    · rw [if_pos h2] at fin
      have hc : erC cP cI door = cI := if_pos h2
      rw [hc]
      refine ⟨false, EA.eIP, (fun z => nomatch z), fun _ => ⟨true, EA.eI, fun _ a0 na => ?_, fun z => nomatch z⟩⟩
      refine ⟨_, rfl, rfl, rfl, pe, _, rfl, ed, ?_⟩
      refine ⟨_, rfl, rfl, fun oe hz hf => ?_⟩
      refine ⟨a0, cI, pe, oe, _, rfl, upd_same, hz, hf, (by rw [upd_ne (ne_of_none ed na)]; exact ed), .inr rfl, fun H3 s3 => ?_⟩
      obtain ⟨e3, so⟩ := off_at na s3
      exact ⟨e3, (by show 3 ≤ sizeLine; decide), fun L nL => fin _ L (s2.trans so) nL⟩
    · rw [if_neg h2] at fin
      have hc : erC cP cI door = cP := if_neg h2
      rw [hc]
      refine ⟨true, EA.eP, fun _ a0 na => ?_, fun z => nomatch z⟩
      refine ⟨_, rfl, rfl, rfl, pe, _, rfl, ed, ?_⟩
      refine ⟨_, rfl, rfl, fun oe hz hf => ?_⟩
      refine ⟨a0, cP, pe, oe, _, rfl, upd_same, hz, hf, (by rw [upd_ne (ne_of_none ed na)]; exact ed), .inl rfl, fun H3 s3 => ?_⟩
      obtain ⟨e3, so⟩ := off_at na s3
      exact ⟨e3, (by show 3 ≤ sizeLine; decide), fun L nL => fin _ L (s2.trans so) nL⟩
end
/-! ### _law_same, _law_odd -/
theorem dq_newT {D : Deck} {H : Hp} {n : Nat} (dk : DeckOk H D n) {p : Addr} (np : H p = none) {xs : List V} {ds : List PyData} (al : DQAll D H xs ds) : DQ D (upd H p (.tup xs)) (.ref p) (.tuple ds) := .tup (dk.new np) upd_same (dqAll_same (same_new np _) al)
theorem dq_newL {D : Deck} {H : Hp} {n : Nat} (dk : DeckOk H D n) {p : Addr} (np : H p = none) {xs : List V} {ds : List PyData} (al : DQAll D H xs ds) : DQ D (upd H p (.lst xs)) (.ref p) (.list ds) := .lst (dk.new np) upd_same (dqAll_same (same_new np _) al)
theorem dq_newE {D : Deck} {H : Hp} {n : Nat} (dk : DeckOk H D n) {p : Addr} (np : H p = none) : DQ D (upd H p (.dK [])) (.ref p) (.dict []) := .emp (dk.new np) upd_same
theorem dq_new1 {D : Deck} {H : Hp} {n : Nat} (dk : DeckOk H D n) {p : Addr} (np : H p = none) : DQ D (upd H p (.dK [(.inr "a", .int 1)])) (.ref p) (.dict [(.str "a", .int 1)]) := .ent (dk.new np) upd_same
def spSameQ : Sp := fun vs H Q _ => ∃ (u v : V) (D : Deck) (d : PyData), vs = [u, v] ∧ DQ D H u d ∧ DQ D H v d ∧ gd d = true ∧ wt d ≤ 1000000 ∧ d.depth ≤ 60 ∧ Q (.bl true) H
def odds : List PyData := [.none, .bool true, .bool false, .int 0, .int 1, .int (-1), .int 2, .int ((10 : Int) ^ Int.toNat 29), .str "", .str "l", .str "r", .str "lr", .str "a", .str "A", .str "first", .tuple [], .list [], .dict [], .tuple [.int 0], .list [.int 0],
  .tuple [.bool true], .tuple [.none, .str "a", .none], .tuple [.str "l", .int 0], .tuple [.dict []], .tuple [.list [.int 0]], .dict [(.str "a", .int 1)]]
theorem odds_ok : odds.all (fun d => gd d && decide (wt d ≤ 3000) && decide (d.depth ≤ 3)) = true := by decide +kernel
def spOdd : Sp := fun vs H Q _ => ∃ (D : Deck) (n : Nat), vs = [.ref D.dk] ∧ DeckOk H D n ∧ n ≤ 900000 ∧ ∀ (v : V) (d : PyData) (H' : Hp), DQ D H' v d → gd d = true → wt d ≤ 3000 → d.depth ≤ 3 → DeckOk H' D (n + 1) → SameD D H H' → Q v H'
section
variable {P : Program} {w : World} {K : PySem.W.Frag} {mg : Str → Option Value} {base : Heap} {f : Addr} {fd : FuncData}
theorem ok_sameQ {k : Nat} (F : Fun K "_law_same" "_law_same" s__law_same f fd) (M : Mgs mg) : FnOkG P w K mg base (k + 1) f fd ["_law_found", "_law_due"] spSameQ := by
  refine fnG F sc__law_same (fun vs H Q E h => ?_) (fun cdv A outer s H vs Q E gs hr h => ?_)
  · obtain ⟨u, v, D, d, rfl, _⟩ := h
    rfl
  obtain ⟨u, v, D, d, rfl, h1, h2, g, wl, dp, q⟩ := h
  refine ⟨_, (pss_one (ps_ret (pe_cmpR op_eq (pe_callB (call_reprQ gs hr.units) rfl M.repr (by decide +kernel) (pa_cons (pv 0) pa_nil)) (pe_callB (call_reprQ gs hr.units) rfl M.repr (by decide +kernel) (pa_cons (pv 1) pa_nil)) (nomark _)))), ?_⟩
  refine ⟨_, rfl, u, D, d, rfl, h1, g, wl, dp, _, rfl, v, D, d, rfl, h2, g, wl, dp, ?_⟩
  refine ⟨rfl, ?_⟩
  rw [decide_eq_true (rfl : V.str d.shown = V.str d.shown)]
  exact q
theorem ok_odd (F : Fun K "_law_odd" "_law_odd" s__law_odd f fd) (D_law_pick : Df P w K mg base 2 "_law_pick" ["_law_deck_here", "_law_items"] (spPick K)) : FnOk P w K mg base CX0 3 f fd ["_law_deck_here"] spOdd := by
  refine F.ok (k := 2) sc__law_odd (fun vs H Q E h => ?_) (fun cdv A outer s H vs Q E hr h => ?_)
  · obtain ⟨D, n, rfl, _⟩ := h
    rfl
  obtain ⟨D, n, rfl, dk, hn, q⟩ := h
  refine ⟨_, (pss_cons (ps_set (i := 1) sc__law_odd.nd rfl (.inl rfl) (pe_lst (pa_cons pe_non (pa_cons pe_bl (pa_cons pe_bl (pa_cons pe_int (pa_cons pe_int (pa_cons (pe_un un_neg pe_int) (pa_cons pe_int (pa_cons (pe_op op_pow pe_int pe_int) (pa_cons pe_str (pa_cons pe_str (pa_cons pe_str (pa_cons pe_str (pa_cons pe_str (pa_cons pe_str (pa_cons pe_str (pa_cons (pe_tup pa_nil) (pa_cons (pe_lst pa_nil) (pa_cons pe_dnewK (pa_cons (pe_tup (pa_cons pe_int pa_nil)) (pa_cons (pe_lst (pa_cons pe_int pa_nil)) pa_nil))))))))))))))))))))))
    (pss_one (ps_ret (pe_call D_law_pick.ok (hr.mono (by omega)) rfl D_law_pick.g D_law_pick.kp D_law_pick.b .nil pass0 (pa_cons (pv 0) (pa_cons (pe_op op_cat (pv 1) (pe_lst (pa_cons (pe_tup (pa_cons pe_bl pa_nil)) (pa_cons (pe_tup (pa_cons pe_non (pa_cons pe_str (pa_cons pe_non pa_nil)))) (pa_cons (pe_tup (pa_cons pe_str (pa_cons pe_int pa_nil))) (pa_cons (pe_tup (pa_cons pe_dnewK pa_nil)) (pa_cons (pe_tup (pa_cons (pe_lst (pa_cons pe_int pa_nil)) pa_nil)) (pa_cons (pe_disp (pps_cons pe_str pe_int pps_nil) rfl rfl (by simp) (by decide)) pa_nil)))))))) pa_nil)))))), ?_⟩
  have sm := Same.refl H
  refine ⟨1, rfl, ?_⟩
  refine ⟨_, _, rfl, rfl, ⟨by decide, by decide, by decide⟩, ?_⟩
  refine ⟨(by show 0 ≤ sizeLine; decide), fun p1 n1 => ?_⟩
  have q1 := same_new n1 (.tup [])
  have a1 := dq_newT (xs := []) (ds := []) dk n1 .nil
  have x1 := upd_same (H := H) (a := p1) (o := .tup [])
  have f1 := dk.new n1
  have dk := dk.same q1
  have sm := sm.trans q1
  clear q1 n1
  generalize upd H p1 (.tup []) = H1 at x1 dk sm a1 ⊢
  refine ⟨(by show 0 ≤ sizeLine; decide), fun p2 n2 => ?_⟩
  have q2 := same_new n2 (.lst [])
  have a2 := dq_newL (xs := []) (ds := []) dk n2 .nil
  have x2 := upd_same (H := H1) (a := p2) (o := .lst [])
  have f2 := dk.new n2
  have a1 := dq_same q2 a1
  have dk := dk.same q2
  have sm := sm.trans q2
  clear q2 n2
  generalize upd H1 p2 (.lst []) = H2 at x2 dk sm a2 a1 ⊢
  refine fun p3 n3 => ?_
  have q3 := same_new n3 (.dK [])
  have a3 := dq_newE dk n3
  have x3 := upd_same (H := H2) (a := p3) (o := .dK [])
  have f3 := dk.new n3
  have a1 := dq_same q3 a1
  have a2 := dq_same q3 a2
  have dk := dk.same q3
  have sm := sm.trans q3
  clear q3 n3
  generalize upd H2 p3 (.dK []) = H3 at x3 dk sm a3 a1 a2 ⊢
  refine ⟨(by show 1 ≤ sizeLine; decide), fun p4 n4 => ?_⟩
  have q4 := same_new n4 (.tup [.int 0])
  have a4 := dq_newT dk n4 (.cons (.int 0) .nil)
  have x4 := upd_same (H := H3) (a := p4) (o := .tup [.int 0])
  have f4 := dk.new n4
  have a1 := dq_same q4 a1
  have a2 := dq_same q4 a2
  have a3 := dq_same q4 a3
  have dk := dk.same q4
  have sm := sm.trans q4
  clear q4 n4
  generalize upd H3 p4 (.tup [.int 0]) = H4 at x4 dk sm a4 a1 a2 a3 ⊢
  refine ⟨(by show 1 ≤ sizeLine; decide), fun p5 n5 => ?_⟩
  have q5 := same_new n5 (.lst [.int 0])
  have a5 := dq_newL dk n5 (.cons (.int 0) .nil)
  have x5 := upd_same (H := H4) (a := p5) (o := .lst [.int 0])
  have f5 := dk.new n5
  have a1 := dq_same q5 a1
  have a2 := dq_same q5 a2
  have a3 := dq_same q5 a3
  have a4 := dq_same q5 a4
  have dk := dk.same q5
  have sm := sm.trans q5
  clear q5 n5
  generalize upd H4 p5 (.lst [.int 0]) = H5 at x5 dk sm a5 a1 a2 a3 a4 ⊢
  refine ⟨(by show 20 ≤ sizeLine; decide), fun p6 n6 => ?_⟩
  have q6 := same_new n6 (.lst [.non, .bl true, .bl false, .int 0, .int 1, .int (-1), .int 2, .int ((10 : Int) ^ Int.toNat 29), .str "", .str "l", .str "r", .str "lr", .str "a", .str "A", .str "first", .ref p1, .ref p2, .ref p3, .ref p4, .ref p5])
  have x6 := upd_same (H := H5) (a := p6) (o := .lst [.non, .bl true, .bl false, .int 0, .int 1, .int (-1), .int 2, .int ((10 : Int) ^ Int.toNat 29), .str "", .str "l", .str "r", .str "lr", .str "a", .str "A", .str "first", .ref p1, .ref p2, .ref p3, .ref p4, .ref p5])
  have f6 := dk.new n6
  have a1 := dq_same q6 a1
  have a2 := dq_same q6 a2
  have a3 := dq_same q6 a3
  have a4 := dq_same q6 a4
  have a5 := dq_same q6 a5
  have dk := dk.same q6
  have sm := sm.trans q6
  clear q6 n6
  generalize upd H5 p6 (.lst [.non, .bl true, .bl false, .int 0, .int 1, .int (-1), .int 2, .int ((10 : Int) ^ Int.toNat 29), .str "", .str "l", .str "r", .str "lr", .str "a", .str "A", .str "first", .ref p1, .ref p2, .ref p3, .ref p4, .ref p5]) = H6 at x6 dk sm a1 a2 a3 a4 a5 ⊢
  refine ⟨_, rfl, _, rfl, ?_⟩
  refine ⟨(by show 1 ≤ sizeLine; decide), fun p7 n7 => ?_⟩
  have q7 := same_new n7 (.tup [.bl true])
  have a7 := dq_newT dk n7 (.cons (.bl true) .nil)
  have x7 := upd_same (H := H6) (a := p7) (o := .tup [.bl true])
  have f7 := dk.new n7
  have a1 := dq_same q7 a1
  have a2 := dq_same q7 a2
  have a3 := dq_same q7 a3
  have a4 := dq_same q7 a4
  have a5 := dq_same q7 a5
  have x6 := q7 _ _ x6
  have dk := dk.same q7
  have sm := sm.trans q7
  clear q7 n7
  generalize upd H6 p7 (.tup [.bl true]) = H7 at x7 dk sm a7 a1 a2 a3 a4 a5 x6 ⊢
  refine ⟨(by show 3 ≤ sizeLine; decide), fun p8 n8 => ?_⟩
  have q8 := same_new n8 (.tup [.non, .str "a", .non])
  have a8 := dq_newT dk n8 (.cons .non (.cons (.str "a") (.cons .non .nil)))
  have x8 := upd_same (H := H7) (a := p8) (o := .tup [.non, .str "a", .non])
  have f8 := dk.new n8
  have a1 := dq_same q8 a1
  have a2 := dq_same q8 a2
  have a3 := dq_same q8 a3
  have a4 := dq_same q8 a4
  have a5 := dq_same q8 a5
  have x6 := q8 _ _ x6
  have a7 := dq_same q8 a7
  have dk := dk.same q8
  have sm := sm.trans q8
  clear q8 n8
  generalize upd H7 p8 (.tup [.non, .str "a", .non]) = H8 at x8 dk sm a8 a1 a2 a3 a4 a5 x6 a7 ⊢
  refine ⟨(by show 2 ≤ sizeLine; decide), fun p9 n9 => ?_⟩
  have q9 := same_new n9 (.tup [.str "l", .int 0])
  have a9 := dq_newT dk n9 (.cons (.str "l") (.cons (.int 0) .nil))
  have x9 := upd_same (H := H8) (a := p9) (o := .tup [.str "l", .int 0])
  have f9 := dk.new n9
  have a1 := dq_same q9 a1
  have a2 := dq_same q9 a2
  have a3 := dq_same q9 a3
  have a4 := dq_same q9 a4
  have a5 := dq_same q9 a5
  have x6 := q9 _ _ x6
  have a7 := dq_same q9 a7
  have a8 := dq_same q9 a8
  have dk := dk.same q9
  have sm := sm.trans q9
  clear q9 n9
  generalize upd H8 p9 (.tup [.str "l", .int 0]) = H9 at x9 dk sm a9 a1 a2 a3 a4 a5 x6 a7 a8 ⊢
  refine fun p10 n10 => ?_
  have q10 := same_new n10 (.dK [])
  have a10 := dq_newE dk n10
  have x10 := upd_same (H := H9) (a := p10) (o := .dK [])
  have f10 := dk.new n10
  have a1 := dq_same q10 a1
  have a2 := dq_same q10 a2
  have a3 := dq_same q10 a3
  have a4 := dq_same q10 a4
  have a5 := dq_same q10 a5
  have x6 := q10 _ _ x6
  have a7 := dq_same q10 a7
  have a8 := dq_same q10 a8
  have a9 := dq_same q10 a9
  have dk := dk.same q10
  have sm := sm.trans q10
  clear q10 n10
  generalize upd H9 p10 (.dK []) = H10 at x10 dk sm a10 a1 a2 a3 a4 a5 x6 a7 a8 a9 ⊢
  refine ⟨(by show 1 ≤ sizeLine; decide), fun p11 n11 => ?_⟩
  have q11 := same_new n11 (.tup [.ref p10])
  have a11 := dq_newT dk n11 (.cons a10 .nil)
  have x11 := upd_same (H := H10) (a := p11) (o := .tup [.ref p10])
  have f11 := dk.new n11
  have a1 := dq_same q11 a1
  have a2 := dq_same q11 a2
  have a3 := dq_same q11 a3
  have a4 := dq_same q11 a4
  have a5 := dq_same q11 a5
  have x6 := q11 _ _ x6
  have a7 := dq_same q11 a7
  have a8 := dq_same q11 a8
  have a9 := dq_same q11 a9
  have a10 := dq_same q11 a10
  have dk := dk.same q11
  have sm := sm.trans q11
  clear q11 n11
  generalize upd H10 p11 (.tup [.ref p10]) = H11 at x11 dk sm a11 a1 a2 a3 a4 a5 x6 a7 a8 a9 a10 ⊢
  refine ⟨(by show 1 ≤ sizeLine; decide), fun p12 n12 => ?_⟩
  have q12 := same_new n12 (.lst [.int 0])
  have a12 := dq_newL dk n12 (.cons (.int 0) .nil)
  have x12 := upd_same (H := H11) (a := p12) (o := .lst [.int 0])
  have f12 := dk.new n12
  have a1 := dq_same q12 a1
  have a2 := dq_same q12 a2
  have a3 := dq_same q12 a3
  have a4 := dq_same q12 a4
  have a5 := dq_same q12 a5
  have x6 := q12 _ _ x6
  have a7 := dq_same q12 a7
  have a8 := dq_same q12 a8
  have a9 := dq_same q12 a9
  have a10 := dq_same q12 a10
  have a11 := dq_same q12 a11
  have dk := dk.same q12
  have sm := sm.trans q12
  clear q12 n12
  generalize upd H11 p12 (.lst [.int 0]) = H12 at x12 dk sm a12 a1 a2 a3 a4 a5 x6 a7 a8 a9 a10 a11 ⊢
  refine ⟨(by show 1 ≤ sizeLine; decide), fun p13 n13 => ?_⟩
  have q13 := same_new n13 (.tup [.ref p12])
  have a13 := dq_newT dk n13 (.cons a12 .nil)
  have x13 := upd_same (H := H12) (a := p13) (o := .tup [.ref p12])
  have f13 := dk.new n13
  have a1 := dq_same q13 a1
  have a2 := dq_same q13 a2
  have a3 := dq_same q13 a3
  have a4 := dq_same q13 a4
  have a5 := dq_same q13 a5
  have x6 := q13 _ _ x6
  have a7 := dq_same q13 a7
  have a8 := dq_same q13 a8
  have a9 := dq_same q13 a9
  have a10 := dq_same q13 a10
  have a11 := dq_same q13 a11
  have a12 := dq_same q13 a12
  have dk := dk.same q13
  have sm := sm.trans q13
  clear q13 n13
  generalize upd H12 p13 (.tup [.ref p12]) = H13 at x13 dk sm a13 a1 a2 a3 a4 a5 x6 a7 a8 a9 a10 a11 a12 ⊢
  refine fun p14 n14 => ?_
  refine ⟨upd_same, [(.inr "a", .int 1)], rfl, (by decide), ?_⟩
  have e14 : upd (upd H13 p14 (.dK [])) p14 (.dK (mergeK [] [(.inr "a", .int 1)])) = upd H13 p14 (.dK [(.inr "a", .int 1)]) := by
    funext b
    by_cases hb : b = p14
    · rw [hb, upd_same, upd_same]
      rfl
    · rw [upd_ne hb, upd_ne hb, upd_ne hb]
  rw [e14]
  have q14 := same_new n14 (.dK [(.inr "a", .int 1)])
  have a14 := dq_new1 dk n14
  have x14 := upd_same (H := H13) (a := p14) (o := .dK [(.inr "a", .int 1)])
  have f14 := dk.new n14
  have a1 := dq_same q14 a1
  have a2 := dq_same q14 a2
  have a3 := dq_same q14 a3
  have a4 := dq_same q14 a4
  have a5 := dq_same q14 a5
  have x6 := q14 _ _ x6
  have a7 := dq_same q14 a7
  have a8 := dq_same q14 a8
  have a9 := dq_same q14 a9
  have a10 := dq_same q14 a10
  have a11 := dq_same q14 a11
  have a12 := dq_same q14 a12
  have a13 := dq_same q14 a13
  have dk := dk.same q14
  have sm := sm.trans q14
  clear q14 n14
  generalize upd H13 p14 (.dK [(.inr "a", .int 1)]) = H14 at x14 dk sm a14 a1 a2 a3 a4 a5 x6 a7 a8 a9 a10 a11 a12 a13 ⊢
  refine ⟨(by show 6 ≤ sizeLine; decide), fun p15 n15 => ?_⟩
  have q15 := same_new n15 (.lst [.ref p7, .ref p8, .ref p9, .ref p11, .ref p13, .ref p14])
  have x15 := upd_same (H := H14) (a := p15) (o := .lst [.ref p7, .ref p8, .ref p9, .ref p11, .ref p13, .ref p14])
  have f15 := dk.new n15
  have a1 := dq_same q15 a1
  have a2 := dq_same q15 a2
  have a3 := dq_same q15 a3
  have a4 := dq_same q15 a4
  have a5 := dq_same q15 a5
  have x6 := q15 _ _ x6
  have a7 := dq_same q15 a7
  have a8 := dq_same q15 a8
  have a9 := dq_same q15 a9
  have a10 := dq_same q15 a10
  have a11 := dq_same q15 a11
  have a12 := dq_same q15 a12
  have a13 := dq_same q15 a13
  have a14 := dq_same q15 a14
  have dk := dk.same q15
  have sm := sm.trans q15
  clear q15 n15
  generalize upd H14 p15 (.lst [.ref p7, .ref p8, .ref p9, .ref p11, .ref p13, .ref p14]) = H15 at x15 dk sm a1 a2 a3 a4 a5 x6 a7 a8 a9 a10 a11 a12 a13 a14 ⊢
  refine ⟨p6, p15, _, _, rfl, rfl, x6, x15, (by show 26 ≤ sizeLine; decide), ?_⟩
  refine fun p16 n16 => ?_
  have q16 := same_new n16 (.lst ([.non, .bl true, .bl false, .int 0, .int 1, .int (-1), .int 2, .int ((10 : Int) ^ Int.toNat 29), .str "", .str "l", .str "r", .str "lr", .str "a", .str "A", .str "first", .ref p1, .ref p2, .ref p3, .ref p4, .ref p5] ++ [.ref p7, .ref p8, .ref p9, .ref p11, .ref p13, .ref p14]))
  have x16 := upd_same (H := H15) (a := p16) (o := .lst ([.non, .bl true, .bl false, .int 0, .int 1, .int (-1), .int 2, .int ((10 : Int) ^ Int.toNat 29), .str "", .str "l", .str "r", .str "lr", .str "a", .str "A", .str "first", .ref p1, .ref p2, .ref p3, .ref p4, .ref p5] ++ [.ref p7, .ref p8, .ref p9, .ref p11, .ref p13, .ref p14]))
  have f16 := dk.new n16
  have a1 := dq_same q16 a1
  have a2 := dq_same q16 a2
  have a3 := dq_same q16 a3
  have a4 := dq_same q16 a4
  have a5 := dq_same q16 a5
  have x6 := q16 _ _ x6
  have a7 := dq_same q16 a7
  have a8 := dq_same q16 a8
  have a9 := dq_same q16 a9
  have a10 := dq_same q16 a10
  have a11 := dq_same q16 a11
  have a12 := dq_same q16 a12
  have a13 := dq_same q16 a13
  have a14 := dq_same q16 a14
  have x15 := q16 _ _ x15
  have dk := dk.same q16
  have sm := sm.trans q16
  clear q16 n16
  generalize upd H15 p16 (.lst ([.non, .bl true, .bl false, .int 0, .int 1, .int (-1), .int 2, .int ((10 : Int) ^ Int.toNat 29), .str "", .str "l", .str "r", .str "lr", .str "a", .str "A", .str "first", .ref p1, .ref p2, .ref p3, .ref p4, .ref p5] ++ [.ref p7, .ref p8, .ref p9, .ref p11, .ref p13, .ref p14])) = H16 at x16 dk sm a1 a2 a3 a4 a5 x6 a7 a8 a9 a10 a11 a12 a13 a14 x15 ⊢
  have al : DQAll D H16 ([.non, .bl true, .bl false, .int 0, .int 1, .int (-1), .int 2, .int ((10 : Int) ^ Int.toNat 29), .str "", .str "l", .str "r", .str "lr", .str "a", .str "A", .str "first", .ref p1, .ref p2, .ref p3, .ref p4, .ref p5] ++ [.ref p7, .ref p8, .ref p9, .ref p11, .ref p13, .ref p14]) odds := .cons .non (.cons (.bl true) (.cons (.bl false) (.cons (.int 0) (.cons (.int 1) (.cons (.int (-1)) (.cons (.int 2) (.cons (.int _) (.cons (.str "") (.cons (.str "l") (.cons (.str "r") (.cons (.str "lr") (.cons (.str "a") (.cons (.str "A") (.cons (.str "first") (.cons a1 (.cons a2 (.cons a3 (.cons a4 (.cons a5 (.cons a7 (.cons a8 (.cons a9 (.cons a11 (.cons a13 (.cons a14 .nil)))))))))))))))))))))))))
  refine ⟨D, n, _, rfl, dk, by omega, .inr ⟨p16, _, rfl, x16, f16, (by simp), (by show 26 ≤ 60; decide), fun x H' hx dk' s' => ?_⟩⟩
  obtain ⟨i, hi⟩ := List.getElem?_of_mem hx
  obtain ⟨d, hd1, hd2⟩ := dqAll_get al hi
  have ok := List.all_eq_true.mp odds_ok d (List.mem_of_getElem? hd1)
  simp only [Bool.and_eq_true, decide_eq_true_eq] at ok
  exact q x d H' (dq_sameD s' hd2) ok.1.1 ok.1.2 ok.2 dk' ((SameD.of sm).trans s')
end
/-! ### the law -/
theorem seq_cut {t u : TS} {D : Ends} {σ : L2.St} {H : Hp} (I : L2.St → Hp → Prop) (h2 : ∀ σ' H', I σ' H' → u D σ' H') (h1 : (∀ σ' H', I σ' H' → u D σ' H') → t { D with nx := u D } σ H) : tSeq t u D σ H := h1 h2
theorem seq_cutN {t u : TS} {D : Ends} {r1 : VK} {r2 r3 : L2.St → Hp → Prop} {σ : L2.St} {H : Hp} (I : L2.St → Hp → Prop) (h2 : ∀ σ' H', I σ' H' → u D σ' H') (h1 : (∀ σ' H', I σ' H' → u D σ' H') → t { D with nx := u D } σ H) : (Ends.mk (tSeq t u D) r1 r2 r3).nx σ H := h1 h2
theorem ite2 {c : Bool} {A B : Prop} (h1 : c = true → A) (h2 : c = false → B) : if c = true then A else B := by
  cases c with
  | true => exact h1 rfl
  | false => exact h2 rfl
theorem gd_l (xs : List PyData) : gd (.list xs) = gds xs := by simp only [gd]
theorem gd_c (x : PyData) (xs : List PyData) : gds (x :: xs) = (gd x && gds xs) := by simp only [gds]
theorem gd_e : gds [] = true := by simp only [gds]
theorem gd_b (b : Bool) : gd (.bool b) = true := by simp only [gd]
theorem wt_l (xs : List PyData) : wt (.list xs) = 3 + wts xs := by simp only [wt]
theorem wt_c (x : PyData) (xs : List PyData) : wts (x :: xs) = wt x + 2 + wts xs := by simp only [wts]
theorem wt_e : wts [] = 0 := by simp only [wts]
theorem wt_s (x : Str) : wt (.str x) = 902 := by simp only [wt]
theorem wt_b (b : Bool) : wt (.bool b) = 5 := by simp only [wt]
theorem dp_l (xs : List PyData) : (PyData.list xs).depth = PyData.depthAll xs + 1 := by simp only [PyData.depth]
theorem dp_c (x : PyData) (xs : List PyData) : PyData.depthAll (x :: xs) = max x.depth (PyData.depthAll xs) := by simp only [PyData.depthAll]
theorem dp_e : PyData.depthAll [] = 0 := by simp only [PyData.depthAll]
theorem dp_s (x : Str) : (PyData.str x).depth = 0 := by simp only [PyData.depth]
theorem dp_b (b : Bool) : (PyData.bool b).depth = 0 := by simp only [PyData.depth]
def Okd (d : PyData) : Prop := gd d = true ∧ wt d ≤ 3000 ∧ d.depth ≤ 3
theorem okd_c {d : PyData} (h : (gd d && (decide (wt d ≤ 3000) && decide (d.depth ≤ 3))) = true) : Okd d := by
  rw [Bool.and_eq_true, Bool.and_eq_true, decide_eq_true_eq, decide_eq_true_eq] at h
  exact h
/-- what is told, as data -/
def eD (g : Bool) (w : Str) (d : PyData) : PyData := if g = true then .list [.str "returns"] else .list [.str w, d, .bool true]
/-- what is told, as values -/
def tV (X : B) (c : Nat) (d : PyData) (z : V) (door : Nat) : List V := if isIx d 0 ((mny X c door : Int) - 1) = true then [.str "returns"] else [.str (if door = 2 then "index" else "place"), z, .bl true]
theorem tV_dq {D : Deck} {H : Hp} {X : B} {c : Nat} {d : PyData} {z : V} {door : Nat} {t : Addr} (hd : DQ D H z d) (f : Off D t) (h : H t = some (.lst (tV X c d z door))) : DQ D H (.ref t) (eD (isIx d 0 ((mny X c door : Int) - 1)) (if door = 2 then "index" else "place") d) := by
  unfold tV at h
  unfold eD
  cases g : isIx d 0 ((mny X c door : Int) - 1) with
  | true =>
    rw [g, if_pos rfl] at h
    rw [if_pos rfl]
    exact .lst f h (.cons (.str _) .nil)
  | false =>
    rw [g, if_neg Bool.false_ne_true] at h
    rw [if_neg Bool.false_ne_true]
    exact .lst f h (.cons (.str _) (.cons hd (.cons (.bl _) .nil)))
theorem eD3 {d : PyData} (h1 : gd d = true) (h2 : wt d ≤ 3000) (h3 : d.depth ≤ 3) (g1 g2 g3 : Bool) : gd (.list [eD g1 "place" d, eD g2 "place" d, eD g3 "index" d]) = true ∧ wt (.list [eD g1 "place" d, eD g2 "place" d, eD g3 "index" d]) ≤ 1000000 ∧ (PyData.list [eD g1 "place" d, eD g2 "place" d, eD g3 "index" d]).depth ≤ 60 := by
  have k1 : gd (.str "returns") = true := by decide +kernel
  have k2 : gd (.str "place") = true := by decide +kernel
  have k3 : gd (.str "index") = true := by decide +kernel
  cases g1 <;> cases g2 <;> cases g3 <;> simp only [eD, if_true, if_false, Bool.false_eq_true, gd_l, gd_c, gd_e, gd_b, wt_l, wt_c, wt_e, wt_s, wt_b, dp_l, dp_c, dp_e, dp_s, dp_b, k1, k2, k3, h1, Bool.and_self, true_and] <;> omega
section
variable {P : Program} {w : World} {K : PySem.W.Frag} {mg : Str → Option Value} {base : Heap} {f : Addr} {fd : FuncData}
theorem run_law {s : Shared} {H : Hp} {a : Addr} {ns : List Int} (F : Fun K "law" "law" s_law f fd) (bd : BindsTo s fd ⟨[.ref a], []⟩ [("_law_script", .ref a)]) (en : Env0 P w K mg base callerA [] s H) (hS : SqL K H a (ns.map V.int))
    (M : Mgs mg) (D_law_deck : Df P w K mg base 1 "_law_deck" ["_law_script"] (spDeck K)) (D_law_small_nest : Df P w K mg base 43 "_law_small_nest" ["_law_deck_here", "_law_limit"] spSmall) (D_law_nest : Df P w K mg base 42 "_law_nest" ["_law_deck_here", "_law_entries", "_law_limit", "_law_few"] spNest)
    (D_law_sizes : Df P w K mg base 41 "_law_sizes" ["_law_nest_here"] spSizes) (Dcount_label : Df P w K mg base 32 "count_label" ["nest", "label"] (spLab K)) (D_law_odd : Df P w K mg base 3 "_law_odd" ["_law_deck_here"] spOdd) (D_law_draw : Df P w K mg base 1 "_law_draw" ["_law_deck_here", "_law_many"] spDraw)
    (D_law_whole : Df P w K mg base 1 "_law_whole" ["_law_value", "_law_low", "_law_high"] spFrom) (D_law_told : Df P w K mg base 34 "_law_told" ["_law_door", "_law_nest_here", "_law_value", "_law_letter"] spTold) (D_law_same : DfG P w K mg base 1 "_law_same" ["_law_found", "_law_due"] spSameQ) :
    codeAny (model P w) callerA (.call (.ref f) ⟨[.ref a], []⟩) (CR CX0 [] P w H s (fun v _ => v = .bl true) fun _ _ _ => False) s := by
  refine enter_def (k := 60) (vs := [.ref a]) (us := [.ref a]) F sc_law ⟨rfl, by decide, by decide⟩ en bd (.cons rfl .nil) rfl fun cdv hr => ?_
  refine ⟨_, (pss_cons (ps_set (i := 1) sc_law.nd rfl (.inl rfl) (pe_call D_law_deck.ok (hr.mono (by omega)) rfl D_law_deck.g D_law_deck.kp D_law_deck.b .nil pass0 (pa_cons (pv 0) pa_nil)))
    (pss_cons (ps_for PassesOwn.never rfl (pi_range1 rfl M.range (pa_cons pe_int pa_nil)) (pg_name (i := 2) sc_law.nd rfl (.inl rfl))
      (pss_cons (ps_set (i := 3) sc_law.nd rfl (.inr rfl) (pe_ix ix_list (pe_lst (pa_cons (pe_call D_law_small_nest.ok (hr.mono (by omega)) rfl D_law_small_nest.g D_law_small_nest.kp D_law_small_nest.b .nil pass0 (pa_cons (pv 1) (pa_cons pe_int pa_nil))) (pa_cons (pe_call D_law_nest.ok (hr.mono (by omega)) rfl D_law_nest.g D_law_nest.kp D_law_nest.b .nil pass0 (pa_cons (pv 1) (pa_cons pe_int (pa_cons pe_int (pa_cons pe_int pa_nil))))) pa_nil))) (pe_op op_mod (pv 2) pe_int) (fun _ _ => rfl)))
    (pss_cons (ps_par (i := 4) (j := 5) (by rfl) sc_law.nd rfl rfl (by decide) rfl rfl (pa_cons (pe_ix ix_list (pe_call D_law_sizes.ok (hr.mono (by omega)) rfl D_law_sizes.g D_law_sizes.kp D_law_sizes.b .nil pass0 (pa_cons (pv 3) pa_nil)) (pe_un un_neg pe_int) (fun _ _ => rfl)) (pa_cons (pe_callB (call_reprR rfl hr.units) rfl M.repr (by decide +kernel) (pa_cons (pv 3) pa_nil)) pa_nil)) (by rfl))
    (pss_cons (ps_for PassesOwn.never rfl (pi_list (pe_lst (pa_cons pe_str (pa_cons (pe_ix ix_tup (pe_ix ix_tup (pe_ix ix_tup (pv 3) (pe_un un_neg pe_int) (fun _ _ => rfl)) pe_int (fun _ _ => rfl)) pe_int (fun _ _ => rfl)) pa_nil)))) (pg_name (i := 6) sc_law.nd rfl (.inr rfl))
      (pss_cons (ps_set (i := 7) sc_law.nd rfl (.inl rfl) (pe_call Dcount_label.ok (hr.mono (by omega)) rfl Dcount_label.g Dcount_label.kp Dcount_label.b .nil pass0 (pa_cons (pv 3) (pa_cons (pv 6) pa_nil))))
    (pss_cons (ps_set (i := 8) sc_law.nd rfl (.inl rfl) (pe_lst (pa_cons pe_int (pa_cons (pe_op op_sub (pv 4) pe_int) (pa_cons (pv 4) (pa_cons (pe_op op_sub (pv 7) pe_int) (pa_cons (pv 7) (pa_cons (pe_un un_neg pe_int) (pa_cons pe_bl (pa_cons pe_bl (pa_cons pe_non (pa_cons pe_str (pa_cons (pe_tup (pa_cons pe_int pa_nil)) (pa_cons (pe_lst (pa_cons pe_int pa_nil)) (pa_cons pe_dnewK (pa_cons (pe_tup (pa_cons pe_dnewK pa_nil)) (pa_cons (pe_op op_pow pe_int pe_int) pa_nil)))))))))))))))))
    (pss_one (ps_for PassesOwn.never rfl (pi_list (pe_op op_cat (pv 8) (pe_lst (pa_cons (pe_call D_law_odd.ok (hr.mono (by omega)) rfl D_law_odd.g D_law_odd.kp D_law_odd.b .nil pass0 (pa_cons (pv 1) pa_nil)) (pa_cons (pe_call D_law_odd.ok (hr.mono (by omega)) rfl D_law_odd.g D_law_odd.kp D_law_odd.b .nil pass0 (pa_cons (pv 1) pa_nil)) (pa_cons (pe_call D_law_draw.ok (hr.mono (by omega)) rfl D_law_draw.g D_law_draw.kp D_law_draw.b .nil pass0 (pa_cons (pv 1) (pa_cons (pv 4) pa_nil))) pa_nil)))))) (pg_name (i := 9) sc_law.nd rfl (.inr rfl))
      (pss_cons (ps_set (i := 10) sc_law.nd rfl (.inl rfl) (pe_lst (pa_cons (pe_lst (pa_cons pe_str (pa_cons (pv 9) (pa_cons pe_bl pa_nil)))) (pa_cons (pe_lst (pa_cons pe_str (pa_cons (pv 9) (pa_cons pe_bl pa_nil)))) (pa_cons (pe_lst (pa_cons pe_str (pa_cons (pv 9) (pa_cons pe_bl pa_nil)))) pa_nil)))))
    (pss_cons (ps_if (pt_val (pe_call D_law_whole.ok (hr.mono (by omega)) rfl D_law_whole.g D_law_whole.kp D_law_whole.b .nil pass0 (pa_cons (pv 9) (pa_cons pe_int (pa_cons (pe_op op_sub (pv 4) pe_int) pa_nil)))))
      (pss_one (ps_set (i := 10) sc_law.nd rfl (.inl rfl) (pe_lst (pa_cons (pe_lst (pa_cons pe_str pa_nil)) (pa_cons (pe_lst (pa_cons pe_str pa_nil)) (pa_cons (pe_ix ix_list (pv 10) pe_int (fun _ _ => rfl)) pa_nil)))))) pss_nil)
    (pss_cons (ps_if (pt_val (pe_call D_law_whole.ok (hr.mono (by omega)) rfl D_law_whole.g D_law_whole.kp D_law_whole.b .nil pass0 (pa_cons (pv 9) (pa_cons pe_int (pa_cons (pe_op op_sub (pv 7) pe_int) pa_nil)))))
      (pss_one (ps_set (i := 10) sc_law.nd rfl (.inl rfl) (pe_op op_cat (pe_slice sl_list (pv 10) po_none (po_some pe_int)) (pe_lst (pa_cons (pe_lst (pa_cons pe_str pa_nil)) pa_nil))))) pss_nil)
    (pss_one (ps_if (pt_not (pt_val (pe_callG D_law_same.ok rfl (hr.mono (by omega)) rfl D_law_same.g D_law_same.kp D_law_same.b (pa_cons (pe_lc (own := [("_law_door", 11)]) (g := gName 11) (tt := tYes) rfl sc_law.nd (pi_range1 rfl M.range (pa_cons pe_int pa_nil)) (blkOk_by (N := ["_law_script", "_law_deck_here", "_law_turn", "_law_nest_here", "_law_size", "_law_kept", "_law_letter", "_law_many", "_law_values", "_law_value", "_law_due", "_law_door"]) (sc := defScope s_law) (by decide +kernel)) (fun _ _ _ _ _ => (pg_name (i := 11) sc_law.nd rfl (.inl rfl))) (fun _ _ _ _ _ => pts_nil) (fun _ _ _ _ _ => (pe_call D_law_told.ok (hr.mono (by omega)) rfl D_law_told.g D_law_told.kp D_law_told.b .nil pass0 (pa_cons (pv 11) (pa_cons (pv 3) (pa_cons (pv 9) (pa_cons (pv 6) pa_nil))))))) (pa_cons (pv 10) pa_nil)))))
      (pss_one (ps_ret pe_bl)) pss_nil))))))))))
    (pss_one (ps_if (pt_cmpR op_ne (pe_callB (call_reprR rfl hr.units) rfl M.repr (by decide +kernel) (pa_cons (pv 3) pa_nil)) (pv 5) (nomark _))
      (pss_one (ps_ret pe_bl)) pss_nil))))))
    (pss_one (ps_ret pe_bl)))), ?_⟩
  refine ⟨_, rfl, a, ns, rfl, hS, fun D H1 d1 s1 => ?_⟩
  refine ⟨3, rfl, by decide, by decide, ?_⟩
  refine for_range (lo := 0) (n := 3) (fun i σ H' => ∃ (o2 o3 o4 o5 o6 o7 o8 o9 o10 : Option V) (c : Nat), σ = [some (.ref a), some (.ref D.dk), o2, o3, o4, o5, o6, o7, o8, o9, o10, none] ∧ DeckOk H' D c ∧ c ≤ 10000 * i) ⟨none, none, none, none, none, none, none, none, none, 0, rfl, d1, by omega⟩ (fun i σ H2 hi hp => ?_) (fun σ H2 hp => ?_)
  · obtain ⟨o2, o3, o4, o5, o6, o7, o8, o9, o10, c, rfl, d2, hc⟩ := hp
    dsimp only [gName]
    refine seq_cut (fun σ H' => ∃ (p : Addr) (es : List En) (X : B) (c' : Nat), σ = [some (.ref a), some (.ref D.dk), some (.int (0 + (i : Int))), some (.ref p), o4, o5, o6, o7, o8, o9, o10, none] ∧ NsAt H' p es X ∧ DeckOk H' D c' ∧ c' ≤ 10000 * i + 8000) (fun σ H3 hp => ?_) (fun rest => ?_)
    · clear d2 hc
      obtain ⟨p, es, X, c, rfl, ⟨us, ep, en0, gn, e1, e20, eX⟩, d3, hc⟩ := hp
      obtain ⟨nk1, nk2, nk3⟩ := nest_ok gn e20
      obtain ⟨xsz, xlt⟩ := full_size gn e20 eX
      have ul := en0.len
      refine ⟨_, rfl, p, us, es, rfl, ep, en0, gn, e20, fun q H4 s4 eq => ?_⟩
      refine ⟨_, rfl, q, _, _, _, rfl, rfl, SqL.of eq, at_last (v := vn X.size) (by rw [List.length_map, fulls_len, List.getElem?_map, eX]; rfl), ?_⟩
      have kt4 := Tw.Same.keepT s4
      refine ⟨_, rfl, p, nestD es, rfl, .tup (SqT.of (kt4 _ _ ep)) (en0.keep kt4).dp, nk1, nk2, nk3, ?_⟩
      refine ⟨_, _, rfl, ?_⟩
      have d4 := d3.same s4
      have ep4 := kt4 _ _ ep
      have en4 := en0.keep kt4
      clear eq s4 kt4 d3 ep en0
      obtain ⟨u, hu⟩ : ∃ u, us[us.length - 1]? = some u := ⟨_, List.getElem?_eq_getElem (show us.length - 1 < us.length by omega)⟩
      obtain ⟨ta, la, tv, vs, t, ls, rfl, het, eta, btv, _, _⟩ := en4.get hu
      have gt := gn _ _ het
      rcases btv.inv with ⟨_, rfl⟩ | ⟨ra, vl, vr, x, tl, tr, rfl, rfl, era, _, _⟩
      · exact absurd gt.s1 (by show ¬ (1 ≤ 0); omega)
      refine ⟨_, rfl, _, rfl, p, us, _, _, rfl, rfl, SqT.of ep4, at_last hu, ta, _, 0, _, rfl, rfl, SqT.of eta, atI_nat (j := 0) rfl, ra, _, 1, _, rfl, rfl, SqT.of era, atI_nat (j := 1) rfl, ?_⟩
      have xs1 : 1 ≤ X.size := by
        have fg := full_get gn het
        rw [show us.length - 1 = es.length - 1 by omega, eX] at fg
        cases fg
        show 1 ≤ (B.sub tl _).size + 1 + _
        omega
      refine ⟨(by show 2 ≤ sizeLine; decide), fun pl npl => ?_⟩
      have k5 := same_new npl (.lst [.str "z", .str (ch x)])
      have kt5 := Tw.Same.keepT k5
      have epl := upd_same (H := H4) (a := pl) (o := .lst [.str "z", .str (ch x)])
      have opl := d4.new npl
      have d5 := d4.same k5
      have ep5 := kt5 _ _ ep4
      have en5 := en4.keep kt5
      generalize upd H4 pl (.lst [.str "z", .str (ch x)]) = H5 at epl d5 ep5 en5 ⊢
      clear k5 kt5 npl d4 ep4 en4 eta btv era
      refine ⟨pl, rfl, ⟨_, SqL.of epl⟩, ?_⟩
      refine for_list (K := K) (a := pl) (xs := [.str "z", .str (ch x)]) (fun j σ H' => ∃ (o6 o7 o8 o9 o10 : Option V) (c' : Nat), σ = [some (.ref a), some (.ref D.dk), some (.int (0 + (i : Int))), some (.ref p), some (vn X.size), some (.str (nestD es).shown), o6, o7, o8, o9, o10, none] ∧ DeckOk H' D c' ∧ c' ≤ 10000 * i + 8000 + 10 * j ∧ SameD D H5 H')
        ⟨_, _, _, _, _, c, rfl, d5, by omega, SameD.of (Same.refl _)⟩ (fun j σ H' _ hp => by obtain ⟨_, _, _, _, _, _, _, _, _, sm⟩ := hp; exact SqL.of (sm.at opl epl)) (fun j z σ H6 hz hp => ?_) (fun σ H6 hp => ?_)
      · obtain ⟨o6, o7, o8, o9, o10, c6, rfl, d6, hc6, s56⟩ := hp
        have hj2 : j < 2 := (List.getElem?_eq_some_iff.mp hz).1
        obtain ⟨c0, rfl⟩ : ∃ c0, z = .str (ch c0) := by
          match j, hz with
          | 0, hz => cases hz; exact ⟨122, by rw [show (Str.ofString "z") = ch 122 by decide +kernel]⟩
          | 1, hz => cases hz; exact ⟨x, rfl⟩
          | j + 2, hz => simp at hz
        have kt6 := s56.keepT d5
        have ep6 := kt6 _ _ ep5
        have en6 := en5.keep kt6
        refine ⟨_, rfl, _, rfl, p, us, es, X, [c0], rfl, ep6, en6, gn, e1, e20, eX, fun H7 s67 => ?_⟩
        have hcs : X.cnt [c0] ≤ X.size := cnt_le [c0] X
        have x1 : 1 ≤ X.size := xs1
        have dk := d6.same s67
        have sm : SameD D H5 H7 := s56.trans (SameD.of s67)
        have ns7 : NsAt H7 p es X := ⟨us, s67 _ _ ep6, en6.keep (Tw.Same.keepT s67), gn, e1, e20, eX⟩
        clear ep6 en6 kt6 s67 s56 d6 ep5 en5
        refine ⟨_, rfl, _, _, rfl, rfl, _, rfl, _, rfl, _, _, rfl, rfl, _, rfl, 1, rfl, ?_⟩
        refine ⟨(by show 1 ≤ sizeLine; decide), fun r1 m1 => ?_⟩
        have q1 := same_new m1 (.tup [.int 0])
        have a1 := dq_newT dk m1 (.cons (.int 0) .nil)
        have x1 := upd_same (H := H7) (a := r1) (o := .tup [.int 0])
        have f1 := dk.new m1
        have dk := dk.same q1
        have sm := sm.trans (SameD.of q1)
        have ns7 := ns7.keep (Tw.Same.keepT q1)
        clear q1 m1
        generalize upd H7 r1 (.tup [.int 0]) = G1 at x1 dk sm ns7 a1 ⊢
        refine ⟨(by show 1 ≤ sizeLine; decide), fun r2 m2 => ?_⟩
        have q2 := same_new m2 (.lst [.int 0])
        have a2 := dq_newL dk m2 (.cons (.int 0) .nil)
        have x2 := upd_same (H := G1) (a := r2) (o := .lst [.int 0])
        have f2 := dk.new m2
        have a1 := dq_same q2 a1
        have dk := dk.same q2
        have sm := sm.trans (SameD.of q2)
        have ns7 := ns7.keep (Tw.Same.keepT q2)
        clear q2 m2
        generalize upd G1 r2 (.lst [.int 0]) = G2 at x2 dk sm ns7 a2 a1 ⊢
        refine fun r3 m3 => ?_
        have q3 := same_new m3 (.dK [])
        have a3 := dq_newE dk m3
        have x3 := upd_same (H := G2) (a := r3) (o := .dK [])
        have f3 := dk.new m3
        have a1 := dq_same q3 a1
        have a2 := dq_same q3 a2
        have dk := dk.same q3
        have sm := sm.trans (SameD.of q3)
        have ns7 := ns7.keep (Tw.Same.keepT q3)
        clear q3 m3
        generalize upd G2 r3 (.dK []) = G3 at x3 dk sm ns7 a3 a1 a2 ⊢
        refine fun r4 m4 => ?_
        have q4 := same_new m4 (.dK [])
        have a4 := dq_newE dk m4
        have x4 := upd_same (H := G3) (a := r4) (o := .dK [])
        have f4 := dk.new m4
        have a1 := dq_same q4 a1
        have a2 := dq_same q4 a2
        have a3 := dq_same q4 a3
        have dk := dk.same q4
        have sm := sm.trans (SameD.of q4)
        have ns7 := ns7.keep (Tw.Same.keepT q4)
        clear q4 m4
        generalize upd G3 r4 (.dK []) = G4 at x4 dk sm ns7 a4 a1 a2 a3 ⊢
        refine ⟨(by show 1 ≤ sizeLine; decide), fun r5 m5 => ?_⟩
        have q5 := same_new m5 (.tup [.ref r4])
        have a5 := dq_newT dk m5 (.cons a4 .nil)
        have x5 := upd_same (H := G4) (a := r5) (o := .tup [.ref r4])
        have f5 := dk.new m5
        have a1 := dq_same q5 a1
        have a2 := dq_same q5 a2
        have a3 := dq_same q5 a3
        have a4 := dq_same q5 a4
        have dk := dk.same q5
        have sm := sm.trans (SameD.of q5)
        have ns7 := ns7.keep (Tw.Same.keepT q5)
        clear q5 m5
        generalize upd G4 r5 (.tup [.ref r4]) = G5 at x5 dk sm ns7 a5 a1 a2 a3 a4 ⊢
        refine ⟨_, _, rfl, rfl, ⟨by decide, by decide, by decide⟩, ?_⟩
        refine ⟨(by show 15 ≤ sizeLine; decide), fun r6 m6 => ?_⟩
        have q6 := same_new m6 (.lst [.int 0, .int ((X.size : Int) - 1), vn X.size, .int ((X.cnt [c0] : Int) - 1), vn (X.cnt [c0]), .int (-1), .bl true, .bl false, .non, .str "0", .ref r1, .ref r2, .ref r3, .ref r5, .int ((10 : Int) ^ Int.toNat 29)])
        have x6 := upd_same (H := G5) (a := r6) (o := .lst [.int 0, .int ((X.size : Int) - 1), vn X.size, .int ((X.cnt [c0] : Int) - 1), vn (X.cnt [c0]), .int (-1), .bl true, .bl false, .non, .str "0", .ref r1, .ref r2, .ref r3, .ref r5, .int ((10 : Int) ^ Int.toNat 29)])
        have f6 := dk.new m6
        have a1 := dq_same q6 a1
        have a2 := dq_same q6 a2
        have a3 := dq_same q6 a3
        have a4 := dq_same q6 a4
        have a5 := dq_same q6 a5
        have dk := dk.same q6
        have sm := sm.trans (SameD.of q6)
        have ns7 := ns7.keep (Tw.Same.keepT q6)
        clear q6 m6
        generalize upd G5 r6 (.lst [.int 0, .int ((X.size : Int) - 1), vn X.size, .int ((X.cnt [c0] : Int) - 1), vn (X.cnt [c0]), .int (-1), .bl true, .bl false, .non, .str "0", .ref r1, .ref r2, .ref r3, .ref r5, .int ((10 : Int) ^ Int.toNat 29)]) = G6 at x6 dk sm ns7 a1 a2 a3 a4 a5 ⊢
        refine ⟨_, rfl, _, rfl, D, c6, rfl, dk, by omega, fun v1 e1' Ha dq1 g1 w1 h1 dk1 sa => ?_⟩
        refine ⟨_, rfl, D, _, rfl, dk1, by omega, fun v2 e2' Hb dq2 g2 w2 h2 dk2 sb => ?_⟩
        refine ⟨_, rfl, _, rfl, D, _, _, rfl, dk2, by omega, by omega, by omega, fun r Hc r0 rl dk3 sc => ?_⟩
        refine ⟨(by show 3 ≤ sizeLine; decide), fun r7 m7 => ?_⟩
        have sac := sa.trans (sb.trans sc)
        have b1 := dq_sameD sac a1
        have b2 := dq_sameD sac a2
        have b3 := dq_sameD sac a3
        have b5 := dq_sameD sac a5
        have y6 := sac.at f6 x6
        have dv1 := dq_sameD (sb.trans sc) dq1
        have dv2 := dq_sameD sc dq2
        have nsc := ns7.keep (((sa.keepT dk).trans (sb.keepT dk1)).trans (sc.keepT dk2))
        have smc := sm.trans sac
        clear sac a1 a2 a3 a4 a5 x6 dq1 dq2 ns7 sm sa sb sc dk dk1 dk2
        have k7 := same_new m7 (.lst [v1, v2, .int r])
        have x7 := upd_same (H := Hc) (a := r7) (o := .lst [v1, v2, .int r])
        have y6 := k7 _ _ y6
        have dk7 := dk3.same k7
        have al7 : DQAll D (upd Hc r7 (.lst [v1, v2, .int r])) ([.int 0, .int ((X.size : Int) - 1), vn X.size, .int ((X.cnt [c0] : Int) - 1), vn (X.cnt [c0]), .int (-1), .bl true, .bl false, .non, .str "0", .ref r1, .ref r2, .ref r3, .ref r5, .int ((10 : Int) ^ Int.toNat 29)] ++ [v1, v2, .int r])
            [.int 0, .int ((X.size : Int) - 1), .int (X.size : Int), .int ((X.cnt [c0] : Int) - 1), .int (X.cnt [c0] : Int), .int (-1), .bool true, .bool false, .none, .str "0", .tuple [.int 0], .list [.int 0], .dict [], .tuple [.dict []], .int ((10 : Int) ^ Int.toNat 29), e1', e2', .int r] :=
          dqAll_same k7 (.cons (.int _) (.cons (.int _) (.cons (.int _) (.cons (.int _) (.cons (.int _) (.cons (.int _) (.cons (.bl _) (.cons (.bl _) (.cons .non (.cons (.str _) (.cons b1 (.cons b2 (.cons b3 (.cons b5 (.cons (.int _) (.cons dv1 (.cons dv2 (.cons (.int _) .nil))))))))))))))))))
        have ok7 : ∀ d ∈ ([.int 0, .int ((X.size : Int) - 1), .int (X.size : Int), .int ((X.cnt [c0] : Int) - 1), .int (X.cnt [c0] : Int), .int (-1), .bool true, .bool false, .none, .str "0", .tuple [.int 0], .list [.int 0], .dict [], .tuple [.dict []], .int ((10 : Int) ^ Int.toNat 29), e1', e2', .int r] : List PyData), Okd d := by
          have kI : ∀ {j : Int}, -1 ≤ j → j < 10 ^ 30 → Okd (.int j) := fun {j} h1 h2 => ⟨okI_gd (by unfold okI; rw [decide_eq_true h1, decide_eq_true h2]; rfl), (by show 31 ≤ 3000; decide), (by simp only [PyData.depth]; omega)⟩
          have xz : (X.size : Int) < 10 ^ 30 := int_lt xsz
          intro d hd
          rcases List.mem_cons.mp hd with rfl | hd
          · exact kI (by omega) (by omega)
          rcases List.mem_cons.mp hd with rfl | hd
          · exact kI (by omega) (by omega)
          rcases List.mem_cons.mp hd with rfl | hd
          · exact kI (by omega) (by omega)
          rcases List.mem_cons.mp hd with rfl | hd
          · exact kI (by omega) (by omega)
          rcases List.mem_cons.mp hd with rfl | hd
          · exact kI (by omega) (by omega)
          rcases List.mem_cons.mp hd with rfl | hd
          · exact kI (by omega) (by omega)
          rcases List.mem_cons.mp hd with rfl | hd
          · exact okd_c (by decide +kernel)
          rcases List.mem_cons.mp hd with rfl | hd
          · exact okd_c (by decide +kernel)
          rcases List.mem_cons.mp hd with rfl | hd
          · exact okd_c (by decide +kernel)
          rcases List.mem_cons.mp hd with rfl | hd
          · exact okd_c (by decide +kernel)
          rcases List.mem_cons.mp hd with rfl | hd
          · exact okd_c (by decide +kernel)
          rcases List.mem_cons.mp hd with rfl | hd
          · exact okd_c (by decide +kernel)
          rcases List.mem_cons.mp hd with rfl | hd
          · exact okd_c (by decide +kernel)
          rcases List.mem_cons.mp hd with rfl | hd
          · exact okd_c (by decide +kernel)
          rcases List.mem_cons.mp hd with rfl | hd
          · exact okd_c (by decide +kernel)
          rcases List.mem_cons.mp hd with rfl | hd
          · exact ⟨g1, w1, h1⟩
          rcases List.mem_cons.mp hd with rfl | hd
          · exact ⟨g2, w2, h2⟩
          rw [List.mem_singleton.mp hd]
          exact kI (by omega) (by omega)
        have nsd := nsc.keep (Tw.Same.keepT k7)
        have smd := smc.trans (SameD.of k7)
        refine ⟨r6, r7, _, _, rfl, rfl, y6, x7, (by show 18 ≤ sizeLine; decide), ?_⟩
        generalize upd Hc r7 (.lst [v1, v2, .int r]) = Hd at y6 x7 dk7 al7 nsd smd ⊢
        clear b1 b2 b3 b5 dv1 dv2 nsc smc k7 m7 dk3
        refine fun r8 m8 => ?_
        have len18 := dqAll_len al7
        generalize hxs : ([.int 0, .int ((X.size : Int) - 1), vn X.size, .int ((X.cnt [c0] : Int) - 1), vn (X.cnt [c0]), .int (-1), .bl true, .bl false, .non, .str "0", .ref r1, .ref r2, .ref r3, .ref r5, .int ((10 : Int) ^ Int.toNat 29)] ++ [v1, v2, .int r] : List V) = xs at al7 len18 ⊢
        generalize hds : ([.int 0, .int ((X.size : Int) - 1), .int (X.size : Int), .int ((X.cnt [c0] : Int) - 1), .int (X.cnt [c0] : Int), .int (-1), .bool true, .bool false, .none, .str "0", .tuple [.int 0], .list [.int 0], .dict [], .tuple [.dict []], .int ((10 : Int) ^ Int.toNat 29), e1', e2', .int r] : List PyData) = dds at al7 ok7 len18
        clear hxs hds
        have k8 := same_new m8 (.lst xs)
        have x8 := upd_same (H := Hd) (a := r8) (o := .lst xs)
        have al8 := dqAll_same k8 al7
        have dk8 := dk7.same k8
        have ns8 := nsd.keep (Tw.Same.keepT k8)
        have sm8 := smd.trans (SameD.of k8)
        generalize upd Hd r8 (.lst xs) = He at x8 al8 dk8 ns8 sm8 ⊢
        clear k8 al7 dk7 nsd smd m8 y6 x7
        refine ⟨r8, rfl, ⟨_, SqL.of x8⟩, ?_⟩
        refine for_list (K := K) (a := r8) (xs := xs) (fun j2 σ H' => ∃ (o9 o10 : Option V), σ = [some (.ref a), some (.ref D.dk), some (.int (0 + (i : Int))), some (.ref p), some (vn X.size), some (.str (nestD es).shown), some (.str (ch c0)), some (vn (X.cnt [c0])), some (.ref r6), o9, o10, none] ∧ Same He H')
          ⟨_, _, rfl, Same.refl _⟩ (fun j2 σ H' _ hp => by obtain ⟨_, _, _, sm⟩ := hp; exact SqL.of (sm _ _ x8)) (fun j2 z σ Hf hz hp => ?_) (fun σ Hf hp => ?_)
        · obtain ⟨o9, o10, rfl, sf⟩ := hp
          obtain ⟨d, hd1, hd2⟩ := dqAll_get al8 hz
          obtain ⟨gz, wz, hzd⟩ := ok7 d (List.mem_of_getElem? hd1)
          have hdz := dq_same sf hd2
          have dk := dk8.same sf
          have nsf := ns8.keep (Tw.Same.keepT sf)
          clear hd1 hd2 hz al8
          refine ⟨_, rfl, (by show 3 ≤ sizeLine; decide), fun l1 n1 => ?_⟩
          have k1 := same_new n1 (.lst [.str "place", z, .bl true])
          have q1 := dq_newL dk n1 (.cons (.str "place") (.cons hdz (.cons (.bl true) .nil)))
          have dk1 := dk.same k1
          have hdz1 := dq_same k1 hdz
          generalize upd Hf l1 (.lst [.str "place", z, .bl true]) = F1 at k1 q1 dk1 hdz1 ⊢
          refine ⟨_, rfl, (by show 3 ≤ sizeLine; decide), fun l2 n2 => ?_⟩
          have k2 := same_new n2 (.lst [.str "place", z, .bl true])
          have q2 := dq_newL dk1 n2 (.cons (.str "place") (.cons hdz1 (.cons (.bl true) .nil)))
          have dk2 := dk1.same k2
          have q1 := dq_same k2 q1
          have hdz2 := dq_same k2 hdz1
          have k12 := k1.trans k2
          generalize upd F1 l2 (.lst [.str "place", z, .bl true]) = F2 at k12 q1 q2 dk2 hdz2 ⊢
          refine ⟨_, rfl, (by show 3 ≤ sizeLine; decide), fun l3 n3 => ?_⟩
          have k3 := same_new n3 (.lst [.str "index", z, .bl true])
          have q3 := dq_newL dk2 n3 (.cons (.str "index") (.cons hdz2 (.cons (.bl true) .nil)))
          have dk3 := dk2.same k3
          have q1 := dq_same k3 q1
          have q2 := dq_same k3 q2
          have k13 := k12.trans k3
          generalize upd F2 l3 (.lst [.str "index", z, .bl true]) = F3 at k13 q1 q2 q3 dk3 ⊢
          refine ⟨(by show 3 ≤ sizeLine; decide), fun l n => ?_⟩
          have k4 := same_new n (.lst [.ref l1, .ref l2, .ref l3])
          have e4 := upd_same (H := F3) (a := l) (o := .lst [.ref l1, .ref l2, .ref l3])
          have f4 := dk3.new n
          have q1 := dq_same k4 q1
          have q2 := dq_same k4 q2
          have q3 := dq_same k4 q3
          have k14 := k13.trans k4
          generalize upd F3 l (.lst [.ref l1, .ref l2, .ref l3]) = F4 at k14 e4 q1 q2 q3 ⊢
          clear k1 k2 k3 k4 k12 k13 n1 n2 n3 n dk1 dk2 dk3 hdz1 hdz2
          refine seq_cutN (fun σ H' => ∃ (l : Addr) (u1 u2 u3 : V), σ = [some (.ref a), some (.ref D.dk), some (.int (0 + (i : Int))), some (.ref p), some (vn X.size), some (.str (nestD es).shown), some (.str (ch c0)), some (vn (X.cnt [c0])), some (.ref r6), some z, some (.ref l), none] ∧ Same Hf H' ∧ Off D l ∧ H' l = some (.lst [u1, u2, u3]) ∧ DQ D H' u1 (eD (isIx d 0 ((X.size : Int) - 1)) "place" d) ∧ DQ D H' u2 (eD (isIx d 0 ((X.size : Int) - 1)) "place" d) ∧ DQ D H' u3 (eD false "index" d)) (fun σ Hg hp => ?_) (fun rest => ?_)
          · clear q1 q2 q3 e4 f4 k14
            obtain ⟨l, u1, u2, u3, rfl, sg, fl, el, q1, q2, q3⟩ := hp
            refine seq_cut (fun σ H' => ∃ (l : Addr) (u1 u2 u3 : V), σ = [some (.ref a), some (.ref D.dk), some (.int (0 + (i : Int))), some (.ref p), some (vn X.size), some (.str (nestD es).shown), some (.str (ch c0)), some (vn (X.cnt [c0])), some (.ref r6), some z, some (.ref l), none] ∧ Same Hf H' ∧ Off D l ∧ H' l = some (.lst [u1, u2, u3]) ∧ DQ D H' u1 (eD (isIx d 0 ((X.size : Int) - 1)) "place" d) ∧ DQ D H' u2 (eD (isIx d 0 ((X.size : Int) - 1)) "place" d) ∧ DQ D H' u3 (eD (isIx d 0 ((X.cnt [c0] : Int) - 1)) "index" d)) (fun σ Hh hp => ?_) (fun rest => ?_)
            · clear q1 q2 q3 el fl sg
              obtain ⟨l, u1, u2, u3, rfl, sg, fl, el, q1, q2, q3⟩ := hp
              have dkh := dk.same sg
              refine ⟨3, rfl, by decide, by decide, fun L nL => ?_⟩
              have kL := same_new nL (.lst [])
              refine lc_range (lo := 0) (n := 3) (fun j H' => Same Hh H' ∧ ∃ us : List V, H' L = some (.lst us) ∧ us.length = j ∧ ∀ (k : Nat) (u : V), us[k]? = some u → ∃ t : Addr, u = .ref t ∧ t ≠ L ∧ Off D t ∧ H' t = some (.lst (tV X c0 d z k))) ⟨kL, [], upd_same, rfl, fun k u h => by simp at h⟩ (fun j H' hj hp => ?_) (fun H' hp => ?_)
              · obtain ⟨s8, us8, e8, l8, al8⟩ := hp
                refine ⟨rfl, kept ⟨_, rfl, _, rfl, _, rfl, _, rfl, j, p, es, X, c0, z, D, d, (by rw [Int.zero_add]; rfl), hj, nsf.keep (Tw.Same.keepT (sg.trans s8)), dq_same (sg.trans s8) hdz, fun L2 H9 s9 nL2 e9 => ?_⟩⟩
                have neL : L2 ≠ L := fun zz => by rw [zz, e8] at nL2; cases nL2
                have f2 := (dkh.same s8).new nL2
                refine ⟨us8, s9 _ _ e8, small1000 (by omega), fun b o e => ?_, us8 ++ [.ref L2], upd_same, (by rw [List.length_append, l8]; rfl), fun k u hu => ?_⟩
                · rw [upd_ne (ne_of_none e nL)]
                  exact s9 _ _ (s8 _ _ e)
                · by_cases hk : k < us8.length
                  · rw [List.getElem?_append_left hk] at hu
                    obtain ⟨t, h1, h2, h3, h4⟩ := al8 k u hu
                    exact ⟨t, h1, h2, h3, (upd_ne h2).trans (s9 _ _ h4)⟩
                  · have hk2 : k = us8.length := by
                      have := (List.getElem?_eq_some_iff.mp hu).1
                      rw [List.length_append] at this
                      have : k < us8.length + 1 := this
                      omega
                    subst hk2
                    rw [List.getElem?_append_right (Nat.le_refl _), Nat.sub_self] at hu
                    cases hu
                    rw [l8]
                    exact ⟨L2, rfl, neL, f2, (upd_ne neL).trans e9⟩
              · obtain ⟨s8, us8, e8, l8, al8⟩ := hp
                have fL : Off D L := dkh.new nL
                match us8, l8, e8, al8 with
                | [w0, w1, w2], _, e8, al8 =>
                obtain ⟨t0, rfl, _, f0, h0⟩ := al8 0 _ rfl
                obtain ⟨t1, rfl, _, f1, h1⟩ := al8 1 _ rfl
                obtain ⟨t2, rfl, _, f2, h2⟩ := al8 2 _ rfl
                have hdf := dq_same (sg.trans s8) hdz
                have m0 := tV_dq hdf f0 h0
                have m1 := tV_dq hdf f1 h1
                have m2 := tV_dq hdf f2 h2
                have big := eD3 gz wz hzd (isIx d 0 ((X.size : Int) - 1)) (isIx d 0 ((X.size : Int) - 1)) (isIx d 0 ((X.cnt [c0] : Int) - 1))
                refine ⟨_, rfl, .ref L, .ref l, D, _, rfl, .lst fL e8 (.cons m0 (.cons m1 (.cons m2 .nil))), .lst fl (s8 _ _ el) (.cons (dq_same s8 q1) (.cons (dq_same s8 q2) (.cons (dq_same s8 q3) .nil))), big.1, big.2.1, big.2.2, true, rfl, iteF ?_⟩
                exact ⟨_, _, rfl, sf.trans (sg.trans s8)⟩
            · refine ⟨_, rfl, _, rfl, _, _, rfl, rfl, z, D, d, 0, (X.cnt [c0] : Int) - 1, rfl, dq_same sg hdz, _, rfl, ite2 (fun h => ?_) (fun h => ?_)⟩
              · have dkg := dk.same sg
                refine ⟨_, rfl, 2, rfl, l, [u1, u2, u3], rfl, SqL.of el, fun c nc => ?_⟩
                have kc := same_new nc (.lst [u1, u2])
                have ec := upd_same (H := Hg) (a := c) (o := .lst [u1, u2])
                have dkc := dkg.same kc
                have hcut : cutV [u1, u2, u3] none (some 2) = [u1, u2] := rfl
                rw [hcut]
                generalize upd Hg c (.lst [u1, u2]) = G1 at kc ec dkc ⊢
                refine ⟨(by show 1 ≤ sizeLine; decide), fun t1 n1 => ?_⟩
                have k1 := same_new n1 (.lst [.str "returns"])
                have p1 := dq_newL dkc n1 (.cons (.str "returns") .nil)
                have dk1 := dkc.same k1
                have ec := k1 _ _ ec
                have kc := kc.trans k1
                generalize upd G1 t1 (.lst [.str "returns"]) = G2 at kc ec dk1 p1 ⊢
                refine ⟨(by show 1 ≤ sizeLine; decide), fun t2 n2 => ?_⟩
                have k2 := same_new n2 (.lst [.ref t1])
                have e2 := upd_same (H := G2) (a := t2) (o := .lst [.ref t1])
                have dk2 := dk1.same k2
                have ec := k2 _ _ ec
                have p1 := dq_same k2 p1
                have kc := kc.trans k2
                generalize upd G2 t2 (.lst [.ref t1]) = G3 at kc ec dk2 p1 e2 ⊢
                refine ⟨c, t2, _, _, rfl, rfl, ec, e2, (by show 3 ≤ sizeLine; decide), ?_⟩
                refine fun t n => ?_
                have k3 := same_new n (.lst ([u1, u2] ++ [.ref t1]))
                have k123 := kc.trans k3
                refine rest _ _ ⟨t, u1, u2, .ref t1, rfl, sg.trans k123, dk2.new n, upd_same, dq_same k123 q1, dq_same k123 q2, ?_⟩
                rw [h]
                exact dq_same k3 p1
              · refine rest _ _ ⟨l, u1, u2, u3, rfl, sg, fl, el, q1, q2, ?_⟩
                rw [h]
                exact q3
          · refine ⟨_, rfl, _, rfl, _, _, rfl, rfl, z, D, d, 0, (X.size : Int) - 1, rfl, dq_same k14 hdz, _, rfl, ite2 (fun h => ?_) (fun h => ?_)⟩
            · have dkg := dk.same k14
              refine ⟨(by show 1 ≤ sizeLine; decide), fun t1 n1 => ?_⟩
              have k1 := same_new n1 (.lst [.str "returns"])
              have p1 := dq_newL dkg n1 (.cons (.str "returns") .nil)
              have dk1 := dkg.same k1
              generalize upd F4 t1 (.lst [.str "returns"]) = F5 at k1 p1 dk1 ⊢
              refine ⟨(by show 1 ≤ sizeLine; decide), fun t2 n2 => ?_⟩
              have k2 := same_new n2 (.lst [.str "returns"])
              have p2 := dq_newL dk1 n2 (.cons (.str "returns") .nil)
              have p1 := dq_same k2 p1
              have dk2 := dk1.same k2
              have k12 := k1.trans k2
              generalize upd F5 t2 (.lst [.str "returns"]) = F6 at k12 p1 p2 dk2 ⊢
              refine ⟨_, rfl, l, _, 2, .ref l3, rfl, rfl, SqL.of (k12 _ _ e4), atI_nat (j := 2) rfl, (by show 3 ≤ sizeLine; decide), fun t n => ?_⟩
              have k3 := same_new n (.lst [.ref t1, .ref t2, .ref l3])
              have k123 := k12.trans k3
              refine rest _ _ ⟨t, _, _, _, rfl, k14.trans k123, dk2.new n, upd_same, ?_, ?_, dq_same k123 q3⟩
              · rw [h]; exact dq_same k3 p1
              · rw [h]; exact dq_same k3 p2
            · refine rest _ _ ⟨l, _, _, _, rfl, k14, f4, e4, ?_, ?_, q3⟩
              · rw [h]; exact q1
              · rw [h]; exact q2
        · obtain ⟨o9, o10, rfl, sf⟩ := hp
          exact ⟨_, _, _, _, _, _, rfl, dk8.same sf, by omega, sm8.trans (SameD.of sf)⟩
      · obtain ⟨o6, o7, o8, o9, o10, c', rfl, d', hc', sm⟩ := hp
        have kt := sm.keepT d5
        refine ⟨_, rfl, p, nestD es, rfl, .tup (SqT.of (kt _ _ ep5)) (en5.keep kt).dp, nk1, nk2, nk3, _, rfl, rfl, _, rfl, ?_⟩
        rw [decide_eq_true (rfl : V.str _ = V.str _)]
        have hc2 : c' ≤ 10000 * i + 8000 + 10 * 2 := hc'
        exact iteF ⟨_, _, _, _, _, _, _, _, _, _, rfl, d', by omega⟩
    · refine ⟨_, rfl, D, c, 60, rfl, by decide, d2, by omega, fun p0 us0 es0 X0 n2 H3 d3 hn2 s3 ep0 en0 gn0 e10 e14 eX0 xs0 => ?_⟩
      refine ⟨_, rfl, D, n2, 20, 12, 1, rfl, d3, by omega, by decide, by decide, by decide, by decide, fun p1 us1 es1 n4 H4 d4 hn4 s4 ep1 en1 gn1 e11 e120 => ?_⟩
      have kt4 := s4.keepT d3
      refine ⟨(by show 2 ≤ sizeLine; decide), fun L nL => ?_⟩
      have k5 := same_new nL (.lst [.ref p0, .ref p1])
      have kt5 := Tw.Same.keepT k5
      have d5 := d4.same k5
      refine ⟨_, rfl, _, _, rfl, rfl, (by show (0 : Int) < 2; decide), ?_⟩
      rcases (show (0 + (i : Int)) % 2 = 0 ∨ (0 + (i : Int)) % 2 = 1 by omega) with h | h
      · refine ⟨L, _, _, .ref p0, rfl, (by show V.int ((0 + (i : Int)) % 2) = _; rw [h]; rfl), SqL.of upd_same, atI_nat (j := 0) rfl, rest _ _ ⟨p0, es0, X0, n4, rfl, ⟨us0, kt5 _ _ (kt4 _ _ ep0), (en0.keep kt4).keep kt5, gn0, e10, by omega, eX0⟩, d5, by omega⟩⟩
      · obtain ⟨X1, hX1⟩ : ∃ X1, (fulls es1)[es1.length - 1]? = some X1 := ⟨_, List.getElem?_eq_getElem (show es1.length - 1 < (fulls es1).length by rw [fulls_len]; omega)⟩
        refine ⟨L, _, _, .ref p1, rfl, (by show V.int ((0 + (i : Int)) % 2) = _; rw [h]; rfl), SqL.of upd_same, atI_nat (j := 1) rfl, rest _ _ ⟨p1, es1, X1, n4, rfl, ⟨us1, kt5 _ _ ep1, en1.keep kt5, gn1, e11, by omega, hX1⟩, d5, by omega⟩⟩
  · exact rfl
end
/-! ### what the top has left -/
theorem all_mk {l : PySem.W.OpenLaw} {w : World} {K : PySem.W.Frag} {h : Heap} {mg : Str → Option Value} {fa f1 f2 f3 f4 f5 f6 f7 f8 f9 f10 f11 f12 f13 f14 f15 f16 f17 f18 f19 f20 f21 f22 f23 f24 f25 f26 f27 f28 f29 f30 f31 f32 C_NoPlace C_NoIndex C_NoPath C_NoKind C_NoVersion i_NoPlace i_NoIndex : Addr} (X : K.In h) (G : h.Ns mainGlobals mg) (hfa : mg "law" = some (.ref fa))
    {od1 an1 od2 an2 od3 an3 od4 an4 od5 an5 od6 an6 od7 an7 od8 an8 od9 an9 od10 an10 od11 an11 od12 an12 od13 an13 od14 an14 od15 an15 od16 an16 od17 an17 od18 an18 od19 an19 od20 an20 od21 an21 od22 an22 od23 an23 od24 an24 od25 an25 od26 an26 od27 an27 od28 an28 od29 an29 od30 an30 od31 an31 od32 an32 : Option Addr} {sl1 sl2 sl3 sl4 sl5 sl6 sl7 sl8 sl9 sl10 sl11 sl12 sl13 sl14 sl15 sl16 sl17 sl18 sl19 sl20 sl21 sl22 sl23 sl24 sl25 sl26 sl27 sl28 sl29 sl30 sl31 sl32 : Array (Option Value)}
    {oc1 kV1 dc1 pm1 cd1 ct1 oc2 kV2 dc2 pm2 cd2 ct2 oc3 kV3 dc3 pm3 cd3 ct3 oc4 kV4 dc4 pm4 cd4 ct4 oc5 kV5 dc5 pm5 cd5 ct5 oc6 kV6 dc6 pm6 cd6 ct6 oc7 kV7 dc7 pm7 cd7 ct7 oc8 kV8 dc8 pm8 cd8 ct8 oc9 kV9 dc9 pm9 cd9 ct9 oc10 kV10 dc10 pm10 cd10 ct10 oc11 kV11 dc11 pm11 cd11 ct11 oc12 kV12 dc12 pm12 cd12 ct12 oc13 kV13 dc13 pm13 cd13 ct13 oc14 kV14 dc14 pm14 cd14 ct14 oc15 kV15 dc15 pm15 cd15 ct15 oc16 kV16 dc16 pm16 cd16 ct16 oc17 kV17 dc17 pm17 cd17 ct17 oc18 kV18 dc18 pm18 cd18 ct18 oc19 kV19 dc19 pm19 cd19 ct19 oc20 kV20 dc20 pm20 cd20 ct20 oc21 kV21 dc21 pm21 cd21 ct21 oc22 kV22 dc22 pm22 cd22 ct22 oc23 kV23 dc23 pm23 cd23 ct23 oc24 kV24 dc24 pm24 cd24 ct24 oc25 kV25 dc25 pm25 cd25 ct25 oc26 kV26 dc26 pm26 cd26 ct26 oc27 kV27 dc27 pm27 cd27 ct27 oc28 kV28 dc28 pm28 cd28 ct28 oc29 kV29 dc29 pm29 cd29 ct29 oc30 kV30 dc30 pm30 cd30 ct30 oc31 kV31 dc31 pm31 cd31 ct31 oc32 kV32 dc32 pm32 cd32 ct32 : Value}
    {tL : Tok} {aT bT1 bT2 bT3 : Addr} {esT : Array DictEntry} {nT nT1 nT2 nT3 : Nat} {oT1 oT2 oT3 : Option Addr} {sT1 sT2 sT3 : Array (Option Value)} {tT11 tT12 tT13 tT21 tT22 tT23 tT31 tT32 tT33 : Tok} 
    {nm_NoPlace q_NoPlace : Str} {N_NoPlace : Addr} {bs_NoPlace sub_NoPlace : List Value} {sn_NoPlace : List Str} {ab_NoPlace : Bool} {col_NoPlace : Option Bool} {dd_NoPlace : Option Addr} {m0_NoPlace m1_NoPlace m2_NoPlace m3_NoPlace m5_NoPlace : Option Value}  {oc_NoPlace dc_NoPlace pm_NoPlace cd_NoPlace ct_NoPlace : Value} {od_NoPlace an_NoPlace : Option Addr} {sl_NoPlace : Array (Option Value)}
    {nm_NoIndex q_NoIndex : Str} {N_NoIndex : Addr} {bs_NoIndex sub_NoIndex : List Value} {sn_NoIndex : List Str} {ab_NoIndex : Bool} {col_NoIndex : Option Bool} {dd_NoIndex : Option Addr} {m0_NoIndex m1_NoIndex m2_NoIndex m3_NoIndex m5_NoIndex : Option Value}  {oc_NoIndex dc_NoIndex pm_NoIndex cd_NoIndex ct_NoIndex : Value} {od_NoIndex an_NoIndex : Option Addr} {sl_NoIndex : Array (Option Value)}
    (a_NoPlace : PySem.W.nsIn K mainGlobals "NoPlace" = some (some (.ref C_NoPlace)))
    (a_NoIndex : PySem.W.nsIn K mainGlobals "NoIndex" = some (some (.ref C_NoIndex)))
    (a_NoPath : PySem.W.nsIn K mainGlobals "NoPath" = some (some (.ref C_NoPath)))
    (a_NoKind : PySem.W.nsIn K mainGlobals "NoKind" = some (some (.ref C_NoKind)))
    (a_NoVersion : PySem.W.nsIn K mainGlobals "NoVersion" = some (some (.ref C_NoVersion)))
    (x_NoPlace : K.lookup C_NoPlace = some (excClassObj nm_NoPlace q_NoPlace C_NoPlace N_NoPlace bs_NoPlace [.type "LookupError", .type "Exception", .type "BaseException", .type "object"] true sn_NoPlace sub_NoPlace ab_NoPlace col_NoPlace dd_NoPlace m0_NoPlace m1_NoPlace m2_NoPlace m3_NoPlace m5_NoPlace "LookupError.__new__"))
    (sa_NoPlace : PySem.W.findIn K (.ref C_NoPlace) "__setattr__" = some (some (.builtin "object.__setattr__")))
    (ga_NoPlace : PySem.W.findIn K (.ref C_NoPlace) "__getattribute__" = some (some (.builtin "BaseException.__getattribute__")))
    (gg_NoPlace : PySem.W.findIn K (.ref C_NoPlace) "__getattr__" = some none)
    (nb_NoPlace : PySem.W.findIn K (.ref C_NoPlace) "value" = some none)
    (ii_NoPlace : PySem.W.findIn K (.ref C_NoPlace) "__init__" = some (some (.ref i_NoPlace)))
    (ti_NoPlace : PySem.W.typeIn K (.ref i_NoPlace) = some (.type "function"))
    (li_NoPlace : K.lookup i_NoPlace = some ⟨oc_NoPlace, od_NoPlace, .func (PySem.W.fnOf "__init__" "NoPlace.__init__" (iA_value ⟨12, 17, 12, 21⟩ ⟨12, 23, 12, 28⟩) (iB_value ⟨13, 8, 13, 12⟩ ⟨13, 8, 13, 18⟩ ⟨13, 21, 13, 26⟩ ⟨13, 8, 13, 26⟩) iS_value .none .none dc_NoPlace pm_NoPlace an_NoPlace cd_NoPlace ct_NoPlace), sl_NoPlace⟩)
    (ci_NoPlace : PySem.W.codeIn K cd_NoPlace "NoPlace.__init__" = true)
    (kC_NoPlace : PySem.W.keepIn K (.ref C_NoPlace) = true)
    (eC_NoPlace : PySem.W.subIn K (.ref C_NoPlace) (.type "BaseException") = some true)
    (tC_NoPlace : PySem.W.typeIn K (.ref C_NoPlace) = some (.type "type"))
    (hC_NoPlace : PySem.W.hasDictIn K C_NoPlace = true)
    (h1_NoPlace : PySem.W.findIn K (.ref C_NoPlace) "__class__" = some (some (.builtin "object.__class__")))
    (h2_NoPlace : PySem.W.specialIn K (.builtin "object.__class__") "__get__" = some (some (.builtin "getset_descriptor.__get__")))
    (h3_NoPlace : PySem.W.takesIn K (.builtin "object.__class__") = some true)
    (h4_NoPlace : PySem.W.mroIn K C_NoPlace (.type "object") = some true)
    (x_NoIndex : K.lookup C_NoIndex = some (excClassObj nm_NoIndex q_NoIndex C_NoIndex N_NoIndex bs_NoIndex [.type "LookupError", .type "Exception", .type "BaseException", .type "object"] true sn_NoIndex sub_NoIndex ab_NoIndex col_NoIndex dd_NoIndex m0_NoIndex m1_NoIndex m2_NoIndex m3_NoIndex m5_NoIndex "LookupError.__new__"))
    (sa_NoIndex : PySem.W.findIn K (.ref C_NoIndex) "__setattr__" = some (some (.builtin "object.__setattr__")))
    (ga_NoIndex : PySem.W.findIn K (.ref C_NoIndex) "__getattribute__" = some (some (.builtin "BaseException.__getattribute__")))
    (gg_NoIndex : PySem.W.findIn K (.ref C_NoIndex) "__getattr__" = some none)
    (nb_NoIndex : PySem.W.findIn K (.ref C_NoIndex) "value" = some none)
    (ii_NoIndex : PySem.W.findIn K (.ref C_NoIndex) "__init__" = some (some (.ref i_NoIndex)))
    (ti_NoIndex : PySem.W.typeIn K (.ref i_NoIndex) = some (.type "function"))
    (li_NoIndex : K.lookup i_NoIndex = some ⟨oc_NoIndex, od_NoIndex, .func (PySem.W.fnOf "__init__" "NoIndex.__init__" (iA_value ⟨16, 17, 16, 21⟩ ⟨16, 23, 16, 28⟩) (iB_value ⟨17, 8, 17, 12⟩ ⟨17, 8, 17, 18⟩ ⟨17, 21, 17, 26⟩ ⟨17, 8, 17, 26⟩) iS_value .none .none dc_NoIndex pm_NoIndex an_NoIndex cd_NoIndex ct_NoIndex), sl_NoIndex⟩)
    (ci_NoIndex : PySem.W.codeIn K cd_NoIndex "NoIndex.__init__" = true)
    (kC_NoIndex : PySem.W.keepIn K (.ref C_NoIndex) = true)
    (eC_NoIndex : PySem.W.subIn K (.ref C_NoIndex) (.type "BaseException") = some true)
    (tC_NoIndex : PySem.W.typeIn K (.ref C_NoIndex) = some (.type "type"))
    (hC_NoIndex : PySem.W.hasDictIn K C_NoIndex = true)
    (h1_NoIndex : PySem.W.findIn K (.ref C_NoIndex) "__class__" = some (some (.builtin "object.__class__")))
    (h2_NoIndex : PySem.W.specialIn K (.builtin "object.__class__") "__get__" = some (some (.builtin "getset_descriptor.__get__")))
    (h3_NoIndex : PySem.W.takesIn K (.builtin "object.__class__") = some true)
    (h4_NoIndex : PySem.W.mroIn K C_NoIndex (.type "object") = some true)
    (aLn : PySem.W.nsIn K mainGlobals "LETTERS" = some (some (.str "abcdefghijklmnopqrstuvwxyz" tL)))
    (aTn : PySem.W.nsIn K mainGlobals "TURNS" = some (some (.ref aT)))
    (aTl : K.lookup aT = some ⟨.type "dict", none, .dict esT nT, #[]⟩)
    (aTk : PySem.W.KeysLit w.params esT.toList)
    (aT1 : PySem.W.nsIn K aT "first" = some (some (.ref bT1)))
    (bT1l : K.lookup bT1 = some ⟨.type "tuple", oT1, .seq #[.str "" tT11, .str "l" tT12, .str "r" tT13] nT1, sT1⟩)
    (aT2 : PySem.W.nsIn K aT "between" = some (some (.ref bT2)))
    (bT2l : K.lookup bT2 = some ⟨.type "tuple", oT2, .seq #[.str "l" tT21, .str "" tT22, .str "r" tT23] nT2, sT2⟩)
    (aT3 : PySem.W.nsIn K aT "last" = some (some (.ref bT3)))
    (bT3l : K.lookup bT3 = some ⟨.type "tuple", oT3, .seq #[.str "l" tT31, .str "r" tT32, .str "" tT33] nT3, sT3⟩)
    (kPL : PySem.W.kitOne K (.ref C_NoPlace) (.type "LookupError") = some true)
    (kIL : PySem.W.kitOne K (.ref C_NoIndex) (.type "LookupError") = some true)
    (aPn : PySem.W.kitAny K (.ref C_NoPlace) [.type "ValueError", .ref C_NoPath, .ref C_NoKind, .ref C_NoVersion] = some false)
    (aIn : PySem.W.kitAny K (.ref C_NoIndex) [.type "ValueError", .ref C_NoPath, .ref C_NoKind, .ref C_NoVersion] = some false)
    (kPI : PySem.W.kitOne K (.ref C_NoPlace) (.ref C_NoIndex) = some false)
    (kIP : PySem.W.kitOne K (.ref C_NoIndex) (.ref C_NoPlace) = some false)
    (eIP : PySem.W.exmOne K (.ref C_NoIndex) (.ref C_NoPlace) = some false)
    (ePP : PySem.W.exmOne K (.ref C_NoPlace) (.ref C_NoPlace) = some true)
    (eII : PySem.W.exmOne K (.ref C_NoIndex) (.ref C_NoIndex) = some true)
    (a1 : PySem.W.nsIn K mainGlobals "is_whole_number" = some (some (.ref f1)))
    (l1 : K.lookup f1 = some ⟨oc1, od1, .func (PySem.W.fnOf "is_whole_number" "is_whole_number" (defArgs s_is_whole_number) (defBody s_is_whole_number) (defScope s_is_whole_number) .none kV1 dc1 pm1 an1 cd1 ct1), sl1⟩)
    (c1 : PySem.W.codeIn K cd1 "is_whole_number" = true)
    (k1 : PySem.W.keepIn K (.ref f1) = true)
    (a2 : PySem.W.nsIn K mainGlobals "is_index" = some (some (.ref f2)))
    (l2 : K.lookup f2 = some ⟨oc2, od2, .func (PySem.W.fnOf "is_index" "is_index" (defArgs s_is_index) (defBody s_is_index) (defScope s_is_index) .none kV2 dc2 pm2 an2 cd2 ct2), sl2⟩)
    (c2 : PySem.W.codeIn K cd2 "is_index" = true)
    (k2 : PySem.W.keepIn K (.ref f2) = true)
    (a3 : PySem.W.nsIn K mainGlobals "spots_of" = some (some (.ref f3)))
    (l3 : K.lookup f3 = some ⟨oc3, od3, .func (PySem.W.fnOf "spots_of" "spots_of" (defArgs s_spots_of) (defBody s_spots_of) (defScope s_spots_of) .none kV3 dc3 pm3 an3 cd3 ct3), sl3⟩)
    (c3 : PySem.W.codeIn K cd3 "spots_of" = true)
    (k3 : PySem.W.keepIn K (.ref f3) = true)
    (a4 : PySem.W.nsIn K mainGlobals "add_spots" = some (some (.ref f4)))
    (l4 : K.lookup f4 = some ⟨oc4, od4, .func (PySem.W.fnOf "add_spots" "add_spots" (defArgs s_add_spots) (defBody s_add_spots) (defScope s_add_spots) .none kV4 dc4 pm4 an4 cd4 ct4), sl4⟩)
    (c4 : PySem.W.codeIn K cd4 "add_spots" = true)
    (k4 : PySem.W.keepIn K (.ref f4) = true)
    (a5 : PySem.W.nsIn K mainGlobals "counts_in" = some (some (.ref f5)))
    (l5 : K.lookup f5 = some ⟨oc5, od5, .func (PySem.W.fnOf "counts_in" "counts_in" (defArgs s_counts_in) (defBody s_counts_in) (defScope s_counts_in) .none kV5 dc5 pm5 an5 cd5 ct5), sl5⟩)
    (c5 : PySem.W.codeIn K cd5 "counts_in" = true)
    (k5 : PySem.W.keepIn K (.ref f5) = true)
    (a6 : PySem.W.nsIn K mainGlobals "count_label" = some (some (.ref f6)))
    (l6 : K.lookup f6 = some ⟨oc6, od6, .func (PySem.W.fnOf "count_label" "count_label" (defArgs s_count_label) (defBody s_count_label) (defScope s_count_label) .none kV6 dc6 pm6 an6 cd6 ct6), sl6⟩)
    (c6 : PySem.W.codeIn K cd6 "count_label" = true)
    (k6 : PySem.W.keepIn K (.ref f6) = true)
    (a7 : PySem.W.nsIn K mainGlobals "turned" = some (some (.ref f7)))
    (l7 : K.lookup f7 = some ⟨oc7, od7, .func (PySem.W.fnOf "turned" "turned" (defArgs s_turned) (defBody s_turned) (defScope s_turned) .none kV7 dc7 pm7 an7 cd7 ct7), sl7⟩)
    (c7 : PySem.W.codeIn K cd7 "turned" = true)
    (k7 : PySem.W.keepIn K (.ref f7) = true)
    (a8 : PySem.W.nsIn K mainGlobals "way_to" = some (some (.ref f8)))
    (l8 : K.lookup f8 = some ⟨oc8, od8, .func (PySem.W.fnOf "way_to" "way_to" (defArgs s_way_to) (defBody s_way_to) (defScope s_way_to) .none kV8 dc8 pm8 an8 cd8 ct8), sl8⟩)
    (c8 : PySem.W.codeIn K cd8 "way_to" = true)
    (k8 : PySem.W.keepIn K (.ref f8) = true)
    (a9 : PySem.W.nsIn K mainGlobals "place_on" = some (some (.ref f9)))
    (l9 : K.lookup f9 = some ⟨oc9, od9, .func (PySem.W.fnOf "place_on" "place_on" (defArgs s_place_on) (defBody s_place_on) (defScope s_place_on) .none kV9 dc9 pm9 an9 cd9 ct9), sl9⟩)
    (c9 : PySem.W.codeIn K cd9 "place_on" = true)
    (k9 : PySem.W.keepIn K (.ref f9) = true)
    (a10 : PySem.W.nsIn K mainGlobals "label_on" = some (some (.ref f10)))
    (l10 : K.lookup f10 = some ⟨oc10, od10, .func (PySem.W.fnOf "label_on" "label_on" (defArgs s_label_on) (defBody s_label_on) (defScope s_label_on) .none kV10 dc10 pm10 an10 cd10 ct10), sl10⟩)
    (c10 : PySem.W.codeIn K cd10 "label_on" = true)
    (k10 : PySem.W.keepIn K (.ref f10) = true)
    (a11 : PySem.W.nsIn K mainGlobals "way_at" = some (some (.ref f11)))
    (l11 : K.lookup f11 = some ⟨oc11, od11, .func (PySem.W.fnOf "way_at" "way_at" (defArgs s_way_at) (defBody s_way_at) (defScope s_way_at) .none kV11 dc11 pm11 an11 cd11 ct11), sl11⟩)
    (c11 : PySem.W.codeIn K cd11 "way_at" = true)
    (k11 : PySem.W.keepIn K (.ref f11) = true)
    (a12 : PySem.W.nsIn K mainGlobals "label_in" = some (some (.ref f12)))
    (l12 : K.lookup f12 = some ⟨oc12, od12, .func (PySem.W.fnOf "label_in" "label_in" (defArgs s_label_in) (defBody s_label_in) (defScope s_label_in) .none kV12 dc12 pm12 an12 cd12 ct12), sl12⟩)
    (c12 : PySem.W.codeIn K cd12 "label_in" = true)
    (k12 : PySem.W.keepIn K (.ref f12) = true)
    (a13 : PySem.W.nsIn K mainGlobals "other_place" = some (some (.ref f13)))
    (l13 : K.lookup f13 = some ⟨oc13, od13, .func (PySem.W.fnOf "other_place" "other_place" (defArgs s_other_place) (defBody s_other_place) (defScope s_other_place) .none kV13 dc13 pm13 an13 cd13 ct13), sl13⟩)
    (c13 : PySem.W.codeIn K cd13 "other_place" = true)
    (k13 : PySem.W.keepIn K (.ref f13) = true)
    (a14 : PySem.W.nsIn K mainGlobals "nth_label" = some (some (.ref f14)))
    (l14 : K.lookup f14 = some ⟨oc14, od14, .func (PySem.W.fnOf "nth_label" "nth_label" (defArgs s_nth_label) (defBody s_nth_label) (defScope s_nth_label) .none kV14 dc14 pm14 an14 cd14 ct14), sl14⟩)
    (c14 : PySem.W.codeIn K cd14 "nth_label" = true)
    (k14 : PySem.W.keepIn K (.ref f14) = true)
    (a15 : PySem.W.nsIn K mainGlobals "_law_deck" = some (some (.ref f15)))
    (l15 : K.lookup f15 = some ⟨oc15, od15, .func (PySem.W.fnOf "_law_deck" "_law_deck" (defArgs s__law_deck) (defBody s__law_deck) (defScope s__law_deck) .none kV15 dc15 pm15 an15 cd15 ct15), sl15⟩)
    (c15 : PySem.W.codeIn K cd15 "_law_deck" = true)
    (k15 : PySem.W.keepIn K (.ref f15) = true)
    (a16 : PySem.W.nsIn K mainGlobals "_law_draw" = some (some (.ref f16)))
    (l16 : K.lookup f16 = some ⟨oc16, od16, .func (PySem.W.fnOf "_law_draw" "_law_draw" (defArgs s__law_draw) (defBody s__law_draw) (defScope s__law_draw) .none kV16 dc16 pm16 an16 cd16 ct16), sl16⟩)
    (c16 : PySem.W.codeIn K cd16 "_law_draw" = true)
    (k16 : PySem.W.keepIn K (.ref f16) = true)
    (a17 : PySem.W.nsIn K mainGlobals "_law_pick" = some (some (.ref f17)))
    (l17 : K.lookup f17 = some ⟨oc17, od17, .func (PySem.W.fnOf "_law_pick" "_law_pick" (defArgs s__law_pick) (defBody s__law_pick) (defScope s__law_pick) .none kV17 dc17 pm17 an17 cd17 ct17), sl17⟩)
    (c17 : PySem.W.codeIn K cd17 "_law_pick" = true)
    (k17 : PySem.W.keepIn K (.ref f17) = true)
    (a18 : PySem.W.nsIn K mainGlobals "_law_same" = some (some (.ref f18)))
    (l18 : K.lookup f18 = some ⟨oc18, od18, .func (PySem.W.fnOf "_law_same" "_law_same" (defArgs s__law_same) (defBody s__law_same) (defScope s__law_same) .none kV18 dc18 pm18 an18 cd18 ct18), sl18⟩)
    (c18 : PySem.W.codeIn K cd18 "_law_same" = true)
    (k18 : PySem.W.keepIn K (.ref f18) = true)
    (a19 : PySem.W.nsIn K mainGlobals "_law_mixed" = some (some (.ref f19)))
    (l19 : K.lookup f19 = some ⟨oc19, od19, .func (PySem.W.fnOf "_law_mixed" "_law_mixed" (defArgs s__law_mixed) (defBody s__law_mixed) (defScope s__law_mixed) .none kV19 dc19 pm19 an19 cd19 ct19), sl19⟩)
    (c19 : PySem.W.codeIn K cd19 "_law_mixed" = true)
    (k19 : PySem.W.keepIn K (.ref f19) = true)
    (a20 : PySem.W.nsIn K mainGlobals "_law_tree" = some (some (.ref f20)))
    (l20 : K.lookup f20 = some ⟨oc20, od20, .func (PySem.W.fnOf "_law_tree" "_law_tree" (defArgs s__law_tree) (defBody s__law_tree) (defScope s__law_tree) .none kV20 dc20 pm20 an20 cd20 ct20), sl20⟩)
    (c20 : PySem.W.codeIn K cd20 "_law_tree" = true)
    (k20 : PySem.W.keepIn K (.ref f20) = true)
    (a21 : PySem.W.nsIn K mainGlobals "_law_drawn_tree" = some (some (.ref f21)))
    (l21 : K.lookup f21 = some ⟨oc21, od21, .func (PySem.W.fnOf "_law_drawn_tree" "_law_drawn_tree" (defArgs s__law_drawn_tree) (defBody s__law_drawn_tree) (defScope s__law_drawn_tree) .none kV21 dc21 pm21 an21 cd21 ct21), sl21⟩)
    (c21 : PySem.W.codeIn K cd21 "_law_drawn_tree" = true)
    (k21 : PySem.W.keepIn K (.ref f21) = true)
    (a22 : PySem.W.nsIn K mainGlobals "_law_nodes" = some (some (.ref f22)))
    (l22 : K.lookup f22 = some ⟨oc22, od22, .func (PySem.W.fnOf "_law_nodes" "_law_nodes" (defArgs s__law_nodes) (defBody s__law_nodes) (defScope s__law_nodes) .none kV22 dc22 pm22 an22 cd22 ct22), sl22⟩)
    (c22 : PySem.W.codeIn K cd22 "_law_nodes" = true)
    (k22 : PySem.W.keepIn K (.ref f22) = true)
    (a23 : PySem.W.nsIn K mainGlobals "_law_open" = some (some (.ref f23)))
    (l23 : K.lookup f23 = some ⟨oc23, od23, .func (PySem.W.fnOf "_law_open" "_law_open" (defArgs s__law_open) (defBody s__law_open) (defScope s__law_open) .none kV23 dc23 pm23 an23 cd23 ct23), sl23⟩)
    (c23 : PySem.W.codeIn K cd23 "_law_open" = true)
    (k23 : PySem.W.keepIn K (.ref f23) = true)
    (a24 : PySem.W.nsIn K mainGlobals "_law_nest" = some (some (.ref f24)))
    (l24 : K.lookup f24 = some ⟨oc24, od24, .func (PySem.W.fnOf "_law_nest" "_law_nest" (defArgs s__law_nest) (defBody s__law_nest) (defScope s__law_nest) .none kV24 dc24 pm24 an24 cd24 ct24), sl24⟩)
    (c24 : PySem.W.codeIn K cd24 "_law_nest" = true)
    (k24 : PySem.W.keepIn K (.ref f24) = true)
    (a25 : PySem.W.nsIn K mainGlobals "_law_sizes" = some (some (.ref f25)))
    (l25 : K.lookup f25 = some ⟨oc25, od25, .func (PySem.W.fnOf "_law_sizes" "_law_sizes" (defArgs s__law_sizes) (defBody s__law_sizes) (defScope s__law_sizes) .none kV25 dc25 pm25 an25 cd25 ct25), sl25⟩)
    (c25 : PySem.W.codeIn K cd25 "_law_sizes" = true)
    (k25 : PySem.W.keepIn K (.ref f25) = true)
    (a26 : PySem.W.nsIn K mainGlobals "_law_small_nest" = some (some (.ref f26)))
    (l26 : K.lookup f26 = some ⟨oc26, od26, .func (PySem.W.fnOf "_law_small_nest" "_law_small_nest" (defArgs s__law_small_nest) (defBody s__law_small_nest) (defScope s__law_small_nest) .none kV26 dc26 pm26 an26 cd26 ct26), sl26⟩)
    (c26 : PySem.W.codeIn K cd26 "_law_small_nest" = true)
    (k26 : PySem.W.keepIn K (.ref f26) = true)
    (a27 : PySem.W.nsIn K mainGlobals "_law_whole" = some (some (.ref f27)))
    (l27 : K.lookup f27 = some ⟨oc27, od27, .func (PySem.W.fnOf "_law_whole" "_law_whole" (defArgs s__law_whole) (defBody s__law_whole) (defScope s__law_whole) .none kV27 dc27 pm27 an27 cd27 ct27), sl27⟩)
    (c27 : PySem.W.codeIn K cd27 "_law_whole" = true)
    (k27 : PySem.W.keepIn K (.ref f27) = true)
    (a28 : PySem.W.nsIn K mainGlobals "_law_odd" = some (some (.ref f28)))
    (l28 : K.lookup f28 = some ⟨oc28, od28, .func (PySem.W.fnOf "_law_odd" "_law_odd" (defArgs s__law_odd) (defBody s__law_odd) (defScope s__law_odd) .none kV28 dc28 pm28 an28 cd28 ct28), sl28⟩)
    (c28 : PySem.W.codeIn K cd28 "_law_odd" = true)
    (k28 : PySem.W.keepIn K (.ref f28) = true)
    (a29 : PySem.W.nsIn K mainGlobals "_law_call" = some (some (.ref f29)))
    (l29 : K.lookup f29 = some ⟨oc29, od29, .func (PySem.W.fnOf "_law_call" "_law_call" (defArgs s__law_call) (defBody s__law_call) (defScope s__law_call) .none kV29 dc29 pm29 an29 cd29 ct29), sl29⟩)
    (c29 : PySem.W.codeIn K cd29 "_law_call" = true)
    (k29 : PySem.W.keepIn K (.ref f29) = true)
    (a30 : PySem.W.nsIn K mainGlobals "_law_is_alone" = some (some (.ref f30)))
    (l30 : K.lookup f30 = some ⟨oc30, od30, .func (PySem.W.fnOf "_law_is_alone" "_law_is_alone" (defArgs s__law_is_alone) (defBody s__law_is_alone) (defScope s__law_is_alone) .none kV30 dc30 pm30 an30 cd30 ct30), sl30⟩)
    (c30 : PySem.W.codeIn K cd30 "_law_is_alone" = true)
    (k30 : PySem.W.keepIn K (.ref f30) = true)
    (a31 : PySem.W.nsIn K mainGlobals "_law_told" = some (some (.ref f31)))
    (l31 : K.lookup f31 = some ⟨oc31, od31, .func (PySem.W.fnOf "_law_told" "_law_told" (defArgs s__law_told) (defBody s__law_told) (defScope s__law_told) .none kV31 dc31 pm31 an31 cd31 ct31), sl31⟩)
    (c31 : PySem.W.codeIn K cd31 "_law_told" = true)
    (k31 : PySem.W.keepIn K (.ref f31) = true)
    (a32 : PySem.W.nsIn K mainGlobals "law" = some (some (.ref f32)))
    (l32 : K.lookup f32 = some ⟨oc32, od32, .func (PySem.W.fnOf "law" "law" (defArgs s_law) (defBody s_law) (defScope s_law) .none kV32 dc32 pm32 an32 cd32 ct32), sl32⟩)
    (c32 : PySem.W.codeIn K cd32 "law" = true)
    (k32 : PySem.W.keepIn K (.ref f32) = true)
    (z1 : PySem.W.nsIn K mainGlobals "zip" = some none)
    (z2 : PySem.W.nsIn K mainGlobals "all" = some none)
    (z3 : PySem.W.nsIn K mainGlobals "repr" = some none)
    (z4 : PySem.W.nsIn K mainGlobals "sum" = some none)
    (z5 : PySem.W.nsIn K mainGlobals "len" = some none)
    (z6 : PySem.W.nsIn K mainGlobals "isinstance" = some none)
    (z7 : PySem.W.nsIn K mainGlobals "list" = some none)
    (z8 : PySem.W.nsIn K mainGlobals "tuple" = some none)
    (z9 : PySem.W.nsIn K mainGlobals "str" = some none)
    (z10 : PySem.W.nsIn K mainGlobals "int" = some none)
    (z11 : PySem.W.nsIn K mainGlobals "bool" = some none)
    (z12 : PySem.W.nsIn K mainGlobals "dict" = some none)
    (z13 : PySem.W.nsIn K mainGlobals "range" = some none)
    (z14 : PySem.W.nsIn K mainGlobals "sorted" = some none)
    (z15 : PySem.W.nsIn K mainGlobals "abs" = some none)
    (z16 : PySem.W.nsIn K mainGlobals "min" = some none)
    (z17 : PySem.W.nsIn K mainGlobals "max" = some none)
    (z18 : PySem.W.nsIn K mainGlobals "LookupError" = some none)
    (z19 : PySem.W.nsIn K mainGlobals "ValueError" = some none)
    : ∀ (base : Heap) (H : Hp) (s : Shared) (a : Addr) (ns : List Int), K.In base → base.Ns mainGlobals mg → Env0 l.prog w K mg base callerA [] s H → SqL K H a (ns.map V.int) → ns.length ≤ 63 →
      codeAny (model l.prog w) callerA (.call (.ref fa) ⟨[.ref a], []⟩) (CR CX0 [] l.prog w H s (fun v _ => v = .bl true) fun _ _ _ => False) s := by
  intro base H s a ns _ _ en hS hn
  have e := hfa.symm.trans (PySem.W.mg_of X G a32)
  cases e
  have gC_NoPlace := PySem.W.mg_of X G a_NoPlace
  have gC_NoIndex := PySem.W.mg_of X G a_NoIndex
  have gC_NoPath := PySem.W.mg_of X G a_NoPath
  have gC_NoKind := PySem.W.mg_of X G a_NoKind
  have gC_NoVersion := PySem.W.mg_of X G a_NoVersion
  have F1 := fun_mk (st := s_is_whole_number) l1 c1 k1
  have g1 := PySem.W.mg_of X G a1
  have F2 := fun_mk (st := s_is_index) l2 c2 k2
  have g2 := PySem.W.mg_of X G a2
  have F3 := fun_mk (st := s_spots_of) l3 c3 k3
  have g3 := PySem.W.mg_of X G a3
  have F4 := fun_mk (st := s_add_spots) l4 c4 k4
  have g4 := PySem.W.mg_of X G a4
  have F5 := fun_mk (st := s_counts_in) l5 c5 k5
  have g5 := PySem.W.mg_of X G a5
  have F6 := fun_mk (st := s_count_label) l6 c6 k6
  have g6 := PySem.W.mg_of X G a6
  have F7 := fun_mk (st := s_turned) l7 c7 k7
  have g7 := PySem.W.mg_of X G a7
  have F8 := fun_mk (st := s_way_to) l8 c8 k8
  have g8 := PySem.W.mg_of X G a8
  have F9 := fun_mk (st := s_place_on) l9 c9 k9
  have g9 := PySem.W.mg_of X G a9
  have F10 := fun_mk (st := s_label_on) l10 c10 k10
  have g10 := PySem.W.mg_of X G a10
  have F11 := fun_mk (st := s_way_at) l11 c11 k11
  have g11 := PySem.W.mg_of X G a11
  have F12 := fun_mk (st := s_label_in) l12 c12 k12
  have g12 := PySem.W.mg_of X G a12
  have F13 := fun_mk (st := s_other_place) l13 c13 k13
  have g13 := PySem.W.mg_of X G a13
  have F14 := fun_mk (st := s_nth_label) l14 c14 k14
  have g14 := PySem.W.mg_of X G a14
  have F15 := fun_mk (st := s__law_deck) l15 c15 k15
  have g15 := PySem.W.mg_of X G a15
  have F16 := fun_mk (st := s__law_draw) l16 c16 k16
  have g16 := PySem.W.mg_of X G a16
  have F17 := fun_mk (st := s__law_pick) l17 c17 k17
  have g17 := PySem.W.mg_of X G a17
  have F18 := fun_mk (st := s__law_same) l18 c18 k18
  have g18 := PySem.W.mg_of X G a18
  have F19 := fun_mk (st := s__law_mixed) l19 c19 k19
  have g19 := PySem.W.mg_of X G a19
  have F20 := fun_mk (st := s__law_tree) l20 c20 k20
  have g20 := PySem.W.mg_of X G a20
  have F21 := fun_mk (st := s__law_drawn_tree) l21 c21 k21
  have g21 := PySem.W.mg_of X G a21
  have F22 := fun_mk (st := s__law_nodes) l22 c22 k22
  have g22 := PySem.W.mg_of X G a22
  have F23 := fun_mk (st := s__law_open) l23 c23 k23
  have g23 := PySem.W.mg_of X G a23
  have F24 := fun_mk (st := s__law_nest) l24 c24 k24
  have g24 := PySem.W.mg_of X G a24
  have F25 := fun_mk (st := s__law_sizes) l25 c25 k25
  have g25 := PySem.W.mg_of X G a25
  have F26 := fun_mk (st := s__law_small_nest) l26 c26 k26
  have g26 := PySem.W.mg_of X G a26
  have F27 := fun_mk (st := s__law_whole) l27 c27 k27
  have g27 := PySem.W.mg_of X G a27
  have F28 := fun_mk (st := s__law_odd) l28 c28 k28
  have g28 := PySem.W.mg_of X G a28
  have F29 := fun_mk (st := s__law_call) l29 c29 k29
  have g29 := PySem.W.mg_of X G a29
  have F30 := fun_mk (st := s__law_is_alone) l30 c30 k30
  have g30 := PySem.W.mg_of X G a30
  have F31 := fun_mk (st := s__law_told) l31 c31 k31
  have g31 := PySem.W.mg_of X G a31
  have F32 := fun_mk (st := s_law) l32 c32 k32
  have m_zip := PySem.W.mg_none_of X G z1
  have m_all := PySem.W.mg_none_of X G z2
  have m_repr := PySem.W.mg_none_of X G z3
  have m_sum := PySem.W.mg_none_of X G z4
  have m_len := PySem.W.mg_none_of X G z5
  have m_isinstance := PySem.W.mg_none_of X G z6
  have m_list := PySem.W.mg_none_of X G z7
  have m_tuple := PySem.W.mg_none_of X G z8
  have m_str := PySem.W.mg_none_of X G z9
  have m_int := PySem.W.mg_none_of X G z10
  have m_bool := PySem.W.mg_none_of X G z11
  have m_dict := PySem.W.mg_none_of X G z12
  have m_range := PySem.W.mg_none_of X G z13
  have m_sorted := PySem.W.mg_none_of X G z14
  have m_abs := PySem.W.mg_none_of X G z15
  have m_min := PySem.W.mg_none_of X G z16
  have m_max := PySem.W.mg_none_of X G z17
  have m_LookupError := PySem.W.mg_none_of X G z18
  have m_ValueError := PySem.W.mg_none_of X G z19
  have b1 := F1.binds (ps := ["value"]) fun _ _ _ _ _ _ us hl => match us, hl with | [_], _ => rfl
  have b2 := F2.binds (ps := ["value", "many"]) fun _ _ _ _ _ _ us hl => match us, hl with | [_, _], _ => rfl
  have b3 := F3.binds (ps := ["nest"]) fun _ _ _ _ _ _ us hl => match us, hl with | [_], _ => rfl
  have b4 := F4.binds (ps := ["spots", "tree", "path", "hung"]) fun _ _ _ _ _ _ us hl => match us, hl with | [_, _, _, _], _ => rfl
  have b5 := F5.binds (ps := ["spots", "letters"]) fun _ _ _ _ _ _ us hl => match us, hl with | [_, _], _ => rfl
  have b6 := F6.binds (ps := ["nest", "label"]) fun _ _ _ _ _ _ us hl => match us, hl with | [_, _], _ => rfl
  have b7 := F7.binds (ps := ["spots", "counts", "at", "turn"]) fun _ _ _ _ _ _ us hl => match us, hl with | [_, _, _, _], _ => rfl
  have b8 := F8.binds (ps := ["spots", "counts", "kind", "index"]) fun _ _ _ _ _ _ us hl => match us, hl with | [_, _, _, _], _ => rfl
  have b9 := F9.binds (ps := ["spots", "sizes", "kind", "way"]) fun _ _ _ _ _ _ us hl => match us, hl with | [_, _, _, _], _ => rfl
  have b10 := F10.binds (ps := ["spots", "way"]) fun _ _ _ _ _ _ us hl => match us, hl with | [_, _], _ => rfl
  have b11 := F11.binds (ps := ["spots", "sizes", "kind", "place"]) fun _ _ _ _ _ _ us hl => match us, hl with | [_, _, _, _], _ => rfl
  have b12 := F12.binds (ps := ["nest", "kind", "place"]) fun _ _ _ _ _ _ us hl => match us, hl with | [_, _, _], _ => rfl
  have b13 := F13.binds (ps := ["nest", "kind", "place", "other"]) fun _ _ _ _ _ _ us hl => match us, hl with | [_, _, _, _], _ => rfl
  have b14 := F14.binds (ps := ["nest", "kind", "label", "index"]) fun _ _ _ _ _ _ us hl => match us, hl with | [_, _, _, _], _ => rfl
  have b15 := F15.binds (ps := ["_law_script"]) fun _ _ _ _ _ _ us hl => match us, hl with | [_], _ => rfl
  have b16 := F16.binds (ps := ["_law_deck_here", "_law_many"]) fun _ _ _ _ _ _ us hl => match us, hl with | [_, _], _ => rfl
  have b17 := F17.binds (ps := ["_law_deck_here", "_law_items"]) fun _ _ _ _ _ _ us hl => match us, hl with | [_, _], _ => rfl
  have b18 := F18.binds (ps := ["_law_found", "_law_due"]) fun _ _ _ _ _ _ us hl => match us, hl with | [_, _], _ => rfl
  have b19 := F19.binds (ps := ["_law_deck_here", "_law_items"]) fun _ _ _ _ _ _ us hl => match us, hl with | [_, _], _ => rfl
  have b20 := F20.binds (ps := ["_law_deck_here", "_law_size", "_law_style", "_law_letters"]) fun _ _ _ _ _ _ us hl => match us, hl with | [_, _, _, _], _ => rfl
  have b21 := F21.binds (ps := ["_law_deck_here", "_law_limit"]) fun _ _ _ _ _ _ us hl => match us, hl with | [_, _], _ => rfl
  have b22 := F22.binds (ps := ["_law_tree_here", "_law_path"]) fun _ _ _ _ _ _ us hl => match us, hl with | [_, _], _ => rfl
  have b23 := F23.binds (ps := ["_law_tree_here"]) fun _ _ _ _ _ _ us hl => match us, hl with | [_], _ => rfl
  have b24 := F24.binds (ps := ["_law_deck_here", "_law_entries", "_law_limit", "_law_few"]) fun _ _ _ _ _ _ us hl => match us, hl with | [_, _, _, _], _ => rfl
  have b25 := F25.binds (ps := ["_law_nest_here"]) fun _ _ _ _ _ _ us hl => match us, hl with | [_], _ => rfl
  have b26 := F26.binds (ps := ["_law_deck_here", "_law_limit"]) fun _ _ _ _ _ _ us hl => match us, hl with | [_, _], _ => rfl
  have b27 := F27.binds (ps := ["_law_value", "_law_low", "_law_high"]) fun _ _ _ _ _ _ us hl => match us, hl with | [_, _, _], _ => rfl
  have b28 := F28.binds (ps := ["_law_deck_here"]) fun _ _ _ _ _ _ us hl => match us, hl with | [_], _ => rfl
  have b29 := F29.binds (ps := ["_law_door", "_law_nest_here", "_law_value", "_law_letter"]) fun _ _ _ _ _ _ us hl => match us, hl with | [_, _, _, _], _ => rfl
  have b30 := F30.binds (ps := ["_law_error"]) fun _ _ _ _ _ _ us hl => match us, hl with | [_], _ => rfl
  have b31 := F31.binds (ps := ["_law_door", "_law_nest_here", "_law_value", "_law_letter"]) fun _ _ _ _ _ _ us hl => match us, hl with | [_, _, _, _], _ => rfl
  have E_NoPlace : Err_value K mg "LookupError.__new__" leT "NoPlace" "NoPlace.__init__" C_NoPlace i_NoPlace :=
    { gC := gC_NoPlace, nd := by decide +kernel, cls := ⟨nm_NoPlace, q_NoPlace, N_NoPlace, bs_NoPlace, _, sn_NoPlace, sub_NoPlace, ab_NoPlace, col_NoPlace, dd_NoPlace, m0_NoPlace, m1_NoPlace, m2_NoPlace, m3_NoPlace, m5_NoPlace, x_NoPlace, by first | rfl | decide +kernel⟩, sa := sa_NoPlace, ga := ga_NoPlace, gg := gg_NoPlace, noN := nb_NoPlace, iC := ii_NoPlace, tC := ti_NoPlace, kC := kC_NoPlace, exC := eC_NoPlace, tyC := tC_NoPlace, hdC := hC_NoPlace,
      fn := ⟨_, _, _, _, _, _, _, _, _, _, _, _, _, _, li_NoPlace, ci_NoPlace⟩ }
  have E_NoIndex : Err_value K mg "LookupError.__new__" leT "NoIndex" "NoIndex.__init__" C_NoIndex i_NoIndex :=
    { gC := gC_NoIndex, nd := by decide +kernel, cls := ⟨nm_NoIndex, q_NoIndex, N_NoIndex, bs_NoIndex, _, sn_NoIndex, sub_NoIndex, ab_NoIndex, col_NoIndex, dd_NoIndex, m0_NoIndex, m1_NoIndex, m2_NoIndex, m3_NoIndex, m5_NoIndex, x_NoIndex, by first | rfl | decide +kernel⟩, sa := sa_NoIndex, ga := ga_NoIndex, gg := gg_NoIndex, noN := nb_NoIndex, iC := ii_NoIndex, tC := ti_NoIndex, kC := kC_NoIndex, exC := eC_NoIndex, tyC := tC_NoIndex, hdC := hC_NoIndex,
      fn := ⟨_, _, _, _, _, _, _, _, _, _, _, _, _, _, li_NoIndex, ci_NoIndex⟩ }
  have X_NoPlace : ExcC K C_NoPlace := ⟨ga_NoPlace, gg_NoPlace, eC_NoPlace, hC_NoPlace, h1_NoPlace, h2_NoPlace, h3_NoPlace, h4_NoPlace⟩
  have X_NoIndex : ExcC K C_NoIndex := ⟨ga_NoIndex, gg_NoIndex, eC_NoIndex, hC_NoIndex, h1_NoIndex, h2_NoIndex, h3_NoIndex, h4_NoIndex⟩
  have M : Mgs mg := ⟨m_zip, m_all, m_repr, m_sum, m_len, m_isinstance, m_list, m_tuple, m_str, m_int, m_bool, m_dict, m_range, m_sorted, m_abs, m_min, m_max⟩
  have mLET := PySem.W.mg_of X G aLn
  have TT : Turns K w mg aT := ⟨PySem.W.mg_of X G aTn, fun k => by
    cases k
    · exact ⟨bT1, ⟨esT, nT, .ref bT1, aTl, aTk, aT1, rfl⟩, fun H => by rw [turns_first]; exact .inr ⟨_, _, _, bT1l, rfl, rfl, (by show 3 ≤ sizeLine; decide), .cons ⟨_, rfl⟩ (.cons ⟨_, rfl⟩ (.cons ⟨_, rfl⟩ .nil))⟩⟩
    · exact ⟨bT2, ⟨esT, nT, .ref bT2, aTl, aTk, aT2, rfl⟩, fun H => by rw [turns_between]; exact .inr ⟨_, _, _, bT2l, rfl, rfl, (by show 3 ≤ sizeLine; decide), .cons ⟨_, rfl⟩ (.cons ⟨_, rfl⟩ (.cons ⟨_, rfl⟩ .nil))⟩⟩
    · exact ⟨bT3, ⟨esT, nT, .ref bT3, aTl, aTk, aT3, rfl⟩, fun H => by rw [turns_last]; exact .inr ⟨_, _, _, bT3l, rfl, rfl, (by show 3 ≤ sizeLine; decide), .cons ⟨_, rfl⟩ (.cons ⟨_, rfl⟩ (.cons ⟨_, rfl⟩ .nil))⟩⟩⟩
  have Dadd_spots : Df l.prog w K mg base 30 "add_spots" ["spots", "tree", "path", "hung"] (spAdd 30) := ⟨f4, _, ok_add F4 M b4 g4 30, b4, k4, g4⟩
  have Dspots_of : Df l.prog w K mg base 31 "spots_of" ["nest"] (spSpots K) := ⟨f3, _, ok_spots F3 Dadd_spots, b3, k3, g3⟩
  have Dcounts_in : Df l.prog w K mg base 1 "counts_in" ["spots", "letters"] spCounts := ⟨f5, _, ok_counts (k := 0) F5, b5, k5, g5⟩
  have Dcount_label : Df l.prog w K mg base 32 "count_label" ["nest", "label"] (spLab K) := ⟨f6, _, ok_clabel F6 Dspots_of Dcounts_in, b6, k6, g6⟩
  have Dis_whole_number : Df l.prog w K mg base 1 "is_whole_number" ["value"] spWhole := ⟨f1, _, ok_whole (k := 0) F1 M, b1, k1, g1⟩
  have Dis_index : Df l.prog w K mg base 2 "is_index" ["value", "many"] spIndex := ⟨f2, _, ok_index (k := 0) F2 Dis_whole_number, b2, k2, g2⟩
  have Dturned : Df l.prog w K mg base 1 "turned" ["spots", "counts", "at", "turn"] spTurned := ⟨f7, _, ok_turned (k := 0) F7, b7, k7, g7⟩
  have Dway_to : Df l.prog w K mg base 2 "way_to" ["spots", "counts", "kind", "index"] (spWay K) := ⟨f8, _, ok_way F8 M TT Dturned, b8, k8, g8⟩
  have Dplace_on : Df l.prog w K mg base 2 "place_on" ["spots", "sizes", "kind", "way"] spPlaceOn := ⟨f9, _, ok_placeOn F9 M TT Dturned, b9, k9, g9⟩
  have Dway_at : Df l.prog w K mg base 3 "way_at" ["spots", "sizes", "kind", "place"] (spWayAt K) := ⟨f11, _, ok_wayAt F11 Dis_index Dway_to, b11, k11, g11⟩
  have Dlabel_on : Df l.prog w K mg base 1 "label_on" ["spots", "way"] spLabOn := ⟨f10, _, ok_labOn (k := 0) F10 M, b10, k10, g10⟩
  have Dlabel_in : Df l.prog w K mg base 32 "label_in" ["nest", "kind", "place"] spLabIn := ⟨f12, _, ok_labIn F12 mLET Dspots_of Dcounts_in Dlabel_on Dway_at, b12, k12, g12⟩
  have Dother_place : Df l.prog w K mg base 32 "other_place" ["nest", "kind", "place", "other"] spOther := ⟨f13, _, ok_other F13 mLET Dspots_of Dcounts_in Dplace_on Dway_at, b13, k13, g13⟩
  have Dnth_label : Df l.prog w K mg base 32 "nth_label" ["nest", "kind", "label", "index"] spNth := ⟨f14, _, ok_nth F14 mLET Dspots_of Dcounts_in Dis_index Dplace_on Dway_to, b14, k14, g14⟩
  have D_law_deck : Df l.prog w K mg base 1 "_law_deck" ["_law_script"] (spDeck K) := ⟨f15, _, ok_deck (k := 0) F15 M, b15, k15, g15⟩
  have D_law_draw : Df l.prog w K mg base 1 "_law_draw" ["_law_deck_here", "_law_many"] spDraw := ⟨f16, _, ok_draw (k := 0) F16 M, b16, k16, g16⟩
  have D_law_pick : Df l.prog w K mg base 2 "_law_pick" ["_law_deck_here", "_law_items"] (spPick K) := ⟨f17, _, ok_pick (k := 0) F17 M D_law_draw, b17, k17, g17⟩
  have D_law_mixed : Df l.prog w K mg base 2 "_law_mixed" ["_law_deck_here", "_law_items"] spMixed := ⟨f19, _, ok_mixed (k := 0) F19 M D_law_draw, b19, k19, g19⟩
  have D_law_tree : Df l.prog w K mg base 33 "_law_tree" ["_law_deck_here", "_law_size", "_law_style", "_law_letters"] (spTree 30) := ⟨f20, _, ok_tree F20 b20 g20 D_law_draw D_law_pick 30, b20, k20, g20⟩
  have D_law_drawn_tree : Df l.prog w K mg base 34 "_law_drawn_tree" ["_law_deck_here", "_law_limit"] spDrawn := ⟨f21, _, ok_drawn F21 D_law_draw D_law_pick D_law_tree, b21, k21, g21⟩
  have D_law_nodes40 : Df l.prog w K mg base 40 "_law_nodes" ["_law_tree_here", "_law_path"] (spNodes 40) := ⟨f22, _, ok_nodes F22 b22 g22 40, b22, k22, g22⟩
  have D_law_nodes : Df l.prog w K mg base 70 "_law_nodes" ["_law_tree_here", "_law_path"] (spNodes 70) := ⟨f22, _, ok_nodes F22 b22 g22 70, b22, k22, g22⟩
  have D_law_open : Df l.prog w K mg base 41 "_law_open" ["_law_tree_here"] spOpen := ⟨f23, _, ok_open F23 D_law_nodes40, b23, k23, g23⟩
  have D_law_nest : Df l.prog w K mg base 42 "_law_nest" ["_law_deck_here", "_law_entries", "_law_limit", "_law_few"] spNest := ⟨f24, _, ok_nest F24 M D_law_draw D_law_pick D_law_mixed D_law_drawn_tree D_law_open, b24, k24, g24⟩
  have D_law_sizes : Df l.prog w K mg base 41 "_law_sizes" ["_law_nest_here"] spSizes := ⟨f25, _, ok_sizes F25 M m_sum D_law_nodes40, b25, k25, g25⟩
  have D_law_small_nest : Df l.prog w K mg base 43 "_law_small_nest" ["_law_deck_here", "_law_limit"] spSmall := ⟨f26, _, ok_small F26 D_law_nest D_law_sizes, b26, k26, g26⟩
  have kPP : PySem.W.kitOne K (.ref C_NoPlace) (.ref C_NoPlace) = some true := by unfold PySem.W.kitOne; rw [if_pos (by simp)]
  have kII : PySem.W.kitOne K (.ref C_NoIndex) (.ref C_NoIndex) = some true := by unfold PySem.W.kitOne; rw [if_pos (by simp)]
  have EA : ErrA K mg C_NoPlace C_NoIndex C_NoPath C_NoKind C_NoVersion := ⟨gC_NoPlace, gC_NoIndex, gC_NoPath, gC_NoKind, gC_NoVersion, m_LookupError, m_ValueError, X_NoPlace, X_NoIndex, kPL, kIL, aPn, aIn, kPP, kPI, kIP, kII, ePP, eIP, eII⟩
  have DQwhole : Df l.prog w K mg base 1 "is_whole_number" ["value"] spWholeQ := ⟨f1, _, ok_wholeQ (k := 0) F1 M, b1, k1, g1⟩
  have DQindex : Df l.prog w K mg base 2 "is_index" ["value", "many"] spIndexQ := ⟨f2, _, ok_indexQ (k := 0) F2 M DQwhole, b2, k2, g2⟩
  have DXway_at : DfX l.prog w K mg base 3 "way_at" ["spots", "sizes", "kind", "place"] (spWayAtX C_NoPlace) := ⟨f11, _, ok_wayAtX F11 E_NoPlace DQindex, b11, k11, g11⟩
  have DXlabel_in : DfX l.prog w K mg base 32 "label_in" ["nest", "kind", "place"] (spLabInX C_NoPlace) := ⟨f12, _, ok_labInX F12 mLET Dspots_of Dcounts_in Dlabel_on DXway_at, b12, k12, g12⟩
  have DXother_place : DfX l.prog w K mg base 32 "other_place" ["nest", "kind", "place", "other"] (spOtherX C_NoPlace) := ⟨f13, _, ok_otherX F13 mLET Dspots_of Dcounts_in Dplace_on DXway_at, b13, k13, g13⟩
  have DXnth_label : DfX l.prog w K mg base 32 "nth_label" ["nest", "kind", "label", "index"] (spNthX C_NoIndex) := ⟨f14, _, ok_nthX F14 E_NoIndex Dspots_of Dcounts_in DQindex, b14, k14, g14⟩
  have D_law_call : DfX l.prog w K mg base 33 "_law_call" ["_law_door", "_law_nest_here", "_law_value", "_law_letter"] (spCall C_NoPlace C_NoIndex) := ⟨f29, _, ok_callL F29 Dlabel_in Dother_place Dnth_label DXlabel_in DXother_place DXnth_label, b29, k29, g29⟩
  have D_law_is_alone : DfM l.prog w K mg base 1 "_law_is_alone" ["_law_error"] (spAlone C_NoPlace C_NoIndex) := ⟨f30, _, ok_alone F30 M EA, b30, k30, g30⟩
  have D_law_told : Df l.prog w K mg base 34 "_law_told" ["_law_door", "_law_nest_here", "_law_value", "_law_letter"] spTold := ⟨f31, _, ok_told F31 M EA E_NoPlace E_NoIndex D_law_call D_law_is_alone, b31, k31, g31⟩
  have D_law_odd : Df l.prog w K mg base 3 "_law_odd" ["_law_deck_here"] spOdd := ⟨f28, _, ok_odd F28 D_law_pick, b28, k28, g28⟩
  have D_law_whole : Df l.prog w K mg base 1 "_law_whole" ["_law_value", "_law_low", "_law_high"] spFrom := ⟨f27, _, ok_lwhole (k := 0) F27 M, b27, k27, g27⟩
  have D_law_same : DfG l.prog w K mg base 1 "_law_same" ["_law_found", "_law_due"] spSameQ := ⟨f18, _, ok_sameQ (k := 0) F18 M, b18, k18, g18⟩
  exact run_law F32 (.of_eq rfl) en hS M D_law_deck D_law_small_nest D_law_nest D_law_sizes Dcount_label D_law_odd D_law_draw D_law_whole D_law_told D_law_same
theorem walk_at {l : PySem.W.OpenLaw} {q : Program} {loose : List Str} {XP : (Str → Option Value) → Heap → Prop} {YP : World → Heap → Prop} {d : DefRec} {K : Params → PySem.W.Frag} (most : l.most = some 63) (noDf : d.params.defaults = [])
    (inK : ∀ (w : World) (h : Heap), YP w h → (K w.params).In h)
    (F : ∀ (w : World) (mg : Str → Option Value) (fa : Addr) (h : Heap), (K w.params).In h → h.Ns mainGlobals mg → mg d.name = some (.ref fa) →
      ∀ (base : Heap) (H : Hp) (s : Shared) (a : Addr) (ns : List Int), (K w.params).In base → base.Ns mainGlobals mg → Env0 l.prog w (K w.params) mg base callerA [] s H → SqL (K w.params) H a (ns.map V.int) → ns.length ≤ 63 →
        codeAny (model l.prog w) callerA (.call (.ref fa) ⟨[.ref a], []⟩) (CR CX0 [] l.prog w H s (fun v _ => v = .bl true) fun _ _ _ => False) s) :
    PySem.W.WalkO q loose XP YP l.row.toRowW d [] (fun f vs => PySem.call f vs) := by
  refine Att.attach_call most noDf ?_
  intro w s₀ s₁ mg mb fa o pm cd doc a vs ns G Y ho hd hcd hmg hobj hints hlen hg
  exact law_at (inK w _ Y) G.T.g G.T.b G.T.builtins G.T.nolimit hg hobj hints (Nat.le_trans hlen (by decide)) fun base H h1 h2 en hS => F w mg fa _ (inK w _ Y) G.T.g hmg base H s₁ a ns h1 h2 en hS hlen
end Tw
open PySem PySem.W PyProof.Rows
set_option maxRecDepth 100000 in
set_option maxHeartbeats 0 in
theorem PySem.Challenge.cw_treewalks_k50_errors_of_nests_holds : PySem.Challenge.rw_treewalks_k50_errors_of_nests.Holds := by
  w_on; o_law; k_head; (case hw => w_witness2)
  k_fill
  refine Tw.walk_at (l := PySem.Challenge.rw_treewalks_k50_errors_of_nests) rfl rfl (fun w h Y => by first | exact PySem.W.kIn_of Y | exact PySem.W.km_in_of Y) ?F
  case F =>
    intro w mg fa h KX G hmg
    refine' Tw.all_mk KX G hmg ?a_NoPlace ?a_NoIndex ?a_NoPath ?a_NoKind ?a_NoVersion ?x_NoPlace ?sa_NoPlace ?ga_NoPlace ?gg_NoPlace ?nb_NoPlace ?ii_NoPlace ?ti_NoPlace ?li_NoPlace ?ci_NoPlace ?kC_NoPlace ?eC_NoPlace ?tC_NoPlace ?hC_NoPlace ?h1_NoPlace ?h2_NoPlace ?h3_NoPlace ?h4_NoPlace ?x_NoIndex ?sa_NoIndex ?ga_NoIndex ?gg_NoIndex ?nb_NoIndex ?ii_NoIndex ?ti_NoIndex ?li_NoIndex ?ci_NoIndex ?kC_NoIndex ?eC_NoIndex ?tC_NoIndex ?hC_NoIndex ?h1_NoIndex ?h2_NoIndex ?h3_NoIndex ?h4_NoIndex ?aLn ?aTn ?aTl ?aTk ?aT1 ?bT1l ?aT2 ?bT2l ?aT3 ?bT3l ?kPL ?kIL ?aPn ?aIn ?kPI ?kIP ?eIP ?ePP ?eII ?a1 ?l1 ?c1 ?k1 ?a2 ?l2 ?c2 ?k2 ?a3 ?l3 ?c3 ?k3 ?a4 ?l4 ?c4 ?k4 ?a5 ?l5 ?c5 ?k5 ?a6 ?l6 ?c6 ?k6 ?a7 ?l7 ?c7 ?k7 ?a8 ?l8 ?c8 ?k8 ?a9 ?l9 ?c9 ?k9 ?a10 ?l10 ?c10 ?k10 ?a11 ?l11 ?c11 ?k11 ?a12 ?l12 ?c12 ?k12 ?a13 ?l13 ?c13 ?k13 ?a14 ?l14 ?c14 ?k14 ?a15 ?l15 ?c15 ?k15 ?a16 ?l16 ?c16 ?k16 ?a17 ?l17 ?c17 ?k17 ?a18 ?l18 ?c18 ?k18 ?a19 ?l19 ?c19 ?k19 ?a20 ?l20 ?c20 ?k20 ?a21 ?l21 ?c21 ?k21 ?a22 ?l22 ?c22 ?k22 ?a23 ?l23 ?c23 ?k23 ?a24 ?l24 ?c24 ?k24 ?a25 ?l25 ?c25 ?k25 ?a26 ?l26 ?c26 ?k26 ?a27 ?l27 ?c27 ?k27 ?a28 ?l28 ?c28 ?k28 ?a29 ?l29 ?c29 ?k29 ?a30 ?l30 ?c30 ?k30 ?a31 ?l31 ?c31 ?k31 ?a32 ?l32 ?c32 ?k32 ?z1 ?z2 ?z3 ?z4 ?z5 ?z6 ?z7 ?z8 ?z9 ?z10 ?z11 ?z12 ?z13 ?z14 ?z15 ?z16 ?z17 ?z18 ?z19
    (case a_NoPlace => k_is)
    (case a_NoIndex => k_is)
    (case a_NoPath => k_is)
    (case a_NoKind => k_is)
    (case a_NoVersion => k_is)
    (case x_NoPlace => k_is)
    (case sa_NoPlace => k_is)
    (case ga_NoPlace => k_is)
    (case gg_NoPlace => k_is)
    (case nb_NoPlace => k_is)
    (case ii_NoPlace => k_is)
    (case ti_NoPlace => k_is)
    (case li_NoPlace => k_is)
    (case ci_NoPlace => k_is)
    (case kC_NoPlace => k_is)
    (case eC_NoPlace => k_is)
    (case tC_NoPlace => k_is)
    (case hC_NoPlace => k_is)
    (case h1_NoPlace => k_is)
    (case h2_NoPlace => k_is)
    (case h3_NoPlace => k_is)
    (case h4_NoPlace => k_is)
    (case x_NoIndex => k_is)
    (case sa_NoIndex => k_is)
    (case ga_NoIndex => k_is)
    (case gg_NoIndex => k_is)
    (case nb_NoIndex => k_is)
    (case ii_NoIndex => k_is)
    (case ti_NoIndex => k_is)
    (case li_NoIndex => k_is)
    (case ci_NoIndex => k_is)
    (case kC_NoIndex => k_is)
    (case eC_NoIndex => k_is)
    (case tC_NoIndex => k_is)
    (case hC_NoIndex => k_is)
    (case h1_NoIndex => k_is)
    (case h2_NoIndex => k_is)
    (case h3_NoIndex => k_is)
    (case h4_NoIndex => k_is)
    (case aLn => first | k_is | rfl | decide +kernel)
    (case aTn => first | k_is | rfl | decide +kernel)
    (case aTl => first | k_is | rfl | decide +kernel)
    (case aTk => exact ⟨⟨_, _, rfl, rfl⟩, ⟨_, _, rfl, rfl⟩, ⟨_, _, rfl, rfl⟩, trivial⟩)
    (case aT1 => first | k_is | rfl | decide +kernel)
    (case bT1l => first | k_is | rfl | decide +kernel)
    (case aT2 => first | k_is | rfl | decide +kernel)
    (case bT2l => first | k_is | rfl | decide +kernel)
    (case aT3 => first | k_is | rfl | decide +kernel)
    (case bT3l => first | k_is | rfl | decide +kernel)
    (case kPL => first | k_is | rfl | decide +kernel)
    (case kIL => first | k_is | rfl | decide +kernel)
    (case aPn => first | k_is | rfl | decide +kernel)
    (case aIn => first | k_is | rfl | decide +kernel)
    (case kPI => first | k_is | rfl | decide +kernel)
    (case kIP => first | k_is | rfl | decide +kernel)
    (case eIP => first | k_is | rfl | decide +kernel)
    (case ePP => first | k_is | rfl | decide +kernel)
    (case eII => first | k_is | rfl | decide +kernel)
    (case a1 => k_is)
    (case l1 => k_is)
    (case c1 => k_is)
    (case k1 => k_is)
    (case a2 => k_is)
    (case l2 => k_is)
    (case c2 => k_is)
    (case k2 => k_is)
    (case a3 => k_is)
    (case l3 => k_is)
    (case c3 => k_is)
    (case k3 => k_is)
    (case a4 => k_is)
    (case l4 => k_is)
    (case c4 => k_is)
    (case k4 => k_is)
    (case a5 => k_is)
    (case l5 => k_is)
    (case c5 => k_is)
    (case k5 => k_is)
    (case a6 => k_is)
    (case l6 => k_is)
    (case c6 => k_is)
    (case k6 => k_is)
    (case a7 => k_is)
    (case l7 => k_is)
    (case c7 => k_is)
    (case k7 => k_is)
    (case a8 => k_is)
    (case l8 => k_is)
    (case c8 => k_is)
    (case k8 => k_is)
    (case a9 => k_is)
    (case l9 => k_is)
    (case c9 => k_is)
    (case k9 => k_is)
    (case a10 => k_is)
    (case l10 => k_is)
    (case c10 => k_is)
    (case k10 => k_is)
    (case a11 => k_is)
    (case l11 => k_is)
    (case c11 => k_is)
    (case k11 => k_is)
    (case a12 => k_is)
    (case l12 => k_is)
    (case c12 => k_is)
    (case k12 => k_is)
    (case a13 => k_is)
    (case l13 => k_is)
    (case c13 => k_is)
    (case k13 => k_is)
    (case a14 => k_is)
    (case l14 => k_is)
    (case c14 => k_is)
    (case k14 => k_is)
    (case a15 => k_is)
    (case l15 => k_is)
    (case c15 => k_is)
    (case k15 => k_is)
    (case a16 => k_is)
    (case l16 => k_is)
    (case c16 => k_is)
    (case k16 => k_is)
    (case a17 => k_is)
    (case l17 => k_is)
    (case c17 => k_is)
    (case k17 => k_is)
    (case a18 => k_is)
    (case l18 => k_is)
    (case c18 => k_is)
    (case k18 => k_is)
    (case a19 => k_is)
    (case l19 => k_is)
    (case c19 => k_is)
    (case k19 => k_is)
    (case a20 => k_is)
    (case l20 => k_is)
    (case c20 => k_is)
    (case k20 => k_is)
    (case a21 => k_is)
    (case l21 => k_is)
    (case c21 => k_is)
    (case k21 => k_is)
    (case a22 => k_is)
    (case l22 => k_is)
    (case c22 => k_is)
    (case k22 => k_is)
    (case a23 => k_is)
    (case l23 => k_is)
    (case c23 => k_is)
    (case k23 => k_is)
    (case a24 => k_is)
    (case l24 => k_is)
    (case c24 => k_is)
    (case k24 => k_is)
    (case a25 => k_is)
    (case l25 => k_is)
    (case c25 => k_is)
    (case k25 => k_is)
    (case a26 => k_is)
    (case l26 => k_is)
    (case c26 => k_is)
    (case k26 => k_is)
    (case a27 => k_is)
    (case l27 => k_is)
    (case c27 => k_is)
    (case k27 => k_is)
    (case a28 => k_is)
    (case l28 => k_is)
    (case c28 => k_is)
    (case k28 => k_is)
    (case a29 => k_is)
    (case l29 => k_is)
    (case c29 => k_is)
    (case k29 => k_is)
    (case a30 => k_is)
    (case l30 => k_is)
    (case c30 => k_is)
    (case k30 => k_is)
    (case a31 => k_is)
    (case l31 => k_is)
    (case c31 => k_is)
    (case k31 => k_is)
    (case a32 => k_is)
    (case l32 => k_is)
    (case c32 => k_is)
    (case k32 => k_is)
    (case z1 => k_is)
    (case z2 => k_is)
    (case z3 => k_is)
    (case z4 => k_is)
    (case z5 => k_is)
    (case z6 => k_is)
    (case z7 => k_is)
    (case z8 => k_is)
    (case z9 => k_is)
    (case z10 => k_is)
    (case z11 => k_is)
    (case z12 => k_is)
    (case z13 => k_is)
    (case z14 => k_is)
    (case z15 => k_is)
    (case z16 => k_is)
    (case z17 => k_is)
    (case z18 => k_is)
    (case z19 => k_is)
